"""What several tests use: texts as bytes, and words worked out by Python itself instead of by the program."""

import functools
import itertools
import math
import re
import unittest

# Written out, 4096 letters in 20 bytes.
FULL = "a999a999a999a999a100"
TOO_LONG_TEXTS = ("a|" + FULL + "a", "ab|(a64)65", "ab|b,[a999a25,b999a26]0", "ab|(" + FULL + "b)0",
                  "abc|a," + FULL + "c,?", "abcdefgh|" + "a," * 40 + FULL + "h")
WRONG_TEXTS = ("", " ", "|", "a", "ab", "|a", "aa|", "A|a", "abcdefghi|", "a||", "a|a|", "ab|c", "ab|,", "ab|a,", "ab|,a",
               "ab|()", "ab|(a", "ab|a)", "ab|(a]", "ab|[a]", "ab|[a,b,a]", "ab|(a,b)", "ab|[a,]", "ab|1", "ab|a-",
               "ab|a1234", "ab|a1-1", "ab|a?", "ab|a\n", "ab|" + ",".join(["a"] * 33), "ab|b,c," + FULL + "a",
               "ab|" + "(" * 33 + "a" + ")" * 33, "ab|" + "(" * 2000)

# Words of a group of the letters a and b alone that are wrong, and that are too long.
WRONG_WORDS = ("", " ", "    ", "c", "C", "ac", "(c)", "z2", "ab|", "|", "ab|a", "a|b", ",", "a,b", "a,", ",a", "(a),b",
               "[a,b],a", "()", "a()", "(", ")", "(a", "a)", "(a))", "((a)", "(a]", "[a,b)", "[a]", "[a,]", "[,a]", "[,]",
               "[]", "[a,b,a]", "(a,b)", "[(a,b)]", "]", "[", "1", "2a", "-1", "-", "a-", "a--1", "a1234", "a-1234", "a0000",
               "a1-1", "a1-", "(-1)", "[1,a]", "(a)-", "[a,b]1234", "a+b", "a^2", "a.", "a\n", "a\t", "a\0", "a?", "\xff",
               "(" * 33 + "a" + ")" * 33, "(" * 2000 + "a" + ")" * 2000, "[" * 33 + "a0" + ",a0]" * 33, "(" * 4096,
               "a,(a64)65", "c(a64)65", "a|(a64)65", FULL + "a1000", FULL + "c", FULL + ",a", "(a64)1000", "[" + FULL + "]")
TOO_LONG_WORDS = (FULL + "a", "a" + FULL, "b(a64)64", "(a64)65", "(a64)-65", "(" + FULL + "a)0", "[a999a25,b999b26]",
                  "[a999a25,b999b26]0", "(a999)999", FULL + "b,a", FULL + "a|", FULL + "a)", "(" + FULL + "b", "(a64)65c",
                  "(" * 13 + "a" + ")2" * 13)

# The largest n by the letters, and the largest one that n! taken to their number leaves at 20000 or below.
LARGEST = {1: 8, 2: 7, 3: 5, 4: 4, 5: 3, 6: 3, 7: 3, 8: 3}
LARGEST_ASKED = {1: 7, 2: 5, 3: 4, 4: 3, 5: 3, 6: 2, 7: 2, 8: 2}
OUTSIDE = (0, 9, -1, 10, -8, 100, 2147483647, -2147483648)

GROUP_TEXTS = (
    "a|", "a|a", "a|a2", "z|Z6", "a|a4,a6", "a|a5", "a|a12", "a|a0",
    "ab|", "ba|", "ab|a", "ab|b", "ba|b", "ab|ab", "ab|aB", "ab|[a,b]", "ba|[a,b]", "ab|a,b", "ab|a2,b3", "ba|a2,b3",
    "ab|a2,b2", "ab|a2,b2,(ab)3", "ab|a2,b2,(ab)4", "ba|(ab)-4,B2,A-2", "ab|a2,b3,(ab)3", "ab|a2,b3,(ab)4",
    "ab|a2,b3,(ab)5", "ab|a4,b4,[a,b]", "ab|abAB,a3", "ba|abaB", "ab|abaBAB", "ab|a2b3", "ba|a2b3", "ab|a3,b3,(ab)3",
    "ab|a4,a2b2,baba-1", "ab|[a,[a,b]],b2", "ab|(a2b)2,[a,b]3", "ab|abA-1B-2", "xy|y5,xyXY2", "ab|[a,b]2", "ab|b0a0",
    "ab | a - 2 , ( b ) 3 , [ a , b ] 2", "ab|" + ",".join(["(ab)6"] * 32), "ab|a60b60,(ab)120", "ab|aA,a999A997",
    "abc|", "cab|", "abc|a2,b2,c2", "cba|a2,bC,[a,b]", "bca|abc", "abc|[a,b],[b,c],[c,a]", "abc|a2,b2,c2,(ab)3,(bc)3,(ac)2",
    "cab|a2b2c2", "abc|a,b", "acb|[a,b]c-1", "abc|a3,b2,c4,abc", "abcd|", "dcba|[a,b][c,d]", "abcd|a2,b2,c2,d2",
    "badc|ab,cd", "abcde|a,b2,c3,de", "abcdef|abc,def", "abcdefg|ab,cd,ef", "hgfedcba|abcdefgh", "abcdefgh|a,b,c,d,e,f,g",
)


def to_bytes(text):
    return [ord(sign) for sign in text]


def words_of(text):
    """The words of a text that is right: what stands between the commas outside of brackets."""
    words, depth = [""], 0
    for sign in text.partition("|")[2].replace(" ", ""):
        depth += (sign in "([") - (sign in ")]")
        if sign == "," and depth == 0:
            words.append("")
        else:
            words[-1] += sign
    return [word for word in words if word]


def letters_of(text):
    return text.partition("|")[0].replace(" ", "")


def as_python(word):
    """A word as what Python works out: with * between its parts and ** ahead of its powers."""
    result = ""
    for token in re.findall(r"[a-zA-Z]|-?[0-9]+|[()\[\],]", word.replace(" ", "")):
        if token[-1].isdigit():
            result += f"**({int(token)})"
            continue
        if (token.isalpha() or token in "([") and result and result[-1] not in "(,":
            result += "*"
        if token.isalpha():
            result += f"value[{token!r}]"
        else:
            result += {"(": "(", ")": ")", "[": "pair(", "]": ")", ",": ","}[token]
    return compile(result, word, "eval")


def work_out(code, value):
    return eval(code, {"value": value, "pair": lambda x, y: x * y * x ** -1 * y ** -1})


class Moves:
    """Where each place is moved to; of a product, the left one moves first."""

    def __init__(self, places):
        self.places = tuple(places)

    def __mul__(self, other):
        return Moves(other.places[place] for place in self.places)

    def __pow__(self, power):
        if power < 0:
            return Moves(self.places.index(place) for place in range(len(self.places))) ** -power
        result, square = Moves(range(len(self.places))), self
        while power:
            if power % 2:
                result = result * square
            square, power = square * square, power // 2
        return result


def values_of(text, rows):
    value = {}
    for letter, row in zip(letters_of(text), rows):
        value[letter] = Moves(row)
        value[letter.upper()] = value[letter] ** -1
    return value


def word_moves(text, word, rows):
    return work_out(as_python(word), values_of(text, rows)).places


def asked_places(text):
    """Each n that a text's tables may be asked for, if there are few enough of them."""
    letters = len(letters_of(text))
    return [n for n in range(1, LARGEST[letters] + 1) if math.factorial(n) ** letters <= 1300]


@functools.lru_cache(maxsize=None)
def all_tables(text, n):
    """All tables of n places that are the group's, a row for each letter: all tables there are gone through."""
    codes = [as_python(word) for word in dict.fromkeys(words_of(text))]
    nothing = tuple(range(n))
    found = []
    for rows in itertools.product(itertools.permutations(range(n)), repeat=len(letters_of(text))):
        value = values_of(text, rows)
        if all(work_out(code, value).places == nothing for code in codes):
            found.append(rows)
    return found


def met_from(rows, start):
    """The places in the order in which they're met: at each by each letter and then its inverse."""
    met = [start]
    for place in met:
        for row in rows:
            for near in (row[place], row.index(place)):
                if near not in met:
                    met.append(near)
    return met


def same_from(rows, start):
    met = met_from(rows, start)
    return tuple(tuple(met.index(row[place]) for place in met) for row in rows)


def whole_in_order(text, n):
    """The group's whole tables in order, in the order in which tables go."""
    return sorted(rows for rows in all_tables(text, n) if met_from(rows, 0) == list(range(n)))


class Fixed(list):
    """A list that can't be changed."""

    def refuse(self, *args, **kwargs):
        raise AssertionError("what is handed in was changed")

    append = extend = insert = pop = remove = clear = sort = reverse = refuse
    __setitem__ = __delitem__ = __iadd__ = __imul__ = refuse


class Cases(unittest.TestCase):
    def each(self, call, cases):
        """Each case: what is handed in, and then what must be answered."""
        for case in cases:
            with self.subTest(case=case):
                self.assertEqual(call(*case[:-1]), case[-1])

    def all_answer(self, expected, call, texts):
        self.each(call, [(text, expected) for text in texts])

    def stands_alone(self, call, cases):
        """Lists that are handed in stay as they were, and no call leaves anything behind for another."""
        first = []
        for case in cases:
            handed = [list(given) if isinstance(given, list) else given for given in case]
            first.append(call(*handed))
            self.assertEqual(handed, list(case))
            self.assertIs(type(first[-1]), list)
            self.assertEqual({type(number) for number in first[-1]}, {int})
            self.assertEqual(call(*[Fixed(given) if isinstance(given, list) else given for given in case]), first[-1])
        self.assertEqual([call(*case) for case in reversed(cases)], first[::-1])
        for case, expected in zip(cases, first):
            answer = call(*case)
            answer.append(5)
            self.assertEqual(call(*case), expected)
        return first
