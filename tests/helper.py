"""What several tests use: texts as bytes, and words worked out by Python itself instead of by the program."""

import re
import unittest

# Written out, 4096 letters in 20 bytes.
FULL = "a999a999a999a999a100"
TOO_LONG_TEXTS = ("a|" + FULL + "a", "ab|(a64)65", "ab|b,[a999a25,b999a26]0", "ab|(" + FULL + "b)0",
                  "abc|a," + FULL + "c,?", "abcdefgh|" + "a," * 40 + FULL + "h")
WRONG_TEXTS = ("", " ", "|", "a", "ab", "|a", "aa|", "A|a", "abcdefghi|", "a||", "a|a|", "ab|c", "ab|,", "ab|a,", "ab|,a",
               "ab|()", "ab|(a", "ab|a)", "ab|(a]", "ab|[a]", "ab|[a,b,a]", "ab|(a,b)", "ab|[a,]", "ab|1", "ab|a-",
               "ab|a1234", "ab|a1-1", "ab|a?", "ab|a\n", "ab|" + ",".join(["a"] * 33), "ab|b,c," + FULL + "a",
               "ab|" + "(" * 33 + "a" + ")" * 33, "ab|" + "(" * 2000)


def to_bytes(text):
    return [ord(sign) for sign in text]


def words_of(text):
    """The words of a text that is right: what stands between the commas outside of brackets."""
    words, depth = [""], 0
    for sign in text.partition("|")[2].replace(" ", ""):
        depth += (sign in "([") - (sign in ")]")
        if sign == "," and depth == 0:
            words.append("")
        else:
            words[-1] += sign
    return [word for word in words if word]


def letters_of(text):
    return text.partition("|")[0].replace(" ", "")


def as_python(word):
    """A word as what Python works out: with * between its parts and ** ahead of its powers."""
    result = ""
    for token in re.findall(r"[a-zA-Z]|-?[0-9]+|[()\[\],]", word.replace(" ", "")):
        if token[-1].isdigit():
            result += f"**({int(token)})"
            continue
        if (token.isalpha() or token in "([") and result and result[-1] not in "(,":
            result += "*"
        if token.isalpha():
            result += f"value[{token!r}]"
        else:
            result += {"(": "(", ")": ")", "[": "pair(", "]": ")", ",": ","}[token]
    return compile(result, word, "eval")


def work_out(code, value):
    return eval(code, {"value": value, "pair": lambda x, y: x * y * x ** -1 * y ** -1})


class Fixed(list):
    """A list that can't be changed."""

    def refuse(self, *args, **kwargs):
        raise AssertionError("what is handed in was changed")

    append = extend = insert = pop = remove = clear = sort = reverse = refuse
    __setitem__ = __delitem__ = __iadd__ = __imul__ = refuse


class Cases(unittest.TestCase):
    def each(self, call, cases):
        """Each case: what is handed in, and then what must be answered."""
        for case in cases:
            with self.subTest(case=case):
                self.assertEqual(call(*case[:-1]), case[-1])

    def all_answer(self, expected, call, texts):
        self.each(call, [(text, expected) for text in texts])

    def stands_alone(self, call, cases):
        """Lists that are handed in stay as they were, and no call leaves anything behind for another."""
        first = []
        for case in cases:
            handed = [list(given) if isinstance(given, list) else given for given in case]
            first.append(call(*handed))
            self.assertEqual(handed, list(case))
            self.assertIs(type(first[-1]), list)
            self.assertEqual({type(number) for number in first[-1]}, {int})
            self.assertEqual(call(*[Fixed(given) if isinstance(given, list) else given for given in case]), first[-1])
        self.assertEqual([call(*case) for case in reversed(cases)], first[::-1])
        for case, expected in zip(cases, first):
            answer = call(*case)
            answer.append(5)
            self.assertEqual(call(*case), expected)
        return first
