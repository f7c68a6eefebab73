"""Promise 2: gw_free tells what's left if letters may change places."""

import itertools
import math
import random
import unittest

from tablegroups.subgroups import gw_free
from tests.helper import (FULL, TOO_LONG_TEXTS, WRONG_TEXTS, Cases, as_python, letters_of, to_bytes, words_of,
                          work_out)

PLENTY = 2147483647


class Sums:
    """How often a word has each letter."""

    def __init__(self, numbers):
        self.numbers = numbers

    def __mul__(self, other):
        return Sums([x + y for x, y in zip(self.numbers, other.numbers)])

    def __pow__(self, power):
        return Sums([x * power for x in self.numbers])


def sums_of(text):
    letters = letters_of(text)
    value = {}
    for place, letter in enumerate(letters):
        value[letter] = Sums([int(at == place) for at in range(len(letters))])
        value[letter.upper()] = value[letter] ** -1
    return [work_out(as_python(word), value).numbers for word in words_of(text)]


def determinant(rows):
    """By Bareiss: no fraction comes up, as each number is divided by the pivot before."""
    rows, sign, before = [list(row) for row in rows], 1, 1
    for at in range(len(rows) - 1):
        below = [place for place in range(at, len(rows)) if rows[place][at]]
        if not below:
            return 0
        if below[0] != at:
            rows[at], rows[below[0]], sign = rows[below[0]], rows[at], -sign
        for place in range(at + 1, len(rows)):
            rows[place] = [(x * rows[at][at] - y * rows[place][at]) // before for x, y in zip(rows[place], rows[at])]
        before = rows[at][at]
    return sign * rows[-1][-1]


def by_minors(rows, letters):
    """The sizes by the greatest common divisors of all k by k determinants, one k after another."""
    sizes, before = [], 1
    for k in range(1, min(len(rows), letters) + 1):
        now = 0
        for chosen in itertools.combinations(rows, k):
            for columns in itertools.combinations(range(letters), k):
                now = math.gcd(now, determinant([[row[column] for column in columns] for row in chosen]))
        if now == 0:
            break
        sizes.append(now // before)
        before = now
    return [size for size in sizes if size > 1] + [0] * (letters - len(sizes))


def text_of_rows(rows, letters):
    return "abcdefgh"[:letters] + "|" + ",".join(
        "".join("abcdefgh"[at] + str(number) for at, number in enumerate(row)) for row in rows)


def answer(sizes):
    signs = " ".join(str(size) for size in sizes)
    return [len(signs)] + to_bytes(signs)


def free(text, most=PLENTY):
    return gw_free(most, to_bytes(text))


class FreeCases(Cases):
    def sizes(self, cases):
        self.each(free, [(text, answer(sizes)) for text, sizes in cases])


class Ordinary(FreeCases):
    def test_no_word(self):
        for number in range(1, 9):
            self.sizes([("abcdefgh"[:number] + "|", [0] * number), ("zyxwvuts"[:number] + "|", [0] * number)])

    def test_bytes_as_they_are(self):
        self.assertEqual(free("ab|"), [3, 48, 32, 48])
        self.assertEqual(free("abc|a2,b12"), [6, 50, 32, 49, 50, 32, 48])
        self.assertEqual(free("ab|a,b"), [0])

    def test_one_letter(self):
        self.sizes([("a|a", []), ("a|A", []), ("a|aa", [2]), ("a|A5", [5]), ("a|a12,a18", [6]), ("a|a4,a9", []),
                    ("a|a0", [0]), ("a|aA", [0]), ("a|a6,a10,a15", []), ("a|a-12", [12]), ("z|z999", [999])])

    def test_one_word(self):
        self.sizes([("ab|a", [0]), ("ab|b", [0]), ("ab|ab", [0]), ("ab|a2b2", [2, 0]), ("ab|a2b3", [0]),
                    ("ba|a4b6", [2, 0]), ("abc|a6b10c15", [0, 0]), ("abc|a6b12c18", [6, 0, 0])])

    def test_letters_cancel(self):
        self.sizes([("ab|[a,b]", [0, 0]), ("ab|abAB", [0, 0]), ("ab|[a2,b3]5", [0, 0]), ("ab|aBAb", [0, 0]),
                    ("ab|a3bA3B2", [0]), ("ab|(ab)3(ba)-3", [0, 0]), ("ab|a5A2", [3, 0]), ("ab|(aB)2b2", [2, 0])])

    def test_words_that_say_nothing_new(self):
        self.sizes([("ab|a2,a2,a2", [2, 0]), ("ab|a2,a4,a-6", [2, 0]), ("ab|ab,ba,AB,(ab)7", [0]),
                    ("ab|a2b,b2a,a3b3", [3]), ("ab|a0,b0,[a,b]", [0, 0]), ("abc|ab,bc,aC", [0])])

    def test_known_groups(self):
        self.sizes([("ab|a2,b3,(ab)5", []), ("ab|a2,b3,(ab)3", [3]), ("ab|a2,b3,(ab)4", [2]), ("ab|a4,a2b2,bab-1a", [2, 2]),
                    ("ab|a2,b2", [2, 2]), ("ab|a2,b2,(ab)3", [2]), ("ab|a2,b2,(ab)4", [2, 2]), ("ab|a2,b3", [6]),
                    ("abcd|[a,b][c,d]", [0, 0, 0, 0]), ("ab|aabb", [2, 0]), ("abc|aabbcc", [2, 0, 0]),
                    ("ab|abab-1", [2, 0]), ("ab|abaBAB", [0])])

    def test_more_words_than_letters_and_fewer(self):
        self.sizes([("ab|a4,b6,a2b2,a10b4", [2, 2]), ("ab|a6,b6,a3b3,a2b4", [6]), ("a|a30,a42,a70,a105", []),
                    ("abcd|a2b2,c3d3", [6, 0, 0]), ("abcdefgh|ab,cd", [0] * 6), ("abcdefgh|a2,b4", [2, 4] + [0] * 6)])

    def test_order_of_letters_doesnt_matter(self):
        for letters in itertools.permutations("abc"):
            self.sizes([("".join(letters) + "|a4,b6c2,a2c10", [2, 2, 60])])


class Form(FreeCases):
    def test_nothing_left(self):
        self.all_answer([0], free, ["a|a", "ab|a,b", "ab|ab,b", "ab|a2b,ab", "abcdefgh|a,b,c,d,e,f,g,h", "a|a2,a3",
                                    "ab|a2b3,a3b4", "ab|a2,b3,(ab)5"])

    def test_numbers_that_are_no_divisors_of_one_another(self):
        self.sizes([("ab|a2,b3", [6]), ("ab|a3,b2", [6]), ("ab|a4,b6", [2, 12]), ("ab|a6,b4", [2, 12]),
                    ("abc|a6,b10,c15", [30, 30]), ("abc|a2,b3,c5", [30]), ("abc|a4,b6,c9", [6, 36]),
                    ("abc|a4,b6,c10", [2, 2, 60]), ("abc|a12,b18,c30", [6, 6, 180]), ("abc|a2,b3", [6, 0]),
                    ("abcd|a2,b3,c4,d6", [2, 6, 12]), ("abcd|a6,b10,c15,d7", [30, 210]), ("abc|a8,b4,c2", [2, 4, 8]),
                    ("abcdefgh|a2,b3,c5,d7,e11,f13,g17,h19", [9699690]), ("abcd|a6,b10,c15", [30, 30, 0]),
                    ("abcdefgh|a2,b3,c2,d3,e2,f3,g2,h3", [6, 6, 6, 6])])

    def test_ones_are_left_out_and_zeros_come_last(self):
        self.sizes([("abc|a", [0, 0]), ("abc|b3", [3, 0, 0]), ("abc|c,b2", [2, 0]), ("abc|a,b,c4", [4]),
                    ("abcd|b,d10", [10, 0, 0])])

    def test_each_size_of_one_circle(self):
        for number in range(2, 1000):
            self.assertEqual(free(f"a|a{number}"), answer([number]))


class Large(FreeCases):
    def test_powers_of_three_digits(self):
        self.sizes([("ab|a999,b998", [999 * 998]), ("ab|a999,b666", [333, 1998]), ("ab|a960,b720", [240, 2880]),
                    ("a|" + FULL, [4096]), ("ab|(aaaa)999a100,b999b999", [2, 4096 * 999]),
                    ("ab|a997b991,a983b977", [abs(997 * 977 - 991 * 983)])])

    def test_many_letters(self):
        powers = [999, 998, 997, 995, 991, 989, 983, 979]
        text = "abcdefgh|" + ",".join(letter + str(power) for letter, power in zip("abcdefgh", powers))
        sizes = by_minors([[power if at == place else 0 for at in range(8)] for place, power in enumerate(powers)], 8)
        self.assertGreater(sizes[-1], 10 ** 20)
        self.sizes([(text, sizes)])

    def test_largest_numbers(self):
        text = "abcdefgh|" + ",".join(FULL.replace("a", letter) for letter in "abcdefgh")
        self.sizes([(text, [4096] * 8)])
        chosen = random.Random(7)
        for words in (7, 8, 9):
            rows = [[chosen.randint(-499, 499) for letter in range(8)] for word in range(words)]
            self.sizes([(text_of_rows(rows, 8), by_minors(rows, 8))])

    def test_many_words(self):
        chosen = random.Random(5)
        rows = [[6 * chosen.randint(-80, 80) for letter in range(8)] for word in range(32)]
        self.sizes([(text_of_rows(rows, 8), [6] * 8)])
        rows = [row[:6] + [row[0] + row[1], row[2] - row[5]] for row in rows]
        self.sizes([(text_of_rows(rows, 8), [6] * 6 + [0, 0])])

    def test_long_chain(self):
        self.sizes([("abcdefgh|aB2,bC2,cD2,dE2,eF2,fG2,gH2,h2", [2]),
                    ("abcdefgh|a2,ab2,bc2,cd2,de2,ef2,fg2,gh2", [256]),
                    ("abcdefgh|a99,ab99,bc99,cd99,de99,ef99,fg99,gh99", [99 ** 8]),
                    ("abcdefgh|a999,ab999,bc999,cd999,de999,ef999,fg999,gh999", [999 ** 8])])


class ComparedWithMinors(FreeCases):
    def test_all_small_rows(self):
        for numbers in itertools.product(range(-2, 5), repeat=4):
            rows = [list(numbers[:2]), list(numbers[2:])]
            self.assertEqual(free(text_of_rows(rows, 2)), answer(by_minors(rows, 2)), rows)

    def test_many_rows(self):
        chosen = random.Random(3)
        for letters, words, largest in ((1, 3, 99), (2, 3, 60), (3, 2, 30), (3, 3, 12), (3, 5, 12), (4, 4, 6), (5, 4, 9)):
            for again in range(60):
                rows = [[chosen.randint(-largest, largest) for letter in range(letters)] for word in range(words)]
                self.assertEqual(free(text_of_rows(rows, letters)), answer(by_minors(rows, letters)), rows)

    def test_rows_with_common_divisors(self):
        chosen = random.Random(4)
        for again in range(200):
            rows = [[chosen.choice((0, 0, 2, 4, 6, 9, 10, 12, 15, 30)) for letter in range(3)] for word in range(3)]
            self.assertEqual(free(text_of_rows(rows, 3)), answer(by_minors(rows, 3)), rows)

    def test_texts_with_brackets(self):
        for text in ("ab|(a2b)3,[a,b]2a4,(aB2)-5", "cab|(abc)2,(aB)4,[a,(bc)2]c6", "ab|((a2b)2b)-3,(A3(bA)2)4",
                     "xyz|(xy2Z3)6,[x,[y,z]],(zX)10y15", "ab | ( a b ) 1 2 , a - 8 "):
            self.assertEqual(free(text), answer(by_minors(sums_of(text), len(letters_of(text)))), text)


class Most(FreeCases):
    def test_exactly_as_many_and_one_less(self):
        for text in ("a|", "ab|", "abcdefgh|", "a|a2", "a|a10", "ab|a4,b6", "abc|a6,b10,c15", "ab|a999,b998"):
            number = free(text)[0]
            for most in (number, number + 1, number + 100):
                self.assertEqual(free(text, most), free(text), text)
            for most in range(number):
                self.assertEqual(free(text, most), [-1], text)

    def test_zero(self):
        self.each(free, [("a|a", 0, [0]), ("ab|a,b", 0, [0]), ("a|", 0, [-1]), ("a|a2", 0, [-1])])

    def test_below_zero_comes_ahead_of_the_text(self):
        for most in (-1, -2, -2147483648):
            self.all_answer([-2], lambda text: free(text, most), ("a|", "a|a", "ab|a2") + WRONG_TEXTS + TOO_LONG_TEXTS)

    def test_more_bytes_than_a_text_may_have(self):
        self.assertEqual(free(" " * 4094 + "a|a"), [-2])


class Refused(FreeCases):
    def test_wrong_texts(self):
        for most in (0, 1, PLENTY):
            self.all_answer([-3], lambda text: free(text, most), WRONG_TEXTS)

    def test_too_long(self):
        for most in (0, 1, PLENTY):
            self.all_answer([-6], lambda text: free(text, most), TOO_LONG_TEXTS)


class CallsStandAlone(FreeCases):
    def test_each_by_itself(self):
        cases = [(most, to_bytes(text)) for most in (-1, 0, 3, 99)
                 for text in ("ab|a4,b6", "ab|", "a|a", "", "ab|c", "a|(a64)65", " a b | [ a , b ] ")]
        first = self.stands_alone(gw_free, cases)
        self.assertEqual(first[:7], [[-2]] * 7)
        self.assertEqual(first[14:21], [[-1], answer([0, 0]), [0], [-3], [-3], [-6], answer([0, 0])])


if __name__ == "__main__":
    unittest.main()
