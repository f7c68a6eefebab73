"""Promise 3: gw_count counts whole tables in order, those that aren't alike, normal ones, and all."""

import itertools
import random
import unittest

from tablegroups.subgroups import gw_count
from tests.helper import (FULL, GROUP_TEXTS, LARGEST, LARGEST_ASKED, OUTSIDE, TOO_LONG_TEXTS, WRONG_TEXTS, Cases,
                          all_tables, asked_places, letters_of, same_from, to_bytes, whole_in_order)

LETTERS = "abcdefgh"


def count(n, what, text):
    return gw_count(n, what, to_bytes(text))


def counts(text, what, places):
    return [count(n, what, text)[0] for n in places]


def counted(text, n):
    """All four counts by all tables gone through."""
    whole = whole_in_order(text, n)
    unalike = {frozenset(same_from(rows, place) for place in range(n)) for rows in whole}
    normal = [rows for rows in whole if all(same_from(rows, place) == rows for place in range(n))]
    return [len(whole), len(unalike), len(normal), len(all_tables(text, n))]


class Ordinary(Cases):
    def test_one_letter(self):
        self.assertEqual(counts("a|", 0, range(1, 9)), [1] * 8)
        self.assertEqual(counts("a|", 1, range(1, 9)), [1] * 8)
        self.assertEqual(counts("a|", 2, range(1, 9)), [1] * 8)
        self.assertEqual(counts("a|", 3, range(1, 9)), [1, 2, 6, 24, 120, 720, 5040, 40320])
        for what in range(3):
            self.assertEqual(counts("a|a6", what, range(1, 9)), [1, 1, 1, 0, 0, 1, 0, 0])
        self.assertEqual(counts("a|a2", 3, range(1, 9)), [1, 2, 4, 10, 26, 76, 232, 764])
        self.assertEqual(counts("a|a", 3, range(1, 9)), [1] * 8)

    def test_two_letters_without_words(self):
        for text in ("ab|", "ba|", "xc|", "ab|a0", "ab|aA,(ab)3(ab)-3"):
            self.assertEqual(counts(text, 0, range(1, 6)), [1, 3, 13, 71, 461])
            self.assertEqual(counts(text, 1, range(1, 6)), [1, 3, 7, 26, 97])
            self.assertEqual(counts(text, 2, range(1, 6)), [1, 3, 4, 7, 6])
            self.assertEqual(counts(text, 3, range(1, 6)), [1, 4, 36, 576, 14400])

    def test_letters_that_change_places(self):
        for what in range(3):
            self.assertEqual(counts("ab|[a,b]", what, range(1, 8)), [1, 3, 4, 7, 6, 12, 8])
            self.assertEqual(counts("abc|[a,b],[b,c],[a,c]", what, range(1, 6)), [1, 7, 13, 35, 31])
        self.assertEqual(counts("ba|[a,b]", 3, range(1, 6)), [1, 4, 18, 120, 840])

    def test_a_group_without_subgroups_of_most_indexes(self):
        self.assertEqual(counts("ab|a2,b3,(ab)5", 0, range(1, 8)), [1, 0, 0, 0, 5, 6, 0])
        self.assertEqual(counts("ab|a2,b3,(ab)5", 1, range(1, 8)), [1, 0, 0, 0, 1, 1, 0])
        self.assertEqual(counts("ab|a2,b3,(ab)5", 2, range(1, 8)), [1, 0, 0, 0, 0, 0, 0])
        self.assertEqual(counts("ab|a2,b3,(ab)5", 3, range(1, 6)), [1, 1, 1, 1, 121])
        for what in range(3):
            self.assertEqual(counts("ab|a,b", what, range(1, 8)), [1, 0, 0, 0, 0, 0, 0])
        self.assertEqual(counts("ab|a,b", 3, range(1, 8)), [1] * 7)

    def test_known_groups(self):
        self.assertEqual(counts("ab|a2,b3", 0, range(1, 8)), [1, 1, 4, 8, 5, 22, 42])
        self.assertEqual(counts("ab|a2,b2,(ab)3", 0, range(1, 7)), [1, 1, 3, 0, 0, 1])
        self.assertEqual(counts("ab|a2,b2,(ab)3", 1, range(1, 7)), [1, 1, 1, 0, 0, 1])
        self.assertEqual(counts("ab|a2,b2,(ab)3", 2, range(1, 7)), [1, 1, 0, 0, 0, 1])
        self.assertEqual(counts("ab|a2,b2", 0, range(1, 8)), [1, 3, 3, 5, 5, 7, 7])
        self.assertEqual(counts("ab|a4,a2B2,abaB", 2, range(1, 8)), [1, 3, 0, 1, 0, 0, 0])

    def test_three_letters_and_more(self):
        self.assertEqual(counts("abc|", 0, range(1, 5)), [1, 7, 97, 2143])
        self.assertEqual(counts("abcd|", 0, range(1, 4)), [1, 15, 625])
        self.assertEqual(counts("abcde|", 0, range(1, 4)), [1, 31, 3841])
        self.assertEqual(counts("abcdefgh|", 0, (1, 2)), [1, 255])
        self.assertEqual(counts("abcdefgh|", 3, (1, 2)), [1, 256])
        self.assertEqual(counts("abcdefgh|a2,b2,c2,d2,e2,f2,g2,h2", 1, (1, 2)), [1, 255])


class ComparedWithAllTables(unittest.TestCase):
    def compare(self, text, places):
        for n in places:
            with self.subTest(text=text, n=n):
                self.assertEqual([count(n, what, text)[0] for what in range(4)], counted(text, n))

    def test_every_small_n(self):
        for text in GROUP_TEXTS:
            self.compare(text, asked_places(text))

    def test_largest_that_may_be_asked(self):
        for text in ("a|a6", "ba|a2,b3", "ab|(ab)2,[a,b]3", "cab|a2,b2,[a,c]", "dabc|[a,b],c2d", "eabdc|ab,cdE,a3"):
            self.compare(text, [LARGEST_ASKED[len(letters_of(text))]])

    def test_many_texts(self):
        chosen = random.Random(11)
        for again in range(150):
            letters = chosen.choice(("a", "ab", "ba", "bac"))
            signs = letters + letters.upper()
            words = ["".join(chosen.choice(signs) for sign in range(chosen.randint(1, 6)))
                     for word in range(chosen.randint(0, 3))]
            self.compare(letters + "|" + ",".join(words), (1, 2, 3))

    def test_every_short_word(self):
        for length in (1, 2, 3):
            for word in itertools.product("aAbB", repeat=length):
                self.compare("ba|" + "".join(word), (2, 3))


class Powers(Cases):
    def test_every_power(self):
        for power in range(1000):
            for n in range(1, 9):
                expected = [int(power % n == 0)]
                self.assertEqual(count(n, 0, f"a|a{power}"), expected, (n, power))
                self.assertEqual(count(n, 0, f"a|(A)-{power}"), expected, (n, power))

    def test_every_power_of_brackets(self):
        # With ab as a letter in the place of a, it's the same group.
        for power in range(0, 131):
            for n, what in ((2, 3), (3, 1), (4, 0)):
                self.assertEqual(count(n, what, f"ab|(ab)-{power}"), count(n, what, f"ab|a{power}"), (n, power))
                self.assertEqual(count(n, what, f"ab|[a,b]{power}"), count(n, what, f"ba|[A,b]-{power}"), (n, power))

    def test_powers_compared_with_all_tables(self):
        for power in list(range(-7, 14)) + [23, 24, 25, -59, 60, 61, 119, 418, 419, 840, 997]:
            for text in (f"ab|a{power}b", f"ba|(ab){power}a2", f"ab|[a,b]{power},((aB){power})2b3"):
                for n in (2, 3):
                    self.assertEqual([count(n, what, text)[0] for what in range(4)], counted(text, n), (text, n))


class Edges(Cases):
    def test_one_place(self):
        for text in GROUP_TEXTS:
            for what in range(4):
                self.assertEqual(count(1, what, text), [1], text)

    def test_largest_by_the_letters(self):
        # The same group told by other letters: in another order, or with fewer of them.
        told_twice = (("a|a7", "z|z-7,z0"), ("ab|b5", "ba|A5"), ("abc|a2,b2,c2,(ab)2", "cba|a2,b2,c2,(ba)2"),
                      ("abcd|ab,cd", "ac|"), ("abcde|ab,cd,ce", "ac|"), ("abcdef|a,bc,def", "bde|"),
                      ("abcdefg|a,b,cd,efg", "cef|"), ("abcdefgh|ab,cd,ef,gh,a2", "aceg|a2"))
        for text, other in told_twice:
            n = LARGEST[len(letters_of(text))]
            for what in range(4):
                self.assertGreater(count(n, 3, text)[0], 0)
                self.assertEqual(count(n, what, text), count(n, what, other), text)

    def test_largest_by_the_letters_without_words(self):
        self.assertEqual(count(8, 0, "a|"), [1])
        self.assertEqual(count(7, 0, "ab|"), [29093])
        self.assertEqual(count(7, 3, "ab|"), [5040 ** 2])

    def test_just_above_the_range_by_the_letters(self):
        for number in range(2, 9):
            for n in range(LARGEST[number] + 1, 9):
                for text in (LETTERS[:number] + "|", LETTERS[:number][::-1] + "|a,b", LETTERS[:number] + "|a2,[a,b]"):
                    self.each(count, [(n, what, text, [-2]) for what in range(4)])

    def test_range_by_the_letters_comes_behind_the_text(self):
        for n in range(1, 9):
            for what in range(4):
                self.all_answer([-3], lambda text: count(n, what, text),
                                WRONG_TEXTS + ("abcdefgh|i", "abcdefgh|a,", "abc|d"))
                self.all_answer([-6], lambda text: count(n, what, text), TOO_LONG_TEXTS)

    def test_n_outside_comes_ahead_of_the_text(self):
        for n in OUTSIDE:
            for what in (-1, 0, 1, 2, 3, 4):
                self.all_answer([-2], lambda text: count(n, what, text),
                                ("a|", "ab|a2", "abcdefgh|") + WRONG_TEXTS + TOO_LONG_TEXTS)

    def test_what_outside_comes_ahead_of_the_text(self):
        for what in (-1, 4, 5, -2147483648, 2147483647):
            for n in (0, 1, 3, 8, 9):
                self.all_answer([-2], lambda text: count(n, what, text),
                                ("a|", "ab|a2", "abcdefgh|") + WRONG_TEXTS + TOO_LONG_TEXTS)

    def test_long_words(self):
        self.assertEqual(counts("ab|" + ",".join([FULL] * 32), 0, range(1, 6)), counts("ab|a4", 0, range(1, 6)))
        self.assertEqual(counts("ab|a999a999a999(aA)549", 0, range(1, 6)), counts("ab|a3", 0, range(1, 6)))
        self.assertEqual(counts("ab|(ab)999(ab)999(ab)50", 3, range(1, 6)), counts("ab|(ab)4", 3, range(1, 6)))

    def test_more_bytes_than_a_text_may_have(self):
        self.assertEqual(count(1, 0, " " * 4094 + "a|a"), [-2])


class CallsStandAlone(Cases):
    def test_each_by_itself(self):
        cases = [(n, what, to_bytes(text)) for n in (0, 1, 3, 8) for what in (-1, 0, 1, 2, 3)
                 for text in ("ab|a2,b3", "ba|", "a|a", "", "ab|c", "a|(a64)65", " a b | [ a , b ] ")]
        first = self.stands_alone(gw_count, cases)
        at = cases.index((3, 0, to_bytes("ab|a2,b3")))
        self.assertEqual(first[at:at + 7], [[4], [13], [0], [-3], [-3], [-6], [4]])


if __name__ == "__main__":
    unittest.main()
