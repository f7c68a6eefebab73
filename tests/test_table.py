"""Promise 4: gw_table tells the j-th whole table in order that's the group's."""

import random
import unittest

from tablegroups.subgroups import gw_count, gw_table
from tests.helper import (GROUP_TEXTS, LARGEST, LARGEST_ASKED, OUTSIDE, TOO_LONG_TEXTS, WRONG_TEXTS, Cases,
                          asked_places, letters_of, met_from, to_bytes, whole_in_order, word_moves, words_of)

LETTERS = "abcdefgh"
LARGEST_J = 9223372036854775807


def table(n, j, text):
    return gw_table(n, j, to_bytes(text))


def tables(n, text):
    """The tables of each j, up to the first that gives -5."""
    found = []
    while len(found) < 10000:
        answer = table(n, len(found), text)
        if answer == [-5]:
            return found
        found.append(answer)
    raise AssertionError("there's no end of tables")


def flat(rows):
    return [0] + [place for row in rows for place in row]


class Ordinary(Cases):
    def test_one_letter(self):
        for n in range(1, 9):
            self.assertEqual(len(tables(n, "a|")), 1)
        self.assertEqual(tables(1, "a|"), [[0, 0]])
        self.assertEqual(tables(2, "a|"), [[0, 1, 0]])
        # The letter's inverse is looked at right behind it, so it's 2 that moves to 0.
        self.assertEqual(tables(3, "a|"), [[0, 1, 2, 0]])
        self.assertEqual(tables(4, "a|"), [[0, 1, 3, 0, 2]])
        self.assertEqual(tables(4, "a|a2"), [])
        self.assertEqual(tables(6, "a|a6"), tables(6, "z|"))

    def test_two_letters(self):
        self.assertEqual(tables(1, "ab|"), [[0, 0, 0]])
        self.assertEqual(tables(2, "ab|"), [[0, 0, 1, 1, 0], [0, 1, 0, 0, 1], [0, 1, 0, 1, 0]])
        self.assertEqual(tables(2, "ab|a"), [[0, 0, 1, 1, 0]])
        self.assertEqual(tables(2, "ba|a"), [[0, 1, 0, 0, 1]])
        self.assertEqual(tables(3, "ab|a2,b3"),
                         [[0, 0, 1, 2, 1, 2, 0], [0, 0, 2, 1, 1, 2, 0], [0, 1, 0, 2, 1, 2, 0], [0, 1, 0, 2, 2, 0, 1]])
        self.assertEqual(tables(3, "ab|a2,b2,(ab)3"),
                         [[0, 0, 2, 1, 1, 0, 2], [0, 1, 0, 2, 0, 2, 1], [0, 1, 0, 2, 2, 1, 0]])

    def test_no_table(self):
        for text in ("ab|a,b", "ab|a2,b3,(ab)5", "a|a", "abc|a,b,c"):
            for n in (2, 3, 4):
                self.assertEqual(table(n, 0, text), [-5])

    def test_word_by_letters_from_the_left(self):
        for text in ("ab|a2bAB", "ba|a2bAB", "ab|abaBBB", "abc|abC,bcA"):
            for n in (1, 2, 3):
                self.assertEqual(tables(n, text), [flat(rows) for rows in whole_in_order(text, n)])


class ComparedWithAllTables(unittest.TestCase):
    def compare(self, text, n):
        with self.subTest(text=text, n=n):
            found = tables(n, text)
            self.assertEqual(found, [flat(rows) for rows in whole_in_order(text, n)])
            self.assertEqual([len(found)], gw_count(n, 0, to_bytes(text)))

    def test_every_small_n(self):
        for text in GROUP_TEXTS:
            for n in asked_places(text):
                if gw_count(n, 0, to_bytes(text))[0] < 100:
                    self.compare(text, n)

    def test_largest_that_may_be_asked(self):
        for text in ("a|a7", "ba|a2,b3", "ab|a2,b2,(ab)5", "cab|a2,b2,[a,c],bc", "dabc|[a,b],c2d,a2b", "eabdc|ab,cdE,a3"):
            self.compare(text, LARGEST_ASKED[len(letters_of(text))])

    def test_many_texts(self):
        chosen = random.Random(13)
        for again in range(60):
            letters = chosen.choice(("a", "ab", "ba", "bac"))
            signs = letters + letters.upper()
            words = ["".join(chosen.choice(signs) for sign in range(chosen.randint(1, 6)))
                     for word in range(chosen.randint(1, 3))]
            self.compare(letters + "|" + ",".join(words), chosen.choice((2, 3)))


class WhatATableIs(unittest.TestCase):
    def test_whole_in_order_and_the_groups(self):
        for text, n in (("ab|a2,b3", 7), ("ba|[a,b]", 6), ("abc|a2,b2,c2,(ab)2,(ac)2", 5), ("abcd|ab,cd,a3", 4),
                        ("hgfedcba|ab,bc,cd,de,ef,fg", 3), ("a|", 8)):
            found = tables(n, text)
            self.assertEqual(found, sorted(found))
            self.assertEqual([len(found)], gw_count(n, 0, to_bytes(text)))
            self.assertEqual(len({tuple(answer) for answer in found}), len(found))
            for answer in found:
                rows = [tuple(answer[at:at + n]) for at in range(1, len(answer), n)]
                self.assertEqual(len(rows), len(letters_of(text)))
                self.assertTrue(all(sorted(row) == list(range(n)) for row in rows))
                self.assertEqual(met_from(rows, 0), list(range(n)))
                for word in words_of(text):
                    self.assertEqual(word_moves(text, word, rows), tuple(range(n)))


class Edges(Cases):
    def test_one_place(self):
        for text in GROUP_TEXTS:
            self.assertEqual(table(1, 0, text), [0] * (len(letters_of(text)) + 1))
            self.assertEqual(table(1, 1, text), [-5])

    def test_large_j(self):
        for j in (461, 462, 2147483647, 2147483648, 4294967296, 2 ** 63 - 2, LARGEST_J):
            self.assertEqual(table(5, j, "ab|"), [-5])
            self.assertEqual(table(1, j, "ab|"), [-5])
        self.assertEqual(table(5, 460, "ab|"), flat(whole_in_order("ab|", 5)[460]))

    def test_j_below_zero_comes_ahead_of_the_text(self):
        for j in (-1, -2, -2 ** 31, -2 ** 63):
            for n in (0, 1, 3, 8, 9):
                self.all_answer([-2], lambda text: table(n, j, text),
                                ("a|", "ab|a2", "abcdefgh|") + WRONG_TEXTS + TOO_LONG_TEXTS)

    def test_n_outside_comes_ahead_of_the_text(self):
        for n in OUTSIDE:
            for j in (-1, 0, 1, LARGEST_J):
                self.all_answer([-2], lambda text: table(n, j, text),
                                ("a|", "ab|a2", "abcdefgh|") + WRONG_TEXTS + TOO_LONG_TEXTS)

    def test_largest_by_the_letters(self):
        for number in range(1, 9):
            n = LARGEST[number]
            letters = LETTERS[:number]
            # All letters do the same, so there's one table.
            text = letters + "|" + ",".join(letters[0] + letter.upper() for letter in letters[1:])
            self.assertEqual(table(n, 0, text), [0] + table(n, 0, "a|")[1:] * number)
            self.assertEqual(table(n, 1, text), [-5])

    def test_just_above_the_range_by_the_letters(self):
        for number in range(2, 9):
            for n in range(LARGEST[number] + 1, 9):
                for text in (LETTERS[:number] + "|", LETTERS[:number][::-1] + "|a,b", LETTERS[:number] + "|a2,[a,b]"):
                    self.each(table, [(n, j, text, [-2]) for j in (0, 1, LARGEST_J)])

    def test_refused_texts(self):
        for n in range(1, 9):
            for j in (0, 5, LARGEST_J):
                self.all_answer([-3], lambda text: table(n, j, text), WRONG_TEXTS + ("abcdefgh|i", "abcdefgh|a,"))
                self.all_answer([-6], lambda text: table(n, j, text), TOO_LONG_TEXTS)

    def test_more_bytes_than_a_text_may_have(self):
        self.assertEqual(table(1, 0, " " * 4094 + "a|a"), [-2])


class CallsStandAlone(Cases):
    def test_each_by_itself(self):
        cases = [(n, j, to_bytes(text)) for n in (0, 1, 3, 8) for j in (-1, 0, 2, 99)
                 for text in ("ab|a2,b3", "ba|", "a|a", "", "ab|c", "a|(a64)65", " a b | [ a , b ] ")]
        first = self.stands_alone(gw_table, cases)
        at = cases.index((3, 2, to_bytes("ab|a2,b3")))
        self.assertEqual([len(answer) for answer in first[at:at + 2]], [7, 7])
        self.assertEqual(first[at + 2:at + 6], [[-5], [-3], [-3], [-6]])


if __name__ == "__main__":
    unittest.main()
