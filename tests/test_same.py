"""Promise 6: gw_same tells whether a word moves no place in any table of n or fewer places."""

import itertools
import random
import unittest

from tablegroups.subgroups import gw_same
from tests.helper import (FULL, GROUP_TEXTS, LARGEST, LARGEST_ASKED, OUTSIDE, TOO_LONG_TEXTS, TOO_LONG_WORDS, WRONG_TEXTS,
                          WRONG_WORDS, Cases, all_tables, asked_places, letters_of, to_bytes, word_moves)

LETTERS = "abcdefgh"


def same(n, text, word):
    return gw_same(n, to_bytes(text), to_bytes(word))


def answers(text, word, places):
    return [same(n, text, word)[0] for n in places]


def found(n, text, word):
    """The answer by all tables gone through, whole or not."""
    return [int(all(word_moves(text, word, rows) == tuple(range(places))
                    for places in range(1, n + 1) for rows in all_tables(text, places)))]


class Ordinary(Cases):
    def test_words_that_are_nothing(self):
        for text, words in (("ab|", ("a0", "aA", "[a,a]", "(ab)2BA(ab)-1", "[ab,(ab)3]")),
                            ("ab|a2,b3", ("a2", "b3", "aBa2bA", "a-4", "b6", "(a2b3)5")),
                            ("ab|[a,b]", ("[a,b]", "a2b3A2B3", "[b,a]2", "[[a,b],a]")),
                            ("ba|ab", ("ab", "ba", "a3b3", "(ab)9", "[a,b]")),
                            ("abc|a,bC", ("a", "bC", "cB", "[a,b]", "ab2C2"))):
            for word in words:
                for n in range(1, LARGEST_ASKED[len(letters_of(text))] + 1):
                    self.assertEqual(same(n, text, word), [1], (text, word, n))

    def test_one_letter(self):
        self.assertEqual(answers("a|", "a", range(1, 9)), [1, 0, 0, 0, 0, 0, 0, 0])
        self.assertEqual(answers("a|", "a2", range(1, 9)), [1, 1, 0, 0, 0, 0, 0, 0])
        self.assertEqual(answers("a|", "a6", range(1, 9)), [1, 1, 1, 0, 0, 0, 0, 0])
        self.assertEqual(answers("a|", "a12", range(1, 9)), [1, 1, 1, 1, 0, 0, 0, 0])
        self.assertEqual(answers("a|", "A60", range(1, 9)), [1, 1, 1, 1, 1, 1, 0, 0])
        self.assertEqual(answers("a|", "a420", range(1, 9)), [1, 1, 1, 1, 1, 1, 1, 0])
        self.assertEqual(answers("a|", "a840", range(1, 9)), [1] * 8)

    def test_moved_only_in_tables_of_n_places(self):
        self.assertEqual(answers("ab|", "[a,b]", range(1, 6)), [1, 1, 0, 0, 0])
        self.assertEqual(answers("ab|", "[a,b]3", range(1, 6)), [1, 1, 1, 0, 0])
        self.assertEqual(answers("ab|a2,b3", "(ab)6", range(1, 6)), [1, 1, 1, 0, 0])
        self.assertEqual(answers("ab|a2,b3,(ab)5", "a", range(1, 8)), [1, 1, 1, 1, 0, 0, 0])
        self.assertEqual(answers("ab|a5,b", "a", range(1, 8)), [1, 1, 1, 1, 0, 0, 0])

    def test_moved_only_in_tables_of_fewer_places(self):
        # There's no whole table of so many places, or none of them has the word move.
        self.assertEqual(answers("a|a2", "a", range(1, 9)), [1, 0, 0, 0, 0, 0, 0, 0])
        self.assertEqual(answers("a|a6", "a3", range(1, 9)), [1, 0, 0, 0, 0, 0, 0, 0])
        self.assertEqual(answers("a|a6", "a2", range(1, 9)), [1, 1, 0, 0, 0, 0, 0, 0])
        self.assertEqual(answers("a|", "a3", (2, 3)), [0, 0])
        self.assertEqual(answers("ab|a2,b2,(ab)3", "a", range(1, 8)), [1, 0, 0, 0, 0, 0, 0])

    def test_not_whole_tables_are_no_more_than_whole_ones(self):
        # In a table of 5 places, circles of 2 and 3: a6 moves nothing there, a2 and a3 do.
        self.assertEqual(answers("a|a6", "a6", range(1, 8)), [1] * 7)
        self.assertEqual(answers("a|a6", "a2", (5,)) + answers("a|a6", "a3", (5,)), [0, 0])

    def test_letters_not_sorted(self):
        self.assertEqual(answers("ba|a2,b3", "a", (1, 2, 3)), [1, 0, 0])
        self.assertEqual(answers("ba|a2,b3", "b", (1, 2, 3)), [1, 1, 0])
        self.assertEqual(answers("ab|a2,b3", "b", (1, 2, 3)), [1, 1, 0])
        self.assertEqual(answers("cab|a,b", "c", (1, 2, 3)), [1, 0, 0])
        self.assertEqual(answers("cab|a,b", "a", (1, 2, 3)), [1, 1, 1])


class ComparedWithAllTables(unittest.TestCase):
    def compare(self, n, text, word):
        self.assertEqual(same(n, text, word), found(n, text, word), (n, text, word))

    def test_every_small_n(self):
        for text in GROUP_TEXTS:
            first, last = letters_of(text)[0], letters_of(text)[-1]
            for n in asked_places(text):
                for word in (first, last, first + last, last + "2", first + "3", f"[{first},{last}]",
                             f"({first}{last.upper()})-2", f"[{first},{last}]3", f"{first}12", f"({first}{last})6",
                             f"[{first}2,{last}2]"):
                    self.compare(n, text, word)

    def test_largest_that_may_be_asked(self):
        for text in ("a|a6", "ba|a2,b3", "ab|[a,b]", "cab|a2,b2,[a,c]", "dabc|[a,b],c2d", "eabdc|ab,cdE,a3"):
            n = LARGEST_ASKED[len(letters_of(text))]
            for word in ("a", "a2", "a6", letters_of(text), f"({letters_of(text)})12", f"[a,{letters_of(text)[0]}]"):
                self.compare(n, text, word)

    def test_every_short_word(self):
        for text in ("ba|", "ab|a2,b2", "ab|abaB", "ab|a3,ab2"):
            for length in (1, 2, 3, 4):
                for word in itertools.product("aAbB", repeat=length):
                    self.compare(3, text, "".join(word))

    def test_many_texts(self):
        chosen = random.Random(23)
        for again in range(150):
            letters = chosen.choice(("a", "ab", "ba", "bac"))
            signs = letters + letters.upper()
            words = ["".join(chosen.choice(signs) for sign in range(chosen.randint(1, 6)))
                     for word in range(chosen.randint(1, 4))]
            self.compare(chosen.choice((2, 3)), letters + "|" + ",".join(words[1:]), words[0])


class Edges(Cases):
    def test_one_place(self):
        for text in GROUP_TEXTS:
            for word in (letters_of(text), letters_of(text)[0], letters_of(text)[-1].upper() + "2"):
                self.assertEqual(same(1, text, word), [1])

    def test_largest_that_may_be_asked_without_words(self):
        for number in range(1, 9):
            letters = LETTERS[:number]
            n = LARGEST_ASKED[number]
            self.each(same, [(n, letters + "|", "a", [0]), (n, letters + "|", "a0", [1]), (n, letters + "|", "a420", [1]),
                             (n, letters + "|", letters, [0]), (n, letters + "|", f"({letters})420", [1]),
                             (n, letters + "|a", "a", [1])])

    def test_largest_by_the_letters(self):
        for number in range(1, 9):
            letters = LETTERS[:number]
            text = letters + "|" + ",".join(letters[0] + letter.upper() for letter in letters[1:])
            n = LARGEST[number]
            self.each(same, [(n, text, "a", [0]), (n, text, "a840", [1]), (n, text, "a" + letters[-1].upper(), [1]),
                             (n, text, "a" + str({8: 420, 7: 60, 5: 12, 4: 6, 3: 2}[n]), [0])])

    def test_just_above_the_range_by_the_letters(self):
        for number in range(2, 9):
            for n in range(LARGEST[number] + 1, 9):
                for text in (LETTERS[:number] + "|", LETTERS[:number][::-1] + "|a,b", LETTERS[:number] + "|a2,[a,b]"):
                    self.each(same, [(n, text, word, [-2]) for word in ("a", "", "?", "a,b", FULL + "a")])

    def test_n_outside_comes_ahead_of_the_text(self):
        for n in OUTSIDE:
            for word in ("a", "", "?", FULL + "a"):
                self.all_answer([-2], lambda text: same(n, text, word),
                                ("a|", "ab|a2", "abcdefgh|") + WRONG_TEXTS + TOO_LONG_TEXTS)

    def test_refused_texts_come_ahead_of_the_word(self):
        for n in range(1, 9):
            for word in ("a", "", "?", FULL + "a"):
                self.all_answer([-3], lambda text: same(n, text, word), WRONG_TEXTS + ("abcdefgh|i", "abcdefgh|a,"))
                self.all_answer([-6], lambda text: same(n, text, word), TOO_LONG_TEXTS)

    def test_refused_words(self):
        for n in (1, 2, 5):
            self.each(same, [(n, "ab|a2", word, [-4]) for word in WRONG_WORDS])
            self.each(same, [(n, "ba|", word, [-6]) for word in TOO_LONG_WORDS])

    def test_brackets_within_one_another(self):
        for depth in (1, 31, 32):
            self.assertEqual(same(2, "a|", "(" * depth + "a" + ")" * depth), [0])
            self.assertEqual(same(2, "a|", "(" * depth + "a2" + ")" * depth), [1])
        for depth in (33, 1000, 2047):
            self.assertEqual(same(2, "a|", "(" * depth + "a" + ")" * depth), [-4])

    def test_long_words(self):
        self.each(same, [(2, "ab|", FULL, [1]), (3, "ab|", FULL, [0]), (5, "ab|", "(ab)999(ab)999(ab)42", [1]),
                         (5, "ab|", "(ab)999(ab)999(ab)41", [0]), (4, "ab|" + ",".join([FULL] * 32), "a4", [1]),
                         (3, "ab|", "a" * 4095, [0]), (3, "ab|", "a" * 4095 + "b", [0]), (3, "ab|", "aA" * 2048, [1])])

    def test_more_bytes_than_there_may_be(self):
        self.each(same, [(1, "a|" + " " * 4095, "a", [-2]), (1, "a|", "a" + " " * 4096, [-2]),
                         (1, "?", "a" + " " * 4096, [-2])])


class CallsStandAlone(Cases):
    def test_each_by_itself(self):
        cases = [(n, to_bytes(text), to_bytes(word)) for n in (0, 1, 3, 8)
                 for text in ("ab|a2,b3", "ba|", "", "ab|c", "ab|(a64)65", " a b | [ a , b ] ")
                 for word in ("aB", "[a,b]3", "", "c", FULL + "b")]
        first = self.stands_alone(gw_same, cases)
        at = cases.index((3, to_bytes("ab|a2,b3"), to_bytes("aB")))
        self.assertEqual(first[at:at + 5], [[0], [1], [-4], [-4], [-6]])


if __name__ == "__main__":
    unittest.main()
