"""Promise 5: gw_move tells where a word moves each place of a table."""

import itertools
import random
import unittest

from tablegroups.subgroups import gw_move, gw_table
from tests.helper import (FULL, GROUP_TEXTS, LARGEST, OUTSIDE, TOO_LONG_TEXTS, TOO_LONG_WORDS, WRONG_TEXTS, WRONG_WORDS,
                          Cases, all_tables, asked_places, letters_of, to_bytes, word_moves)

LETTERS = "abcdefgh"


def move(n, text, word, table):
    return gw_move(n, to_bytes(text), to_bytes(word), list(table))


def flat(rows):
    return [place for row in rows for place in row]


class Ordinary(Cases):
    def test_one_letter(self):
        circle = [1, 2, 3, 4, 0]
        self.each(move, [(5, "a|", "a", circle, [0, 1, 2, 3, 4, 0]), (5, "a|", "A", circle, [0, 4, 0, 1, 2, 3]),
                         (5, "a|a5", "a2", circle, [0, 2, 3, 4, 0, 1]), (5, "a|", "a-2", circle, [0, 3, 4, 0, 1, 2]),
                         (5, "a|", "a5", circle, [0, 0, 1, 2, 3, 4]), (5, "a|", "a999", circle, [0, 4, 0, 1, 2, 3]),
                         (5, "a|", "a0", circle, [0, 0, 1, 2, 3, 4]), (5, "a|", "[a,a2]", circle, [0, 0, 1, 2, 3, 4])])

    def test_word_moves_by_its_letters_from_the_left(self):
        table = [1, 0, 2, 0, 2, 1]
        self.each(move, [(3, "ab|", "ab", table, [0, 2, 0, 1]), (3, "ab|", "ba", table, [0, 1, 2, 0]),
                         (3, "ab|", "AB", table, [0, 2, 0, 1]), (3, "ab|", "(ab)-1", table, [0, 1, 2, 0]),
                         (3, "ab|", "(ab)2", table, [0, 1, 2, 0]), (3, "ab|", "[a,b]", table, [0, 1, 2, 0]),
                         (3, "ab|", "[a,b]3", table, [0, 0, 1, 2]), (3, "ab|", " ( a b ) 4 ", table, [0, 2, 0, 1])])

    def test_rows_go_by_the_texts_order(self):
        table = [1, 2, 0, 0, 2, 1]
        self.each(move, [(3, "ab|", "a", table, [0, 1, 2, 0]), (3, "ba|", "a", table, [0, 0, 2, 1]),
                         (3, "ab|", "b", table, [0, 0, 2, 1]), (3, "ba|", "b", table, [0, 1, 2, 0]),
                         (3, "ba|", "B", table, [0, 2, 0, 1]), (3, "ba|b3,a2", "bA", table, [0, 2, 1, 0])])

    def test_word_that_moves_nothing(self):
        for word in ("a0", "aA", "a2", "[a,a]", "(ab)0", "b3", "(ab)2", "bB", "a0b0"):
            self.assertEqual(move(3, "ab|a2,b3", word, [1, 0, 2, 1, 2, 0]), [0, 0, 1, 2], word)

    def test_tables_that_are_not_whole_or_not_in_order(self):
        self.each(move, [(4, "ab|", "ab", [0, 1, 3, 2, 1, 0, 2, 3], [0, 1, 0, 3, 2]),
                         (4, "ab|a2,b2", "ab", [0, 1, 3, 2, 1, 0, 2, 3], [0, 1, 0, 3, 2]),
                         (3, "a|", "a", [2, 0, 1], [0, 2, 0, 1]), (4, "a|", "a", [0, 2, 3, 1], [0, 0, 2, 3, 1]),
                         (4, "a|", "a", [3, 2, 1, 0], [0, 3, 2, 1, 0]), (3, "ab|", "b", [0, 1, 2, 0, 1, 2], [0, 0, 1, 2])])

    def test_long_words(self):
        self.each(move, [(3, "ab|", FULL, [1, 2, 0, 0, 1, 2], [0, 1, 2, 0]),
                         (3, "ab|", "a" * 4096, [1, 2, 0, 0, 1, 2], [0, 1, 2, 0]),
                         (3, "ab|", "(" * 32 + "a" + ")2" * 12 + ")" * 20, [1, 2, 0, 0, 1, 2], [0, 1, 2, 0]),
                         (3, "ab|" + ",".join([FULL.replace("100", "99")] * 32), "aB", [1, 2, 0, 0, 2, 1], [0, 2, 1, 0])])


class ComparedWithWordsWorkedOut(unittest.TestCase):
    WORDS = ("{0}", "{1}", "{0}{1}", "{0}-2{1}3", "[{0},{1}]", "({0}{1})-2{1}", "[{0}2,({1}{0})-1]2", "(({0})2{1})12",
             "[[{0},{1}],{1}{0}-1]-1", "{1}0{0}", "{0}999{1}-998")

    def words(self, text):
        letters = letters_of(text)
        return [word.format(letters[0], letters[-1]) for word in self.WORDS] + [letters.upper() + letters[::-1]]

    def test_every_table_that_is_the_groups(self):
        chosen = random.Random(17)
        for text in GROUP_TEXTS:
            for n in asked_places(text):
                tables = all_tables(text, n)
                for rows in chosen.sample(tables, min(len(tables), 12)):
                    for word in self.words(text):
                        self.assertEqual(move(n, text, word, flat(rows)), [0] + list(word_moves(text, word, rows)),
                                         (text, word, rows))

    def test_every_row_of_numbers(self):
        for n in (1, 2, 3):
            for table in itertools.product(range(n + 1), repeat=2 * n):
                rows = (table[:n], table[n:])
                for text in ("ab|", "ba|a2,bab", "ab|ab"):
                    right = rows in all_tables(text, n)
                    expected = [0] + list(word_moves(text, "abbA", rows)) if right else [-5]
                    self.assertEqual(move(n, text, "abbA", table), expected, (text, table))

    def test_many_words(self):
        chosen = random.Random(19)
        for again in range(300):
            letters = chosen.choice(("a", "ab", "dcab", "hbcdefga"))
            n = chosen.randint(1, LARGEST[len(letters)])
            rows = [tuple(chosen.sample(range(n), n)) for letter in letters]
            word = "".join(chosen.choice(letters + letters.upper()) + chosen.choice(("", "", "2", "-3", "15", "0"))
                           for sign in range(chosen.randint(1, 30)))
            self.assertEqual(move(n, letters + "|", word, flat(rows)), [0] + list(word_moves(letters + "|", word, rows)))


class NoSuchTable(Cases):
    def refused(self, cases):
        self.each(move, [case + ([-5],) for case in cases])

    def test_a_place_twice(self):
        self.refused([(2, "a|", "a", [0, 0]), (2, "a|", "a", [1, 1]), (3, "a|", "a", [0, 1, 1]), (3, "a|", "a", [2, 1, 2]),
                      (2, "ab|", "a", [0, 1, 1, 1]), (2, "ab|", "b", [0, 0, 0, 1]), (2, "ab|", "a0", [0, 1, 0, 0]),
                      (8, "a|", "a", [0, 1, 2, 3, 4, 5, 6, 6]), (2, "ab|", "a", [0, 0, 1, 1])])

    def test_numbers_that_are_no_places(self):
        for number in range(2, 256):
            self.refused([(2, "a|", "a", [0, number]), (2, "a|", "a0", [number, 1]), (1, "a|", "a", [number]),
                          (2, "ab|", "a", [0, 1, 1, number]), (2, "ab|", "a", [number, 0, 1, 0])])
        self.refused([(1, "a|", "a", [1]), (8, "a|", "a", [1, 2, 3, 4, 5, 6, 7, 8]), (8, "a|", "a", [255] * 8)])

    def test_a_word_of_the_text_moves_a_place(self):
        self.refused([(2, "a|a", "a", [1, 0]), (3, "a|a2", "a", [1, 2, 0]), (3, "a|a3,a2", "a0", [1, 2, 0]),
                      (3, "ab|[a,b]", "a", [1, 0, 2, 0, 2, 1]), (3, "ba|a2", "b", [1, 0, 2, 1, 2, 0])])
        # Only the last word, and only the last places, move.
        self.refused([(4, "ab|a2,b2,(ab)3", "a", [0, 1, 3, 2, 1, 0, 2, 3]), (5, "a|a2", "a", [0, 1, 3, 4, 2])])

    def test_right_tables_beside(self):
        self.each(move, [(2, "a|a2", "a", [1, 0], [0, 1, 0]), (3, "a|a3", "a", [1, 2, 0], [0, 1, 2, 0]),
                         (3, "ba|(ab)3", "a", [1, 0, 2, 0, 2, 1], [0, 0, 2, 1]), (1, "a|a", "A", [0], [0, 0])])


class Words(Cases):
    def test_wrong_words(self):
        for table in ([0, 1, 1, 0], [0, 0, 0, 0]):
            self.each(move, [(2, "ab|a2", word, table, [-4]) for word in WRONG_WORDS])
            self.each(move, [(2, "ba|b2", word, table, [-4]) for word in WRONG_WORDS])

    def test_too_long_words(self):
        for table in ([0, 1, 1, 0], [0, 0, 0, 0]):
            self.each(move, [(2, "ab|a2", word, table, [-6]) for word in TOO_LONG_WORDS])

    def test_every_byte(self):
        for byte in range(256):
            right = byte == 32 or byte in to_bytes("aAbB")
            for word in ([byte, 97], [97, 50, 98, byte, 97], [40, byte, 97, 41]):
                digit = byte in to_bytes("0123456789") and word[0] == 97
                self.assertEqual(gw_move(1, to_bytes("ab|"), word, [0, 0]), [0, 0] if right or digit else [-4], word)

    def test_letters_that_are_not_the_groups(self):
        self.each(move, [(1, "ac|", "b", [0, 0], [-4]), (1, "ac|", "B", [0, 0], [-4]), (1, "ac|", "a(cb)", [0, 0], [-4]),
                         (1, "b|", "a", [0], [-4]), (1, "b|", "b", [0], [0, 0])])

    def test_brackets_within_one_another(self):
        for depth in range(1, 33):
            self.assertEqual(move(2, "a|", "(" * depth + "a" + ")" * depth, [1, 0]), [0, 1, 0])
        for depth in (33, 34, 100, 2047):
            self.assertEqual(move(2, "a|", "(" * depth + "a" + ")" * depth, [1, 0]), [-4])
        self.assertEqual(move(2, "a|", "[a0," * 32 + "a0" + "]" * 32 + "a", [1, 0]), [0, 1, 0])
        self.assertEqual(move(2, "a|", "[a0," * 33 + "a0" + "]" * 33, [1, 0]), [-4])
        self.assertEqual(move(2, "a|", "[" * 32 + "a0" + ",a0]" * 32, [1, 0]), [0, 0, 1])

    def test_longest_word(self):
        self.assertEqual(move(2, "a|", "a" * 4095, [1, 0]), [0, 1, 0])
        self.assertEqual(move(2, "a|", " " * 4095 + "a", [1, 0]), [0, 1, 0])
        self.assertEqual(move(2, "a|", " " * 4096, [1, 0]), [-4])
        self.assertEqual(move(2, "a|", "a" * 4097, [1, 0]), [-2])


class OrderOfRefusals(Cases):
    TABLES = ([], [0, 0], [0, 1], [255] * 64, [0] * 64)
    WORDS = ("a", "", "?", "a,b", FULL + "a")

    def test_n_outside_comes_ahead_of_all(self):
        for n in OUTSIDE:
            for text in ("ab|", "a|a2", "abcdefgh|") + WRONG_TEXTS + TOO_LONG_TEXTS:
                self.each(move, [(n, text, word, table, [-2]) for word in self.WORDS for table in self.TABLES])

    def test_text_comes_ahead_of_the_word(self):
        for n in range(1, 9):
            for word in self.WORDS:
                self.each(move, [(n, text, word, table, [-3]) for text in WRONG_TEXTS for table in self.TABLES])
                self.each(move, [(n, text, word, table, [-6]) for text in TOO_LONG_TEXTS for table in self.TABLES])

    def test_n_by_the_letters_comes_ahead_of_the_word(self):
        for number in range(2, 9):
            for n in range(LARGEST[number] + 1, 9):
                for text in (LETTERS[:number] + "|", LETTERS[:number][::-1] + "|a2,b"):
                    for table in (list(range(n)) * number, [0] * (n * number), [255] * (n * number)):
                        self.each(move, [(n, text, word, table, [-2]) for word in self.WORDS])

    def test_word_comes_ahead_of_the_table(self):
        self.each(move, [(2, "ab|a2", "?", [0, 0, 0, 0], [-4]), (2, "ab|a2", FULL + "a", [9, 9, 9, 9], [-6]),
                         (2, "ab|a", "", [1, 0, 1, 0], [-4]), (2, "ab|a", "b", [1, 0, 1, 0], [-5])])

    def test_more_bytes_than_there_may_be(self):
        self.each(move, [(1, "a|" + " " * 4095, "a", [0], [-2]), (1, "a|", "a" + " " * 4096, [0], [-2]),
                         (1, "?", "a" + " " * 4096, [0], [-2])])


class Edges(Cases):
    def test_largest_by_the_letters(self):
        for number in range(1, 9):
            n = LARGEST[number]
            letters = LETTERS[:number][::-1]
            circle = list(range(1, n)) + [0]
            table = circle + list(range(n)) * (number - 1)
            first = letters[0]
            text = letters + "|" + ",".join([letter for letter in letters[1:]] + [first + str(n)])
            self.assertEqual(move(n, text, letters, table), [0] + circle)
            self.assertEqual(move(n, text, first.upper(), table), [0, n - 1] + list(range(n - 1)))
            self.assertEqual(move(n, text, "a", table), [0] + (circle if number == 1 else list(range(n))))

    def test_one_place(self):
        for text in GROUP_TEXTS:
            letters = letters_of(text)
            self.assertEqual(move(1, text, letters, [0] * len(letters)), [0, 0])
            self.assertEqual(move(1, text, letters, [0] * (len(letters) - 1) + [1]), [-5])

    def test_tables_that_gw_table_tells(self):
        for text in ("ab|a2,b3", "ba|[a,b]", "abc|a2,bc"):
            for n in (2, 3, 4):
                for j in range(100):
                    answer = gw_table(n, j, to_bytes(text))
                    if answer == [-5]:
                        break
                    first = letters_of(text)[0]
                    self.assertEqual(move(n, text, first, answer[1:]), [0] + answer[1:n + 1])


class CallsStandAlone(Cases):
    def test_each_by_itself(self):
        cases = [(n, to_bytes(text), to_bytes(word), table) for n in (0, 2, 8)
                 for text in ("ab|a2", "ba|", "", "ab|c", "ab|(a64)65", " a b | [ a , b ] ")
                 for word in ("aB", "[a,b]3", "", "c", FULL + "b") for table in ([0, 1, 1, 0], [0, 0, 1, 0])]
        first = self.stands_alone(gw_move, cases)
        at = cases.index((2, to_bytes("ab|a2"), to_bytes("aB"), [0, 1, 1, 0]))
        self.assertEqual(first[at:at + 10],
                         [[0, 1, 0], [-5], [0, 0, 1], [-5], [-4], [-4], [-4], [-4], [-6], [-6]])


if __name__ == "__main__":
    unittest.main()
