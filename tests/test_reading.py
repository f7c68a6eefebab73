"""What texts and words are: the letters and the words, written out."""

import unittest

from tablegroups.reading import TooLong, Wrong, read_text, read_word, words_by_order


def group_of(text):
    return read_text([ord(sign) for sign in text])


class WrittenOut(unittest.TestCase):
    def words(self, text, expected):
        self.assertEqual(group_of(text).words, expected, text)

    def test_letters_stay_in_the_texts_order(self):
        self.assertEqual(group_of("b a z|").letters, [98, 97, 122])
        self.words("baz|abzABZ", [[2, 1, 3, -2, -1, -3]])

    def test_words(self):
        self.words("ab|", [])
        self.words("ab|a", [[1]])
        self.words("ab|ab,B,aA", [[1, 2], [-2], [1, -1]])

    def test_round_brackets(self):
        self.words("ab|(ab)", [[1, 2]])
        self.words("ab|a(Ab)B", [[1, -1, 2, -2]])

    def test_square_brackets(self):
        self.words("ab|[a,b]", [[1, 2, -1, -2]])
        self.words("abc|[aB,c]", [[1, -2, 3, 2, -1, -3]])
        self.words("abc|[c,aB]", [[3, 1, -2, -3, 2, -1]])
        self.words("abc|[[a,b],c]", [[1, 2, -1, -2, 3, 2, 1, -2, -1, -3]])

    def test_powers(self):
        self.words("ab|a3b", [[1, 1, 1, 2]])
        self.words("ab|ba-2", [[2, -1, -1]])
        self.words("ab|A-2", [[1, 1]])
        self.words("ab|(ab)2", [[1, 2, 1, 2]])
        self.words("ab|(ab)-2", [[-2, -1, -2, -1]])
        self.words("ab|[a,b]-1", [[2, 1, -2, -1]])
        self.words("ab|((ab)2a)-1", [[-1, -2, -1, -2, -1]])

    def test_power_of_nothing(self):
        self.words("ab|a0", [[]])
        self.words("ab|a0,b(ab)-0", [[], [2]])

    def test_words_where_an_order_is_nothing(self):
        group = group_of("ab|a7,(ab)-5b,[a,b]6,b3a-3,(a4)2,a-1,A")
        self.assertEqual(words_by_order(group, 6), [[1], [1, 2, 2], [], [2, 2, 2, 1, 1, 1], [-1, -1, -1, -1], [-1], [-1]])
        self.assertEqual(words_by_order(group, 1), [[]] * 7)
        self.assertEqual(words_by_order(group, 840), group.words)
        self.assertEqual(words_by_order(group_of("ab| "), 6), [])

    def test_refusals(self):
        self.assertRaises(Wrong, group_of, "ab|c")
        self.assertRaises(TooLong, group_of, "ab|(a64)65")

    def test_word_by_itself(self):
        self.assertEqual(read_word([ord(sign) for sign in " (bA) -2 [a,b]"], [98, 97]), [2, -1, 2, -1, 2, 1, -2, -1])
        for word in ("", "a,b", "a|", "c"):
            self.assertRaises(Wrong, read_word, [ord(sign) for sign in word], [98, 97])
        self.assertRaises(TooLong, read_word, [ord(sign) for sign in "(a64)65,"], [97])


if __name__ == "__main__":
    unittest.main()
