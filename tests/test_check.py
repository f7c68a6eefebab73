"""Promise 1: gw_check answers how many letters all words have, written out."""

import itertools
import re
import unittest

from tablegroups.subgroups import gw_check

# Written out, 4096 letters in 20 bytes.
FULL = "a999a999a999a999a100"
HALF = "a999a999a50"


def check(text):
    return gw_check([ord(sign) for sign in text])


def plain_answer(text):
    """What gw_check must answer for a text that is too short for -6, found by other means.

    Whether it is right: parts are replaced by P, parts with powers by Q, until nothing changes.
    How long it is: the text is turned into a sum.
    """
    text = text.replace(" ", "")
    head = re.match(r"([a-z]{1,8})\|", text)
    if head is None or len(set(head[1])) < len(head[1]):
        return [-3]
    words = text[head.end():]
    letters = "[" + head[1] + head[1].upper() + "]"
    if re.search("[PQ]", words):
        raise AssertionError("P and Q stand for parts here")
    shape, before = re.sub(letters, "P", words), None
    while shape != before:
        before = shape
        shape = re.sub(r"P-?[0-9]{1,3}", "Q", shape)
        shape = re.sub(r"\([PQ]+\)|\[[PQ]+,[PQ]+\]", "P", shape)
    if not re.fullmatch(r"([PQ]+(,[PQ]+){0,31})?", shape):
        return [-3]
    as_sum = re.sub(r"-?([0-9]+)", lambda power: "*" + str(int(power[1])), words)
    as_sum = re.sub(letters, "+1", as_sum.replace("(", "+("))
    as_sum = as_sum.replace("[", "+2*(").replace("]", ")").replace(",", "")
    return [eval("0" + as_sum)]


class Cases(unittest.TestCase):
    def answers(self, expected, texts):
        for text in texts:
            with self.subTest(text=text):
                self.assertEqual(check(text), expected)

    def each(self, cases):
        for text, expected in cases:
            self.answers([expected], [text])


class Ordinary(Cases):
    def test_no_word(self):
        self.answers([0], ["a|", "z|", "ab|", "ba|", "abcdefgh|", "qhxzbmak|"])

    def test_one_word(self):
        self.each([("a|a", 1), ("a|A", 1), ("a|aaa", 3), ("ab|abAB", 4), ("ba|abAB", 4), ("za|azZ", 3)])

    def test_letters_are_not_cancelled(self):
        self.each([("a|aA", 2), ("a|a3A3", 6), ("ab|[a,a]", 4), ("a|a-1a", 2)])

    def test_several_words(self):
        self.each([("a|a,a", 2), ("ab|aaa,bb,abab", 9), ("ab|a2,b3,(ab)5", 15), ("ba|a2,b3,(ab)5", 15)])

    def test_each_letter_of_the_alphabet(self):
        for number in range(26):
            small = "abcdefghijklmnopqrstuvwxyz"[number]
            self.answers([2], [small + "|" + small + small.upper()])

    def test_brackets(self):
        self.each([("a|(a)", 1), ("ab|(ab)", 2), ("ab|[a,b]", 4), ("ab|[ab,b]", 6), ("ab|[a,bab]", 8),
                   ("ab|[a,b][b,a]", 8), ("ab|[[a,b],a]", 10), ("ab|[a,[a,b]]", 10), ("ab|[(ab),(A)]", 6),
                   ("ab|((a)(b))a", 3), ("ab|([a,b])", 4), ("ab|[a,b],[a,b]", 8), ("ab|a[A,B]b", 6)])

    def test_powers_behind_letters(self):
        self.each([("a|a1", 1), ("a|a7", 7), ("a|a12", 12), ("a|a999", 999), ("a|A3", 3), ("a|a-1", 1),
                   ("a|a-12", 12), ("a|a-999", 999), ("a|A-3", 3), ("a|a007", 7), ("a|a01", 1), ("a|a2a3", 5),
                   ("a|a-2a-3", 5), ("a|a2a", 3)])

    def test_powers_behind_brackets(self):
        self.each([("ab|(ab)2", 4), ("ab|(ab)-2", 4), ("ab|(ab)12", 24), ("ab|(ab)100", 200),
                   ("ab|(ab)-100", 200), ("ab|[a,b]3", 12), ("ab|[a,b]-3", 12), ("ab|[a,b]10", 40),
                   ("ab|[a2,b3]100", 1000), ("ab|((ab)2a)3", 15), ("ab|[(ab)2,b-3]2", 28)])

    def test_power_of_nothing(self):
        self.each([("a|a0", 0), ("a|a-0", 0), ("a|a00", 0), ("a|a000", 0), ("a|a-000", 0), ("a|A0", 0),
                   ("ab|(ab)0", 0), ("ab|[a,b]0", 0), ("ab|[a,b]-0", 0), ("ab|aa0b", 2), ("ab|(a0)5", 0),
                   ("ab|(a0)", 0), ("ab|[a0,b]", 2), ("ab|[a0,b0]", 0), ("a|a0,a0,a", 1), ("a|(a999)0", 0)])

    def test_every_power(self):
        for power in range(1000):
            self.answers([power], [f"a|a{power}", f"a|A-{power:03}", f"a|(a){power}"])
            self.answers([4 * power], [f"ab|[a,b]{power}", f"ab|[a,b]-{power}"])


class Edges(Cases):
    def test_number_of_letters(self):
        self.answers([1], ["a|a", "abcdefgh|h", "hgfedcba|A"])
        self.answers([-3], ["abcdefghi|a", "abcdefghi|", "abcdefghijklmnopqrstuvwxyz|", "|", "|a"])

    def test_number_of_words(self):
        for number in range(1, 33):
            self.answers([number], ["a|" + ",".join(["a"] * number)])
        for number in (33, 34, 64, 2000):
            self.answers([-3], ["a|" + ",".join(["a"] * number), "a|" + ",".join(["a0"] * (number // 2 + 17))])

    def test_commas_in_brackets_part_no_words(self):
        self.answers([128], ["ab|" + ",".join(["[a,b]"] * 32)])
        self.answers([132], ["ab|" + "[a,b]" * 33])
        self.answers([-3], ["ab|" + ",".join(["[a,b]"] * 33)])

    def test_all_words_may_be_longer_than_one(self):
        self.answers([32 * 4096], ["a|" + ",".join([FULL] * 32)])

    def test_too_many_words_are_told_behind_all(self):
        self.answers([-6], ["a|" + "a," * 32 + FULL + "a", "a|" + "a," * 60 + FULL + "a",
                            "a|" + "a," * 60 + FULL + "a,a", "a|" + "a," * 60 + FULL + "a,?"])
        self.answers([-3], ["a|" + "a," * 32 + FULL, "a|" + "a," * 32 + "?" + FULL + "a"])

    def test_blanks_say_nothing(self):
        self.each([("  a  |  ", 0), (" a b | a b ", 2), ("ab| [ a , b ] - 1 2 ", 48), ("a|a 1 2", 12),
                   ("a|a1 2 3", 123), ("a|a -  1", 1), ("a|( a ) 2 , a", 3), (" a|a", 1), ("a|a ", 1)])
        self.answers([-3], ["", " ", " " * 4096, " | ", "a", "a|a,  ", "a| ,a", "a|( )", "a|[ , ]", "a|a 1 2 3 4",
                            "a|a - ", "a a|a"])

    def test_blanks_between_all_signs(self):
        text = "ba|[ab2,(Ab)-3]12,b0A999"
        self.assertEqual(check(text), [18 * 12 + 999])
        for at in range(len(text) + 1):
            self.answers([18 * 12 + 999], [text[:at] + " " + text[at:], text[:at] + "   " + text[at:]])
        self.answers([18 * 12 + 999], ["  ".join(text)])

    def test_brackets_within_one_another(self):
        for depth in range(1, 33):
            self.answers([1], ["a|" + "(" * depth + "a" + ")" * depth])
        for depth in (33, 34, 100, 2000):
            self.answers([-3], ["a|" + "(" * depth + "a" + ")" * depth])
        self.answers([2], ["a|" + "(" * 32 + "a" + ")" * 32 + "(" * 32 + "a" + ")" * 32])
        self.answers([2], ["a|" + "(" * 32 + "a" + ")" * 32 + "," + "(" * 32 + "a" + ")" * 32])
        self.answers([-3], ["a|" + "(" * 31 + "((a))" + ")" * 31, "a|" + "(" * 32 + "a(a)" + ")" * 32])

    def test_many_brackets_beside_one_another(self):
        self.answers([1000], ["a|" + "(a)" * 1000])
        self.answers([33 * 3], ["a|(" + "(a)" * 33 + ")3"])

    def test_both_brackets_within_one_another(self):
        self.answers([2 * (1 + 1)], ["a|" + "(" * 31 + "[a,a]" + ")" * 31, "a|[" + "(" * 31 + "a" + ")" * 31 + ",a]",
                                     "a|[a," + "(" * 31 + "a" + ")" * 31 + "]"])
        self.answers([-3], ["a|" + "(" * 32 + "[a,a]" + ")" * 32, "a|[" + "(" * 32 + "a" + ")" * 32 + ",a]",
                            "a|[a," + "(" * 32 + "a" + ")" * 32 + "]"])
        self.answers([0], ["a|" + "[a0," * 32 + "a0" + "]" * 32, "a|" + "[" * 32 + "a0" + ",a0]" * 32])
        self.answers([-3], ["a|" + "[a0," * 33 + "a0" + "]" * 33, "a|" + "[" * 33 + "a0" + ",a0]" * 33])

    def test_brackets_within_one_another_with_powers(self):
        self.answers([4096], ["a|" + "(" * 12 + "a" + ")2" * 12, "a|" + "(" * 12 + "a" + ")-2" * 12,
                              "a|" + "(" * 32 + "a" + ")-2" * 12 + ")-1" * 20])
        self.answers([-6], ["a|" + "(" * 13 + "a" + ")2" * 13, "a|" + "(" * 13 + "a" + ")2" * 12 + "a)"])

    def test_longest_text(self):
        self.answers([4094], ["a|" + "a" * 4094, "a|" + "aA" * 2047])
        self.answers([1], [" " * 4093 + "a|a", "a|a" + " " * 4093])
        self.answers([-3], ["a" * 4096, "a|" + "(" * 4094, "a|" + ")" * 4094, "a|" + "," * 4094, "a|a" + "1" * 4093])

    def test_more_bytes_than_a_text_may_have(self):
        self.answers([-2], [" " * 4094 + "a|a", "a" * 4097])


class TooLong(Cases):
    def test_words_of_4096_letters_and_of_more(self):
        self.each([("a|" + FULL, 4096), ("a|" + FULL + "a", -6), ("a|a" + FULL, -6), ("a|" + FULL + "a0", 4096),
                   ("a|" + FULL + "(a)0", 4096), ("a|" + FULL + "a-1", -6), ("a|a," + FULL, 4097),
                   ("a|" + FULL + "," + FULL, 8192), ("a|" + FULL + ",a," + FULL + "A", -6)])

    def test_powers(self):
        self.each([("a|(a64)64", 4096), ("a|(a64)-64", 4096), ("a|(a64)65", -6), ("a|(a64)-65", -6),
                   ("a|(aa)999(aa)999(a50)2", 4096), ("a|(aaaa)999a100", 4096), ("a|(aaaa)999a101", -6),
                   ("a|((aaaa)999a100)1", 4096), ("a|((aaaa)999a100)2", -6), ("a|(a999)999", -6),
                   ("a|(aaaaa)819a", 4096), ("a|(aaaaa)820", -6)])

    def test_parts_count_also_where_nothing_of_them_is_left(self):
        self.each([("a|(" + FULL + ")0", 0), ("a|(" + FULL + "a)0", -6), ("a|((a64)64)0", 0), ("a|((a64)65)0", -6),
                   ("a|[" + HALF + "," + "a0]0", 0), ("a|((" + FULL + "a)0)0", -6), ("a|[" + FULL + "a,a]0", -6)])

    def test_commutators(self):
        self.each([("a|[a999a25,a999a25]", 4096), ("a|[a999a25,a999a26]", -6), ("a|[a999a26,a999a25]", -6),
                   ("a|[" + HALF + ",a0]", 4096), ("a|[" + HALF + ",a]", -6), ("a|[a0," + HALF + "]", 4096),
                   ("a|[a," + HALF + "]", -6), ("a|[" + FULL + ",a0]", -6), ("a|[a999a25,a999a26]0", -6),
                   ("a|[a,a999]2", 4000), ("a|[a,a999]3", -6), ("a|[a999a25,a999a25]a", -6),
                   ("a|[a999a25,a999a25]a0", 4096), ("a|[a,a]999a100", 4096), ("a|[a,a]999a101", -6)])

    def test_fault_ahead(self):
        self.answers([-3], ["a|b," + FULL + "a", "a|," + FULL + "a", "a|(a," + FULL + "a)", "A|" + FULL + "a",
                            "aa|" + FULL + "a", "|" + FULL + "a", "a||" + FULL + "a", "a|)" + FULL + "a",
                            "a|a1234" + FULL + "a", "a|a-" + FULL + "a", "a|2" + FULL + "a", "a|?" + FULL + "a",
                            "a|(a),()," + FULL + "a", "a|[a]," + FULL + "a", "a|[a,a," + FULL + "a]", FULL + "a",
                            "a|" + "(" * 33 + FULL + "a" + ")" * 33, "a|a2-1" + FULL + "a"])

    def test_fault_behind(self):
        self.answers([-6], ["a|" + FULL + "a,b", "a|" + FULL + "ab", "a|" + FULL + "a|", "a|" + FULL + "a)",
                            "a|(" + FULL + "a", "a|[" + FULL + "a", "a|[" + FULL + "a]", "a|" + FULL + "a,",
                            "a|" + FULL + "a?", "a|(a64)65)", "a|(a64)65-1", "a|" + FULL + "a(",
                            "a|[a999a25,a999a26]1234", "a|[a999a25,a999a26]-", "a|" + FULL + "a[a,a,a]",
                            "a|[a," + FULL + "a,a]", "a|(" + FULL + "a]", "a|" + FULL + "a2-1"])

    def test_fault_within_what_would_be_too_long(self):
        self.answers([-3], ["a|" + FULL + "b", "a|" + FULL + "(a", "a|" + FULL + "(a?", "a|" + FULL + "[a,a",
                            "a|" + FULL + "[a]", "a|" + FULL + "()", "a|" + FULL + "a-", "a|" + FULL + "a-b",
                            "a|[a999a25,a999a26", "a|[a999a25,a999a26)", "a|[" + FULL + "]"])

    def test_a_number_of_four_digits_is_no_power(self):
        self.answers([-3], ["a|a1000", "a|(a64)1000", "a|(a64)0065", "a|(a64)-1000", "a|" + FULL + "a1000"])


class WrongTexts(Cases):
    def test_letters(self):
        self.answers([-3], ["", "|", "a", "ab", "|a", "aa|", "aba|a", "abcdefgha|", "A|a", "aB|a", "a,b|a", "(a)|a",
                            "a1|a", "a-|a", "[a,b]|", "abcdefghi|", "1|", "-|"])

    def test_bars(self):
        self.answers([-3], ["a||", "||", "a|a|", "a|a|a", "a||a", "|a|a", "a|(a|)", "a|a,|"])

    def test_letters_that_are_not_the_groups(self):
        self.answers([-3], ["a|b", "a|B", "a|ab", "a|(b)", "a|[a,b]", "a|a,b", "ac|b", "abcdefgh|i", "bc|a2"])

    def test_empty_words(self):
        self.answers([-3], ["a|,", "a|,a", "a|a,", "a|a,,a", "a|,,", "a|()", "a|a()", "a|()2", "a|[,]", "a|[a,]",
                            "a|[,a]", "a|[]", "a|(())", "a|([a,])"])

    def test_brackets(self):
        self.answers([-3], ["a|(", "a|)", "a|[", "a|]", "a|(a", "a|a)", "a|[a,a", "a|a,a]", "a|(a]", "a|[a,a)",
                            "a|[(a,a)]", "a|([a),a]", "a|(a))", "a|((a)", "a|[a]", "a|[a,a,a]", "a|(a,a)", "a|[[a,a]]",
                            "a|)a(", "a|[a,a,a,a]", "a|(a),(", "a|[a,a]]", "a|(a,", "a|[a,(a]", "a|([a,a],a)"])

    def test_powers(self):
        self.answers([-3], ["a|1", "a|2a", "a|-1", "a|-", "a|a-", "a|a--1", "a|a1234", "a|a0000", "a|a-1234", "a|a-0001",
                            "a|a1-1", "a|a-1-1", "a|a1-", "a|(2)", "a|(2a)", "a|(-1)", "a|[1,a]", "a|[a,1]", "a|a,2",
                            "a|(a)-", "a|[a,a]-", "a|(a)1234", "a|[a,a]1234", "a|(a)1-1", "a|(a-)", "a|a-(1)",
                            "a|[a2,2]", "a|a+1", "a|a^2", "a|a1.5", "a|a 1-1", "a|a1 234"])

    def test_every_other_byte(self):
        right_in_words = [ord(sign) for sign in " aAbB0123456789,"]
        for byte in range(256):
            expected = [3] if byte == ord(" ") else [4] if byte in right_in_words[1:5] else [-3]
            with self.subTest(byte=byte):
                self.assertEqual(gw_check([97, 98, 124, 97, 44, byte, 97, 98]), expected)
                if byte not in right_in_words:
                    self.assertEqual(gw_check([97, 98, 124, 97, byte, 97, 98]), [-3])
                    self.assertEqual(gw_check([97, 98, 124, 97, 98, byte]), [-3])
                    self.assertEqual(gw_check([97, 98, 124, 97, 50, byte]), [-3])
                    self.assertEqual(gw_check([97, 98, 124, 97, 45, byte]), [-3])
                    self.assertEqual(gw_check([97, 98, 124, 40, 97, byte, 98, 41]), [-3])

    def test_every_byte_among_the_letters(self):
        for byte in range(256):
            right = byte == 32 or 99 <= byte <= 122
            bar = byte == 124
            with self.subTest(byte=byte):
                self.assertEqual(gw_check([97, 98, byte, 124, 97]), [1] if right else [-3])
                self.assertEqual(gw_check([byte, 97, 98, 124, 97]), [1] if right else [-3])
                self.assertEqual(gw_check([97, byte]), [0] if bar else [-3])
                self.assertEqual(gw_check([byte]), [-3])
                self.assertEqual(gw_check([byte, 124]), [0] if 97 <= byte <= 122 else [-3])


class AllShortTexts(unittest.TestCase):
    def compare(self, head, signs, longest):
        for length in range(longest + 1):
            for tail in itertools.product(signs, repeat=length):
                text = head + "".join(tail)
                self.assertEqual(check(text), plain_answer(text), text)

    def test_words(self):
        self.compare("ba|", "aB(),[]-2", 5)

    def test_signs_that_come_seldom(self):
        self.compare("ab|", "a 0-9,|cX", 4)

    def test_brackets(self):
        self.compare("a|", "a(),[]", 6)

    def test_inner_words(self):
        self.compare("ab|([a,B", "a(),[]-30", 4)

    def test_powers(self):
        self.compare("a|a", "a-0 15,", 5)

    def test_letters(self):
        self.compare("", "abA |1", 5)


class CallsStandAlone(unittest.TestCase):
    TEXTS = ("ab|[a,b]2, (aB)-3", "a|", "", "a|b", "a|(a64)65", "a|(((a)", " a | a 0 ")

    def test_text_stays_as_it_was(self):
        for text in self.TEXTS:
            handed = [ord(sign) for sign in text]
            before = list(handed)
            gw_check(handed)
            self.assertEqual(handed, before)

    def test_text_is_not_changed_for_a_while(self):
        def refuse(*args, **kwargs):
            raise AssertionError("what is handed in was changed")

        changes = ("append", "extend", "insert", "pop", "remove", "clear", "sort", "reverse", "__setitem__",
                   "__delitem__", "__iadd__", "__imul__")
        fixed_list = type("FixedList", (list,), {name: refuse for name in changes})
        for text in self.TEXTS:
            self.assertEqual(gw_check(fixed_list([ord(sign) for sign in text])), check(text))

    def test_second_call_answers_like_the_first(self):
        first = [check(text) for text in self.TEXTS]
        self.assertEqual(first, [[14], [0], [-3], [-3], [-6], [-3], [0]])
        self.assertEqual([check(text) for text in reversed(self.TEXTS)], first[::-1])
        self.assertEqual([check(text) for text in self.TEXTS for again in range(2)],
                         [answer for answer in first for again in range(2)])

    def test_changing_an_answer_changes_no_later_one(self):
        for text in self.TEXTS:
            answer = check(text)
            expected = list(answer)
            answer.append(5)
            self.assertEqual(check(text), expected)

    def test_answer_is_a_list_of_one_whole_number(self):
        for text in self.TEXTS:
            answer = check(text)
            self.assertIs(type(answer), list)
            self.assertEqual([type(number) for number in answer], [int])


if __name__ == "__main__":
    unittest.main()
