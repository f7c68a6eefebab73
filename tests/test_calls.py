"""What holds over all six calls: their names and arguments, and that none leaves anything behind for another."""

import contextlib
import inspect
import io
import random
import sys
import unittest

import tablegroups.circles
import tablegroups.reading
import tablegroups.subgroups
import tablegroups.tables
from tests.helper import FULL, Fixed, to_bytes

MODULES = (tablegroups.circles, tablegroups.reading, tablegroups.subgroups, tablegroups.tables)
ARGUMENTS = {"gw_check": ["text"], "gw_free": ["most", "text"], "gw_count": ["n", "what", "text"],
             "gw_table": ["n", "j", "text"], "gw_move": ["n", "text", "word", "table"], "gw_same": ["n", "text", "word"]}


def calls_of(text, word):
    """Calls of all six, right ones and such as are refused in each way."""
    text, word = to_bytes(text), to_bytes(word)
    right = [0, 2, 1, 1, 2, 0]
    return [("gw_check", (text,)), ("gw_free", (99, text)), ("gw_free", (0, text)), ("gw_free", (-1, text))] + [
        ("gw_count", (n, what, text)) for n in (0, 1, 3, 8) for what in (-1, 0, 1, 2, 3)] + [
        ("gw_table", (n, j, text)) for n in (0, 1, 3, 8) for j in (-1, 0, 1, 99)] + [
        ("gw_move", (n, text, word, table)) for n, table in ((0, []), (3, right), (3, [0] * 6), (8, list(range(8)) * 2))] + [
        ("gw_same", (n, text, word)) for n in (0, 1, 3, 8)]


CALLS = [call for text in ("ab|a2,b3", "ba|b2,a3", "ab|", "", "ab|c", "ab|(a64)65", "a b|[a,b]")
         for word in ("ab", "(ab)6", "", "a,b", FULL + "b") for call in calls_of(text, word)]


def answer(call):
    return getattr(tablegroups.subgroups, call[0])(*call[1])


class Interface(unittest.TestCase):
    def test_names_and_arguments(self):
        for name, arguments in ARGUMENTS.items():
            found = inspect.signature(getattr(tablegroups.subgroups, name)).parameters
            self.assertEqual(list(found), arguments)
            self.assertTrue(all(given.default is given.empty for given in found.values()))

    def test_arguments_by_name(self):
        handed = {"text": to_bytes("ab|a2,b3"), "word": to_bytes("ab"), "table": [0, 2, 1, 1, 2, 0], "n": 3, "j": 0,
                  "what": 0, "most": 9}
        expected = {"gw_check": [5], "gw_free": [1, 54], "gw_count": [4], "gw_table": [0, 0, 1, 2, 1, 2, 0],
                    "gw_move": [0, 1, 0, 2], "gw_same": [0]}
        for name, arguments in ARGUMENTS.items():
            call = getattr(tablegroups.subgroups, name)
            self.assertEqual(call(**{argument: handed[argument] for argument in arguments}), expected[name])

    def test_answers_are_lists_of_whole_numbers(self):
        for call in CALLS:
            found = answer(call)
            self.assertIs(type(found), list)
            self.assertEqual({type(number) for number in found}, {int}, call)
            if found[0] < 0:
                self.assertEqual(len(found), 1)
                self.assertIn(found[0], range(-6, 0))

    def test_nothing_is_printed(self):
        printed = io.StringIO()
        with contextlib.redirect_stdout(printed), contextlib.redirect_stderr(printed):
            for call in CALLS:
                answer(call)
        self.assertEqual(printed.getvalue(), "")


class NothingIsKept(unittest.TestCase):
    def test_any_order_of_calls(self):
        first = [answer(call) for call in CALLS]
        chosen = random.Random(29)
        for again in range(3):
            order = chosen.sample(range(len(CALLS)), len(CALLS))
            for at in order:
                self.assertEqual(answer(CALLS[at]), first[at], CALLS[at])

    def test_what_is_handed_in_is_not_changed(self):
        for name, handed in CALLS:
            fixed = [Fixed(given) if isinstance(given, list) else given for given in handed]
            found = answer((name, fixed))
            self.assertEqual(found, answer((name, handed)))
            self.assertEqual(fixed, list(handed))

    def test_nothing_of_the_modules_changes(self):
        def kept():
            return [{name: repr(value) for name, value in vars(module).items() if name != "__builtins__"}
                    for module in MODULES]

        before = kept()
        for call in CALLS:
            answer(call)
        self.assertEqual(kept(), before)

    def test_answers_share_nothing(self):
        for call in CALLS:
            expected = answer(call)
            changed = answer(call)
            changed[:] = [7] * 9
            self.assertEqual(answer(call), expected)


class LongInputs(unittest.TestCase):
    """Calls within one another are few, however long or deep the input is."""

    def few_calls(self, calls):
        before = sys.getrecursionlimit()
        sys.setrecursionlimit(len(inspect.stack()) + 40)
        try:
            return [answer(call) for call in calls]
        finally:
            sys.setrecursionlimit(before)

    def test_few_calls_within_one_another(self):
        texts = ["a|" + "(" * 32 + "a2" + ")" * 32, "a|" + "(" * 4094, "a|" + "a" * 4094, "a|" + "(a)" * 1364,
                 "a|" + ",".join([FULL] * 32), "a|" + "[a0," * 32 + "a0" + "]" * 32, "a|" + "," * 4094]
        calls = []
        for text in texts:
            word = text[2:]
            calls += [("gw_check", (to_bytes(text),)), ("gw_free", (99, to_bytes(text))),
                      ("gw_count", (8, 3, to_bytes(text))), ("gw_table", (8, 0, to_bytes(text))),
                      ("gw_move", (8, to_bytes(text), to_bytes("a"), list(range(8)))),
                      ("gw_move", (8, to_bytes("a|"), to_bytes(word), list(range(8)))),
                      ("gw_same", (8, to_bytes(text), to_bytes("a"))), ("gw_same", (8, to_bytes("a|"), to_bytes(word)))]
        calls += [("gw_count", (5, 0, to_bytes("abc|a2,b2,c2"))), ("gw_same", (3, to_bytes("abcdefgh|ab,cd,ef,gh"), [97]))]
        self.assertEqual(self.few_calls(calls), [answer(call) for call in calls])


if __name__ == "__main__":
    unittest.main()
