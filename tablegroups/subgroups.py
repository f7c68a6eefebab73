"""The calls: each takes numbers and lists of numbers and answers a list of numbers."""

from tablegroups.circles import circle_sizes
from tablegroups.reading import TooLong, Wrong, read_text

LONGEST_TEXT = 4096

MOST_REFUSED = -1
ARGUMENTS_REFUSED = -2
TEXT_REFUSED = -3
TOO_LONG_REFUSED = -6


class LongerThanMost(Exception):
    pass


class WrongArguments(Exception):
    pass


class WrongText(Exception):
    pass


def gw_check(text):
    return answer_or_refusal(lambda: check_answer(text))


def gw_free(most, text):
    return answer_or_refusal(lambda: free_answer(most, text))


# The one place that knows which number stands for which refusal.
def answer_or_refusal(find_answer):
    try:
        return find_answer()
    except LongerThanMost:
        return [MOST_REFUSED]
    except WrongArguments:
        return [ARGUMENTS_REFUSED]
    except WrongText:
        return [TEXT_REFUSED]
    except TooLong:
        return [TOO_LONG_REFUSED]


def check_answer(text):
    check_length(text)
    group = group_of(text)
    return [sum([len(word) for word in group.words])]


def free_answer(most, text):
    check_length(text)
    if most < 0:
        raise WrongArguments()
    signs = " ".join([str(size) for size in circle_sizes(group_of(text))])
    if len(signs) > most:
        raise LongerThanMost()
    return [len(signs)] + [ord(sign) for sign in signs]


def check_length(text):
    if len(text) > LONGEST_TEXT:
        raise WrongArguments()


def group_of(text):
    try:
        return read_text(text)
    except Wrong:
        raise WrongText() from None
