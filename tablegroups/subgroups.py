"""The calls: each takes numbers and lists of numbers and answers a list of numbers."""

from tablegroups.reading import TooLong, Wrong, read_text

LONGEST_TEXT = 4096

ARGUMENTS_REFUSED = -2
TEXT_REFUSED = -3
TOO_LONG_REFUSED = -6


def gw_check(text):
    if len(text) > LONGEST_TEXT:
        return [ARGUMENTS_REFUSED]
    try:
        group = read_text(text)
    except Wrong:
        return [TEXT_REFUSED]
    except TooLong:
        return [TOO_LONG_REFUSED]
    return [sum([len(word) for word in group.words])]
