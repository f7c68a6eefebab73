"""The calls: each takes numbers and lists of numbers and answers a list of numbers."""

from tablegroups.circles import circle_sizes
from tablegroups.reading import TooLong, Wrong, read_text, read_word
from tablegroups.tables import count_all, count_unalike, given_moves, is_normal, most_places, moved_to, no_place_moved
from tablegroups.tables import places_of, table_numbers, whole_moves

LONGEST = 4096
MOST_PLACES_AT_ALL = 8

COUNT_WHOLE = 0
COUNT_UNALIKE = 1
COUNT_NORMAL = 2
COUNT_ALL = 3

MOST_REFUSED = -1
ARGUMENTS_REFUSED = -2
TEXT_REFUSED = -3
WORD_REFUSED = -4
NO_SUCH_REFUSED = -5
TOO_LONG_REFUSED = -6


class LongerThanMost(Exception):
    pass


class WrongArguments(Exception):
    pass


class WrongText(Exception):
    pass


class WrongWord(Exception):
    pass


class NoSuch(Exception):
    pass


def gw_check(text):
    return answer_or_refusal(lambda: check_answer(text))


def gw_free(most, text):
    return answer_or_refusal(lambda: free_answer(most, text))


def gw_count(n, what, text):
    return answer_or_refusal(lambda: count_answer(n, what, text))


def gw_table(n, j, text):
    return answer_or_refusal(lambda: table_answer(n, j, text))


def gw_move(n, text, word, table):
    return answer_or_refusal(lambda: move_answer(n, text, word, table))


def gw_same(n, text, word):
    return answer_or_refusal(lambda: same_answer(n, text, word))


# The one place that knows which number stands for which refusal.
def answer_or_refusal(find_answer):
    try:
        return find_answer()
    except LongerThanMost:
        return [MOST_REFUSED]
    except WrongArguments:
        return [ARGUMENTS_REFUSED]
    except WrongText:
        return [TEXT_REFUSED]
    except WrongWord:
        return [WORD_REFUSED]
    except NoSuch:
        return [NO_SUCH_REFUSED]
    except TooLong:
        return [TOO_LONG_REFUSED]


def check_answer(text):
    check_length(text)
    group = group_of(text)
    return [sum([len(word) for word in group.words])]


def free_answer(most, text):
    check_length(text)
    if most < 0:
        raise WrongArguments()
    signs = " ".join([str(size) for size in circle_sizes(group_of(text))])
    if len(signs) > most:
        raise LongerThanMost()
    return [len(signs)] + [ord(sign) for sign in signs]


def count_answer(n, what, text):
    check_range(what, COUNT_WHOLE, COUNT_ALL)
    group = group_with_places(n, text)
    up_to_n = whole_moves(group, n)
    if what == COUNT_ALL:
        return [count_all(up_to_n, n)]
    whole = of_places(up_to_n, n)
    if what == COUNT_UNALIKE:
        return [count_unalike(whole)]
    if what == COUNT_NORMAL:
        return [len([moves for moves in whole if is_normal(moves)])]
    return [len(whole)]


def table_answer(n, j, text):
    if j < 0:
        raise WrongArguments()
    group = group_with_places(n, text)
    tables = sorted([table_numbers(moves) for moves in of_places(whole_moves(group, n), n)])
    if j >= len(tables):
        raise NoSuch()
    return [0] + tables[j]


def move_answer(n, text, word, table):
    check_length(word)
    group = group_with_places(n, text)
    written = word_of(word, group)
    moves = given_moves(table, len(group.letters), n)
    if moves is None or not no_place_moved(group.words, moves):
        raise NoSuch()
    return [0] + [moved_to(written, moves, place) for place in range(n)]


# Whichever place of a table is moved, the places that one comes to from it are,
# as they are met, a whole table in order of n or fewer, whose 0 is moved.
def same_answer(n, text, word):
    check_length(word)
    group = group_with_places(n, text)
    written = word_of(word, group)
    for moves in whole_moves(group, n):
        if moved_to(written, moves, 0) != 0:
            return [0]
    return [1]


def of_places(whole, n):
    return [moves for moves in whole if places_of(moves) == n]


def check_length(signs):
    check_range(len(signs), 0, LONGEST)


def check_range(number, least, most):
    if number < least or number > most:
        raise WrongArguments()


# How large n may be depends on the letters, so the text comes between.
def group_with_places(n, text):
    check_length(text)
    check_range(n, 1, MOST_PLACES_AT_ALL)
    group = group_of(text)
    check_range(n, 1, most_places(group))
    return group


def group_of(text):
    try:
        return read_text(text)
    except Wrong:
        raise WrongText() from None


def word_of(word, group):
    try:
        return read_word(word, group.letters)
    except Wrong:
        raise WrongWord() from None
