"""Reads a group's text, or a word by itself: the letters, and the words with all their letters written out."""

MOST_LETTERS = 8
MOST_WORDS = 32
MOST_BRACKETS = 32
MOST_WRITTEN = 4096
MOST_DIGITS = 3

BLANK = 32
ROUND = 40
ROUND_END = 41
COMMA = 44
MINUS = 45
ZERO = 48
NINE = 57
SQUARE = 91
SQUARE_END = 93
SMALL_A = 97
SMALL_Z = 122
BAR = 124

# In the place of a bracket, where words stand outside of all of them: those of
# a text, or a word handed in by itself, which no comma ends.
WORDS_OF_TEXT = 0
WORD_ALONE = 1

GREAT_TO_SMALL = 32

NO_ORDER = 0


class Wrong(Exception):
    pass


class TooLong(Exception):
    pass


# Letters are kept as their small bytes, in the text's order. A word is a list
# of numbers: 1 for the first letter, -1 for its inverse, 2 for the second ...
# The words' signs are kept too, so that they can be written out otherwise.
class Group:
    def __init__(self, letters, signs, words):
        self.letters = letters
        self.signs = signs
        self.words = words


# The words that stand straight within one bracket, or within none, as far as
# they are read. A word may have parts and yet no letters (a power of 0), so
# its letters don't tell whether it is empty.
class Level:
    def __init__(self, bracket):
        self.bracket = bracket
        self.ended = []
        self.written = []
        self.has_part = False


def read_text(text):
    signs = without_blanks(text)
    if BAR not in signs:
        raise Wrong()
    bar = signs.index(BAR)
    letters = signs[:bar]
    check_letters(letters)
    word_signs = signs[bar + 1:]
    words = words_of_text(word_signs, letters, NO_ORDER)
    # Only here, so that a word that is too long is told even behind the 32nd.
    if len(words) > MOST_WORDS:
        raise Wrong()
    return Group(letters, word_signs, words)


# The group's words where all that comes so often as the order is nothing.
def words_by_order(group, order):
    return words_of_text(group.signs, group.letters, order)


# A word handed in by itself.
def read_word(word, letters):
    return read_words(without_blanks(word), letters, WORD_ALONE, NO_ORDER)[0]


def words_of_text(signs, letters, order):
    if not signs:
        return []
    return read_words(signs, letters, WORDS_OF_TEXT, order)


def without_blanks(text):
    return [sign for sign in text if sign != BLANK]


def check_letters(letters):
    if len(letters) < 1 or len(letters) > MOST_LETTERS:
        raise Wrong()
    if len(set(letters)) != len(letters):
        raise Wrong()
    for letter in letters:
        if letter < SMALL_A or letter > SMALL_Z:
            raise Wrong()


# One walk from left to right: whichever comes first, a fault or a word that is
# too long, is what is told.
def read_words(signs, letters, outside, order):
    numbers = letter_numbers(letters)
    levels = [Level(outside)]
    at = 0
    while at < len(signs):
        sign = signs[at]
        at = at + 1
        if sign == COMMA:
            take_comma(levels[-1])
        elif sign == ROUND or sign == SQUARE:
            begin_bracket(levels, sign)
        else:
            part = end_part(levels, sign, numbers)
            power = power_signs(signs, at)
            add_part(levels[-1], part, least_power(power_number(power), order))
            at = at + len(power)
    if len(levels) > 1:
        raise Wrong()
    end_word(levels[0])
    return levels[0].ended


def letter_numbers(letters):
    numbers = {}
    for place, letter in enumerate(letters, start=1):
        numbers[letter] = place
        numbers[letter - GREAT_TO_SMALL] = -place
    return numbers


def take_comma(level):
    if level.bracket == ROUND or level.bracket == WORD_ALONE:
        raise Wrong()
    if level.bracket == SQUARE and level.ended:
        raise Wrong()
    end_word(level)


def end_word(level):
    if not level.has_part:
        raise Wrong()
    level.ended.append(level.written)
    level.written = []
    level.has_part = False


def begin_bracket(levels, sign):
    # The lowest level stands outside of all brackets.
    if len(levels) > MOST_BRACKETS:
        raise Wrong()
    levels.append(Level(sign))


# What the part that ends with this sign is, written out, without its power.
def end_part(levels, sign, numbers):
    if sign in numbers:
        return [numbers[sign]]
    if sign == ROUND_END:
        return end_bracket(levels, ROUND)[0]
    if sign == SQUARE_END:
        words = end_bracket(levels, SQUARE)
        if len(words) < 2:
            raise Wrong()
        return commutator(words[0], words[1])
    raise Wrong()


def end_bracket(levels, bracket):
    level = levels.pop()
    if level.bracket != bracket:
        raise Wrong()
    end_word(level)
    return level.ended


def commutator(left, right):
    # Looked at ahead of the power: a part that is too long isn't mended by 0.
    if 2 * (len(left) + len(right)) > MOST_WRITTEN:
        raise TooLong()
    return left + right + inverse(left) + inverse(right)


def inverse(word):
    return [-number for number in reversed(word)]


def power_signs(signs, start):
    end = start
    if end < len(signs) and signs[end] == MINUS:
        end = end + 1
    while end < len(signs) and signs[end] >= ZERO and signs[end] <= NINE:
        end = end + 1
    return signs[start:end]


def power_number(signs):
    if not signs:
        return 1
    negative = signs[0] == MINUS
    digits = signs[1:] if negative else signs
    if len(digits) < 1 or len(digits) > MOST_DIGITS:
        raise Wrong()
    number = 0
    for digit in digits:
        number = number * 10 + digit - ZERO
    return -number if negative else number


# The same power, where the order is nothing, with the fewest letters.
def least_power(power, order):
    if order == NO_ORDER:
        return power
    left = power % order
    return left - order if 2 * left > order else left


def add_part(level, part, power):
    times = abs(power)
    # Ahead of the writing out, so that no long list is ever made.
    if len(level.written) + len(part) * times > MOST_WRITTEN:
        raise TooLong()
    level.written.extend((inverse(part) if power < 0 else part) * times)
    level.has_part = True
