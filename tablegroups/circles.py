"""What is left of a group if letters may change places: circles and whole numbers."""


# The sizes of the circles, above 1, each a divisor of the next; then a 0 for
# each letter's worth of whole numbers.
def circle_sizes(group):
    letters = len(group.letters)
    numbers = diagonal([letter_sums(word, letters) for word in group.words])
    free = letters - len(numbers)
    return [number for number in divisor_chain(numbers) if number > 1] + [0] * free


# Where letters may change places, a word is only how often it has each letter.
def letter_sums(word, letters):
    return [word.count(number) - word.count(-number) for number in range(1, letters + 1)]


# The rows are changed, without changing what they say, until each number left
# stands alone in its row and its column. Each turn makes the smallest number
# smaller or takes a row away, so it comes to an end.
def diagonal(rows):
    left = list(rows)
    numbers = []
    entry = smallest_entry(left)
    while entry is not None:
        pivot_row = left.pop(entry[0])
        column = entry[1]
        left = [row_remainder(row, pivot_row, column) for row in left]
        if any([row[column] for row in left]):
            left.append(pivot_row)
        else:
            pivot_row = column_remainders(pivot_row, column)
            if pivot_row.count(0) == len(pivot_row) - 1:
                numbers.append(abs(pivot_row[column]))
            else:
                left.append(pivot_row)
        entry = smallest_entry(left)
    return numbers


# The row and the column of the smallest number that isn't 0, whatever its sign.
def smallest_entry(rows):
    entry = None
    smallest = 0
    for place, row in enumerate(rows):
        for column, number in enumerate(row):
            if number != 0 and (entry is None or abs(number) < smallest):
                entry = (place, column)
                smallest = abs(number)
    return entry


def row_remainder(row, pivot_row, column):
    times = row[column] // pivot_row[column]
    return [number - times * pivot for number, pivot in zip(row, pivot_row)]


# A column is taken from the others; as it is 0 in all other rows, only this
# row changes.
def column_remainders(row, column):
    pivot = row[column]
    return [number if place == column else number % pivot for place, number in enumerate(row)]


# Circles of a and b are together as circles of their greatest common divisor
# and their least common multiple.
def divisor_chain(numbers):
    chain = list(numbers)
    for first in range(len(chain)):
        for second in range(first + 1, len(chain)):
            divisor = common_divisor(chain[first], chain[second])
            chain[second] = chain[first] * chain[second] // divisor
            chain[first] = divisor
    return chain


def common_divisor(left, right):
    larger = left
    smaller = right
    while smaller != 0:
        remainder = larger % smaller
        larger = smaller
        smaller = remainder
    return larger
