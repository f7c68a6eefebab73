"""Tables of how letters move places: all whole ones in order that are a group's, and what they are like."""

from tablegroups.reading import words_by_order

# By the number of letters, from 1 on.
MOST_PLACES = (8, 7, 5, 4, 3, 3, 3, 3)

# By the number of places, from 1 on: whatever moves them, so often it moves none.
ORDERS = (1, 2, 6, 12, 60, 60, 420, 840)

NOWHERE = -1

# Moves are a dict: for each letter's number, and for its inverse's right behind
# it, a list of where each place is moved to. So a walk through the dict is in
# the order in which letters and inverses are looked at.


def most_places(group):
    return MOST_PLACES[len(group.letters) - 1]


# The moves of all whole tables in order that are the group's, of 1 to most
# places. The first step that isn't known is taken in all ways, a place that
# wasn't met being the next one: so each table in order comes up once. What is
# begun is given up as soon as a word moves a place in it.
def whole_moves(group, most):
    words = telling_words(words_by_order(group, ORDERS[most - 1]))
    begun = [first_moves(len(group.letters))]
    found = []
    while begun:
        moves = begun.pop()
        if no_place_moved(words, moves):
            step = first_unknown(moves)
            if step is None:
                found.append(moves)
            else:
                begun.extend(all_ways(moves, step[0], step[1], most))
    return found


# Words are gone through again and again, so all that tells nothing is left out
# ahead: a letter beside its inverse, and a word that comes again. Short words
# come first, as they are soonest known to move a place.
def telling_words(words):
    telling = {}
    for word in words:
        telling[tuple(shortened(word))] = True
    return sorted([word for word in telling if word], key=len)


def shortened(word):
    short = []
    for number in word:
        if short and short[-1] == -number:
            short.pop()
        else:
            short.append(number)
    return short


def first_moves(letters):
    moves = {}
    for letter in range(1, letters + 1):
        moves[letter] = [NOWHERE]
        moves[-letter] = [NOWHERE]
    return moves


def places_of(moves):
    return len(moves[1])


# Place and number of the first step, as places are looked at, that isn't known.
def first_unknown(moves):
    for place in range(places_of(moves)):
        for number, row in moves.items():
            if row[place] == NOWHERE:
                return (place, number)
    return None


def all_ways(moves, place, number, most):
    places = places_of(moves)
    ways = []
    for target in range(places):
        if moves[-number][target] == NOWHERE:
            ways.append(with_step(moves, place, number, target))
    if places < most:
        ways.append(with_step(with_place(moves), place, number, places))
    return ways


def with_step(moves, place, number, target):
    stepped = {}
    for other, row in moves.items():
        stepped[other] = list(row)
    stepped[number][place] = target
    stepped[-number][target] = place
    return stepped


def with_place(moves):
    larger = {}
    for number, row in moves.items():
        larger[number] = row + [NOWHERE]
    return larger


# Whether no word moves a place, as far as the steps are known.
def no_place_moved(words, moves):
    for word in words:
        for place in range(places_of(moves)):
            target = moved_to(word, moves, place)
            if target != place and target != NOWHERE:
                return False
    return True


def moved_to(word, moves, place):
    at = place
    for number in word:
        at = moves[number][at]
        if at == NOWHERE:
            return NOWHERE
    return at


# The moves of a table that is handed in, or None if a place is moved to by none
# or by several.
def given_moves(table, letters, places):
    moves = {}
    for letter in range(1, letters + 1):
        row = table[(letter - 1) * places:letter * places]
        if sorted(row) != list(range(places)):
            return None
        moves[letter] = row
        moves[-letter] = [row.index(place) for place in range(places)]
    return moves


# The table's numbers: the first letter's places, then the next one's.
def table_numbers(moves):
    numbers = []
    for number, row in moves.items():
        if number > 0:
            numbers.extend(row)
    return numbers


# The numbers of the same table from a place on.
def numbers_from(moves, start):
    met = met_from(moves, start)
    numbers = []
    for number, row in moves.items():
        if number > 0:
            numbers.extend([met.index(row[place]) for place in met])
    return numbers


# The places in the order in which they are met from a place on.
def met_from(moves, start):
    met = [start]
    looked_at = 0
    while looked_at < len(met):
        for row in moves.values():
            if row[met[looked_at]] not in met:
                met.append(row[met[looked_at]])
        looked_at = looked_at + 1
    return met


# Alike tables have the same least one among those from each place.
def least_alike(moves):
    return min([numbers_from(moves, place) for place in range(places_of(moves))])


def is_normal(moves):
    itself = table_numbers(moves)
    return all([numbers_from(moves, place) == itself for place in range(places_of(moves))])


# How many tables of so many places are the group's, whole or not, by its whole
# ones of 1 up to so many. The places that one comes to from 0 are, as they are
# met, a whole table in order; there are as many such as there are ways to say
# which places are met, one after another; the places left are a table again.
def count_all(whole, places):
    sizes = [places_of(moves) for moves in whole]
    counts = [1]
    for total in range(1, places + 1):
        count = 0
        ways = 1
        for met in range(1, total + 1):
            count = count + sizes.count(met) * ways * counts[total - met]
            ways = ways * (total - met)
        counts.append(count)
    return counts[places]


def count_unalike(whole):
    return len(set([tuple(least_alike(moves)) for moves in whole]))
