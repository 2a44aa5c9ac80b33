"""Turns of a row's places and signs, and those that leave a program alike."""

from relationshelddesk.bounds import inputs_of
from relationshelddesk.steps import run

MOST_PLACES = 3


# Lists of so many of the choices, those first that have an earlier choice at the first place, and so on.
def lists_of(choices, length):
    found = [[]]
    for place in range(length):
        longer = []
        for made in found:
            longer.extend([made + [choice] for choice in choices])
        found = longer
    return found


# A turn is a pair: from which place each place's number comes, and the sign with which it comes.
def turns_of(place_count):
    places = list(range(place_count))
    turns = []
    for order in lists_of(places, place_count):
        if sorted(order) == places:
            turns.extend([(order, signs) for signs in lists_of([1, -1], place_count)])
    return turns


def turned_row(turn, row):
    return [row[place] * sign for place, sign in zip(turn[0], turn[1])]


# A turned row is again one of the rows, so each of them is run once.
def leaving_turns(program, place_count):
    rows = [row for row in inputs_of([place_count, -1, 1]) if len(row) == place_count]
    outcomes = {}
    for row in rows:
        outcomes[tuple(row)] = run(program, row)
    found = []
    for number, turn in enumerate(turns_of(place_count)):
        if all([outcomes[tuple(turned_row(turn, row))] == outcomes[tuple(row)] for row in rows]):
            found.append(number)
    return found
