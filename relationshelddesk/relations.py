"""Relations: conditions on a row, ways in which two rows stand, and how a program does at an input."""

from relationshelddesk.steps import run

KEPT = 0

BROKEN = 1

OFF = 2


# A condition is a pair of its word and its number (0 where it has none).
class Relation:
    def __init__(self, condition, input_turning, way, output_turning):
        self.condition = condition
        self.input_turning = input_turning
        self.way = way
        self.output_turning = output_turning


def is_rising(row):
    return all([first <= second for first, second in zip(row, row[1:])])


def is_so(condition, row):
    word = condition[0]
    if word == "some":
        return len(row) > 0
    if word == "rising":
        return is_rising(row)
    if word == "plus":
        return all([value >= 0 for value in row])
    if word == "unlike":
        return len(set(row)) == len(row)
    if word == "atleast":
        return len(row) >= condition[1]
    return True


def are_equal(left, right):
    return left == right


def are_bags(left, right):
    return sorted(left) == sorted(right)


def are_numbers(left, right):
    return set(left) == set(right)


def is_most(left, right):
    return len(left) == len(right) and all([one <= other for one, other in zip(left, right)])


def is_least(left, right):
    return len(left) == len(right) and all([one >= other for one, other in zip(left, right)])


def is_beginning(left, right):
    return right[:len(left)] == left


def are_long(left, right):
    return len(left) == len(right)


STANDINGS = {
    "equal": are_equal,
    "bag": are_bags,
    "numbers": are_numbers,
    "most": is_most,
    "least": is_least,
    "begins": is_beginning,
    "long": are_long,
}


def stands(way, sides):
    return STANDINGS[way](sides[0], sides[1])


# The outcome and the turned row are handed over, so that who asks often makes them once.
def sides_from(program, relation, outcome, turned):
    if outcome is None or turned is None:
        return None
    left = run(program, turned)
    if left is None:
        return None
    right = run(relation.output_turning, outcome)
    if right is None:
        return None
    return (left, right)


# None where a run is beyond.
def sides_at(program, relation, row):
    return sides_from(program, relation, run(program, row), run(relation.input_turning, row))


def state_at(program, relation, row):
    if not is_so(relation.condition, row):
        return OFF
    sides = sides_at(program, relation, row)
    if sides is None:
        return OFF
    return KEPT if stands(relation.way, sides) else BROKEN


# Off everywhere is good, too.
def is_good(program, relation, rows):
    return all([state_at(program, relation, row) != BROKEN for row in rows])
