"""Mutants of a program, and which of them the relations see."""

from relationshelddesk.relations import BROKEN, is_so, sides_from, stands, state_at
from relationshelddesk.steps import run

GONE = 0

ANOTHER = 1

CHANGED = 2

OTHER_WORDS = {
    "sort": "reverse",
    "reverse": "sort",
    "once": "sort",
    "twice": "once",
    "sum": "count",
    "count": "sum",
    "greatest": "least",
    "least": "greatest",
    "steps": "sums",
    "sums": "steps",
}


class Mutant:
    def __init__(self, change, place, program):
        self.change = change
        self.place = place
        self.program = program


def other_steps(step):
    word = step[0]
    number = step[1]
    if word in OTHER_WORDS:
        return [(OTHER_WORDS[word], 0)]
    if word in ("add", "times"):
        return [(word, number + 1), (word, -number)]
    if word == "above":
        return [(word, number + 1), (word, number - 1)]
    if word in ("rest", "rotate"):
        return [(word, number + 1)]
    if word == "take":
        return [(word, number + 1), ("drop", number)]
    if word == "drop":
        return [(word, number + 1), ("take", number)]
    return []


def mutants_at(program, place):
    step = program[place]
    before = program[:place]
    behind = program[place + 1:]
    found = [Mutant(GONE, place, before + behind)]
    for other in other_steps(step):
        found.append(Mutant(ANOTHER, place, before + [other] + behind))
    if behind:
        found.append(Mutant(CHANGED, place, before + [behind[0], step] + behind[1:]))
    return found


def mutants_of(program):
    found = []
    for place in range(len(program)):
        found.extend([mutant for mutant in mutants_at(program, place) if mutant.program != program])
    return found


def outcomes_of(program, rows):
    return [run(program, row) for row in rows]


def is_good(program, relation, rows):
    return all([state_at(program, relation, row) != BROKEN for row in rows])


# What the input's turning makes of each row; None where it's beyond or the condition isn't so:
# the relation is off there, whatever the program.
def turned_rows(relation, rows):
    return [run(relation.input_turning, row) if is_so(relation.condition, row) else None for row in rows]


def sees(relation, turned, program, outcomes):
    for turned_row, outcome in zip(turned, outcomes):
        sides = sides_from(program, relation, outcome, turned_row)
        if sides is not None and not stands(relation.way, sides):
            return True
    return False


# A good relation is a pair of it and the rows as it turns them.
def is_seen(good_relations, program, outcomes):
    for relation, turned in good_relations:
        if sees(relation, turned, program, outcomes):
            return True
    return False


# How many mutants there are, how many are seen, unseen, alike. One may be seen and alike:
# a turned input needn't be an input of the bound.
def mutant_counts(program, relations, rows):
    good = [relation for relation in relations if is_good(program, relation, rows)]
    good_relations = [(relation, turned_rows(relation, rows)) for relation in good]
    own_outcomes = outcomes_of(program, rows)
    mutants = mutants_of(program)
    counted = [len(mutants), 0, 0, 0]
    for mutant in mutants:
        outcomes = outcomes_of(mutant.program, rows)
        seen = is_seen(good_relations, mutant.program, outcomes)
        alike = outcomes == own_outcomes
        if seen:
            counted[1] += 1
        if alike:
            counted[3] += 1
        if not seen and not alike:
            counted[2] += 1
    return counted
