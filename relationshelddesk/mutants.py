"""Mutants of a program."""

from relationshelddesk.kinds import STEP_LIMITS

GONE = 0

ANOTHER = 1

CHANGED = 2

OTHER_WORDS = {
    "sort": "reverse",
    "reverse": "sort",
    "once": "sort",
    "twice": "once",
    "sum": "count",
    "count": "sum",
    "greatest": "least",
    "least": "greatest",
    "steps": "sums",
    "sums": "steps",
}


class Mutant:
    def __init__(self, change, place, program):
        self.change = change
        self.place = place
        self.program = program


def other_steps(step):
    word = step[0]
    number = step[1]
    if word in OTHER_WORDS:
        return [(OTHER_WORDS[word], 0)]
    if word in ("add", "times"):
        return [(word, number + 1), (word, -number)]
    if word == "above":
        return [(word, number + 1), (word, number - 1)]
    if word in ("rest", "rotate"):
        return [(word, number + 1)]
    if word == "take":
        return [(word, number + 1), ("drop", number)]
    if word == "drop":
        return [(word, number + 1), ("take", number)]
    return []


def mutants_at(program, place):
    step = program[place]
    before = program[:place]
    behind = program[place + 1:]
    found = [Mutant(GONE, place, before + behind)]
    for other in other_steps(step):
        found.append(Mutant(ANOTHER, place, before + [other] + behind))
    if behind:
        found.append(Mutant(CHANGED, place, before + [behind[0], step] + behind[1:]))
    return found


def mutants_of(program):
    found = []
    for place in range(len(program)):
        found.extend([mutant for mutant in mutants_at(program, place) if mutant.program != program])
    return found


def is_told(step):
    if step[0] not in STEP_LIMITS:
        return True
    limits = STEP_LIMITS[step[0]]
    return limits[0] <= step[1] <= limits[1]


# A mutant's numbers may be beyond those of told steps.
def has_told_steps(mutant):
    return all([is_told(step) for step in mutant.program])
