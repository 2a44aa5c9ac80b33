"""Which mutants the good relations see, with how few relations and at how few inputs."""

from relationshelddesk.mutants import mutants_of
from relationshelddesk.relations import is_good, is_so, sides_from, stands
from relationshelddesk.steps import run


# What is seen of one mutant: by the number of each good relation that sees it the inputs at which
# it's broken, and whether the mutant is alike. A mutant may be seen and alike: a turned input
# needn't be an input of the bound.
class Sighting:
    def __init__(self, breaks, alike):
        self.breaks = breaks
        self.alike = alike

    def is_seen(self):
        return len(self.breaks) > 0

    def is_unseen(self):
        return not self.is_seen() and not self.alike


def outcomes_of(program, rows):
    return [run(program, row) for row in rows]


def differing_inputs(outcomes, other_outcomes):
    return [number for number, outcome in enumerate(outcomes) if outcome != other_outcomes[number]]


# What the input's turning makes of each row; None where it's beyond or the condition isn't so:
# the relation is off there, whatever the program.
def turned_rows(relation, rows):
    return [run(relation.input_turning, row) if is_so(relation.condition, row) else None for row in rows]


def breaking_inputs(relation, turned, program, outcomes):
    found = []
    for number, outcome in enumerate(outcomes):
        sides = sides_from(program, relation, outcome, turned[number])
        if sides is not None and not stands(relation.way, sides):
            found.append(number)
    return found


# Of each good relation: its number, it, and the rows as it turns them.
def good_relations(program, relations, rows):
    found = []
    for number, relation in enumerate(relations):
        if is_good(program, relation, rows):
            found.append((number, relation, turned_rows(relation, rows)))
    return found


def breaks_of(good, program, outcomes):
    breaks = {}
    for number, relation, turned in good:
        found = breaking_inputs(relation, turned, program, outcomes)
        if found:
            breaks[number] = found
    return breaks


# One for each mutant, at its number.
def sightings_of(program, relations, rows):
    good = good_relations(program, relations, rows)
    own_outcomes = outcomes_of(program, rows)
    sightings = []
    for mutant in mutants_of(program):
        outcomes = outcomes_of(mutant.program, rows)
        sightings.append(Sighting(breaks_of(good, mutant.program, outcomes), outcomes == own_outcomes))
    return sightings


def seen_ones(sightings):
    return [sighting for sighting in sightings if sighting.is_seen()]


def unseen_mutants(sightings):
    return [number for number, sighting in enumerate(sightings) if sighting.is_unseen()]


def alike_mutants(sightings):
    return [number for number, sighting in enumerate(sightings) if sighting.alike]


def sees_all(chosen, seen):
    for sighting in seen:
        if not any([number in sighting.breaks for number in chosen]):
            return False
    return True


# Sets rise, and so does their order; both stay so.
def sets_with_one_more(sets, candidates):
    found = []
    for chosen in sets:
        found.extend([chosen + [number] for number in candidates if not chosen or number > chosen[-1]])
    return found


# A good relation that sees nothing is in no least set, so it's none of the candidates.
def least_sets(sightings):
    seen = seen_ones(sightings)
    candidates = {}
    for sighting in seen:
        candidates.update(sighting.breaks)
    sets = [[]]
    found = [chosen for chosen in sets if sees_all(chosen, seen)]
    while not found:
        sets = sets_with_one_more(sets, sorted(candidates))
        found = [chosen for chosen in sets if sees_all(chosen, seen)]
    return found


# The inputs that see a mutant; some may stand there more than once.
def seeing_inputs(sighting):
    found = []
    for inputs in sighting.breaks.values():
        found.extend(inputs)
    return found


def chain_of(sightings, input_count):
    chain = []
    left = [seeing_inputs(sighting) for sighting in seen_ones(sightings)]
    while left:
        seen_counts = [len([inputs for inputs in left if number in inputs]) for number in range(input_count)]
        best = seen_counts.index(max(seen_counts))
        chain.append(best)
        left = [inputs for inputs in left if best not in inputs]
    return chain
