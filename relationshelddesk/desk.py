"""The calls on one object, handed over and answered as one list of whole numbers."""

from relationshelddesk.bounds import input_count, inputs_of, is_bound, is_input_row
from relationshelddesk.catalogue import matching_kinds
from relationshelddesk.following import relation_follows, strongest_places
from relationshelddesk.form import one_form
from relationshelddesk.holding import first_holding_condition, holding_ways, strongest_ways, table_entry, tally
from relationshelddesk.kinds import MOST_RELATIONS
from relationshelddesk.mutants import has_told_steps, mutants_of
from relationshelddesk.numbered import condition_numbers, counted_numbers, outcome_numbers, relation_of_numbers
from relationshelddesk.numbered import way_numbers
from relationshelddesk.reading import read_text
from relationshelddesk.relations import BROKEN, state_at
from relationshelddesk.seeing import alike_mutants, chain_of, differing_inputs, least_sets, outcomes_of
from relationshelddesk.seeing import seen_ones, sightings_of, unseen_mutants
from relationshelddesk.smaller import made_smaller
from relationshelddesk.tokens import Fault
from relationshelddesk.turns import MOST_PLACES, leaving_turns

LONGEST_TEXT = 1500

MOST_INPUTS_LOOKED_AT = 40


# The program is None as long as there's no text; the sightings are None until they're asked for,
# and again as soon as something changes that they are made of.
class Desk:
    def __init__(self):
        self.program = None
        self.relations = []
        self.bound = [0, 0, 0]
        self.sightings = None

    def hold(self, program, relations):
        self.program = program
        self.relations = relations
        self.sightings = None

    def look_within(self, told_bound):
        self.bound = told_bound
        self.sightings = None


# What refuses a call answers the refusal's number, or 0 where it doesn't refuse.
# Each takes the desk, the call's whole numbers and the call's list, as the calls do.
def too_long_text(desk, numbers, listed):
    return -1 if len(listed) > LONGEST_TEXT else 0


def no_bound(desk, numbers, listed):
    return 0 if is_bound(numbers) else -5


def no_text(desk, numbers, listed):
    return -8 if desk.program is None else 0


def no_relation(desk, numbers, listed):
    return 0 if 0 <= numbers[0] < len(desk.relations) else -2


def too_many_inputs(desk, numbers, listed):
    return -7 if input_count(desk.bound) > MOST_INPUTS_LOOKED_AT else 0


def no_row(desk, numbers, listed):
    return 0 if is_input_row(listed) else -5


def not_broken(desk, numbers, listed):
    state = state_at(desk.program, desk.relations[numbers[0]], listed[1:])
    return 0 if state == BROKEN else -4


def no_mutant(desk, numbers, listed):
    return 0 if 0 <= numbers[0] < len(mutants_of(desk.program)) else -3


def untold_steps(desk, numbers, listed):
    return 0 if has_told_steps(mutants_of(desk.program)[numbers[0]]) else -6


def no_places(desk, numbers, listed):
    return 0 if 0 <= numbers[0] <= MOST_PLACES else -5


def no_whole_relation(desk, numbers, listed):
    return -5 if relation_of_numbers(listed) is None else 0


def no_room(desk, numbers, listed):
    return -6 if len(desk.relations) == MOST_RELATIONS else 0


def load(desk, numbers, listed):
    try:
        told = read_text(listed)
    except Fault as fault:
        return [1, fault.kind, fault.place]
    desk.hold(told[0], told[1])
    return [0, len(desk.program), len(desk.relations)]


def shown(desk, numbers, listed):
    return counted_numbers([ord(sign) for sign in one_form(desk.program, desk.relations)])


def bound(desk, numbers, listed):
    desk.look_within(numbers)
    return [input_count(numbers)]


def held(desk, numbers, listed):
    return tally(desk.program, desk.relations[numbers[0]], inputs_of(desk.bound))


def table(desk, numbers, listed):
    rows = inputs_of(desk.bound)
    return counted_numbers([table_entry(desk.program, relation, rows) for relation in desk.relations])


def stand(desk, numbers, listed):
    ways = holding_ways(desk.program, desk.relations[numbers[0]], inputs_of(desk.bound))
    return counted_numbers(way_numbers(ways)) + counted_numbers(way_numbers(strongest_ways(ways)))


def cut(desk, numbers, listed):
    condition = first_holding_condition(desk.program, desk.relations[numbers[0]], inputs_of(desk.bound))
    return [0] if condition is None else [1] + condition_numbers(condition)


def shrink(desk, numbers, listed):
    return counted_numbers(made_smaller(desk.program, desk.relations[numbers[0]], listed[1:]))


def mutants(desk, numbers, listed):
    found = mutants_of(desk.program)
    answer = [len(found)]
    for mutant in found:
        answer.extend([mutant.change, mutant.place])
    return answer


# The longest work of all, and several calls ask for it: so it's kept.
def sightings_now(desk):
    if desk.sightings is None:
        desk.sightings = sightings_of(desk.program, desk.relations, inputs_of(desk.bound))
    return desk.sightings


def counts(desk, numbers, listed):
    sightings = sightings_now(desk)
    told = [sightings, seen_ones(sightings), unseen_mutants(sightings), alike_mutants(sightings)]
    return [len(ones) for ones in told]


def least(desk, numbers, listed):
    sets = least_sets(sightings_now(desk))
    return [len(sets)] + counted_numbers(sets[0])


def unseen(desk, numbers, listed):
    return counted_numbers(unseen_mutants(sightings_now(desk)))


def show(desk, numbers, listed):
    rows = inputs_of(desk.bound)
    outcomes = outcomes_of(desk.program, rows)
    mutant_outcomes = outcomes_of(mutants_of(desk.program)[numbers[0]].program, rows)
    differing = differing_inputs(outcomes, mutant_outcomes)
    if not differing:
        return [0]
    first = differing[0]
    sides = outcome_numbers(outcomes[first]) + outcome_numbers(mutant_outcomes[first])
    return [1, len(differing), first] + counted_numbers(rows[first]) + sides


def chain(desk, numbers, listed):
    return counted_numbers(chain_of(sightings_now(desk), input_count(desk.bound)))


def matched(desk, numbers, listed):
    return counted_numbers(matching_kinds(desk.program, inputs_of(desk.bound)))


def strongest(desk, numbers, listed):
    return counted_numbers(strongest_places(desk.relations, relation_follows))


def group(desk, numbers, listed):
    return counted_numbers(leaving_turns(desk.program, numbers[0]))


def adopt(desk, numbers, listed):
    desk.hold(mutants_of(desk.program)[numbers[0]].program, desk.relations)
    return [len(desk.program), len(mutants_of(desk.program))]


def put(desk, numbers, listed):
    desk.hold(desk.program, desk.relations + [relation_of_numbers(listed)])
    return [len(desk.relations) - 1]


def drop(desk, numbers, listed):
    desk.hold(desk.program, desk.relations[:numbers[0]] + desk.relations[numbers[0] + 1:])
    return [len(desk.relations)]


# Of each call, by its number: what answers it, how many whole numbers it has, whether a list
# stands behind them, and what may refuse it, in the order in which this is looked at.
CALLS = (
    (load, 0, True, (too_long_text,)),
    (shown, 0, False, (no_text,)),
    (bound, 3, False, (no_bound,)),
    (held, 1, False, (no_text, no_relation, too_many_inputs)),
    (table, 0, False, (no_text, too_many_inputs)),
    (stand, 1, False, (no_text, no_relation, too_many_inputs)),
    (cut, 1, False, (no_text, no_relation, too_many_inputs)),
    (shrink, 1, True, (no_text, no_relation, no_row, not_broken)),
    (mutants, 0, False, (no_text,)),
    (counts, 0, False, (no_text, too_many_inputs)),
    (least, 0, False, (no_text, too_many_inputs)),
    (unseen, 0, False, (no_text, too_many_inputs)),
    (show, 1, False, (no_text, no_mutant, too_many_inputs)),
    (chain, 0, False, (no_text, too_many_inputs)),
    (matched, 0, False, (no_text, too_many_inputs)),
    (strongest, 0, False, (no_text,)),
    (group, 1, False, (no_text, no_places)),
    (adopt, 1, False, (no_text, no_mutant, untold_steps)),
    (put, 0, True, (no_text, no_whole_relation, no_room)),
    (drop, 1, False, (no_text, no_relation)),
)


def answer_of(desk, call, numbers, listed):
    for refusal_of in call[3]:
        refusal = refusal_of(desk, numbers, listed)
        if refusal < 0:
            return [refusal]
    return call[0](desk, numbers, listed)


def answers(calls):
    desk = Desk()
    answered = []
    position = 0
    while position < len(calls):
        call = CALLS[calls[position]]
        list_start = position + 1 + call[1]
        numbers = calls[position + 1:list_start]
        listed = []
        position = list_start
        if call[2]:
            position = list_start + 1 + calls[list_start]
            listed = calls[list_start + 1:position]
        answer = answer_of(desk, call, numbers, listed)
        answered.append(len(answer))
        answered.extend(answer)
    return answered
