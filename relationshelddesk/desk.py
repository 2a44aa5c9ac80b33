"""The calls on one object, handed over and answered as one list of whole numbers."""

from relationshelddesk.bounds import input_count, inputs_of, is_bound, is_input_row
from relationshelddesk.form import one_form
from relationshelddesk.holding import first_holding_condition, holding_ways, strongest_ways, table_entry, tally
from relationshelddesk.kinds import CONDITION_LIMITS, CONDITION_WORDS, WAY_WORDS
from relationshelddesk.mutants import mutant_counts, mutants_of
from relationshelddesk.reading import read_text
from relationshelddesk.relations import BROKEN, state_at
from relationshelddesk.smaller import made_smaller
from relationshelddesk.tokens import Fault

LONGEST_TEXT = 1500

MOST_INPUTS_LOOKED_AT = 40


# The program is None as long as there's no text.
class Desk:
    def __init__(self):
        self.program = None
        self.relations = []
        self.bound = [0, 0, 0]


# What refuses a call answers the refusal's number, or 0 where it doesn't refuse.
# Each takes the desk, the call's whole numbers and the call's list, as the calls do.
def too_long_text(desk, numbers, listed):
    return -1 if len(listed) > LONGEST_TEXT else 0


def no_bound(desk, numbers, listed):
    return 0 if is_bound(numbers) else -5


def no_text(desk, numbers, listed):
    return -8 if desk.program is None else 0


def no_relation(desk, numbers, listed):
    return 0 if 0 <= numbers[0] < len(desk.relations) else -2


def too_many_inputs(desk, numbers, listed):
    return -7 if input_count(desk.bound) > MOST_INPUTS_LOOKED_AT else 0


def no_row(desk, numbers, listed):
    return 0 if is_input_row(listed) else -5


def not_broken(desk, numbers, listed):
    state = state_at(desk.program, desk.relations[numbers[0]], listed[1:])
    return 0 if state == BROKEN else -4


def load(desk, numbers, listed):
    try:
        told = read_text(listed)
    except Fault as fault:
        return [1, fault.kind, fault.place]
    desk.program = told[0]
    desk.relations = told[1]
    return [0, len(desk.program), len(desk.relations)]


def shown(desk, numbers, listed):
    form = [ord(sign) for sign in one_form(desk.program, desk.relations)]
    return [len(form)] + form


def bound(desk, numbers, listed):
    desk.bound = numbers
    return [input_count(numbers)]


def held(desk, numbers, listed):
    return tally(desk.program, desk.relations[numbers[0]], inputs_of(desk.bound))


def table(desk, numbers, listed):
    rows = inputs_of(desk.bound)
    entries = [table_entry(desk.program, relation, rows) for relation in desk.relations]
    return [len(entries)] + entries


def way_numbers(ways):
    return [len(ways)] + [WAY_WORDS.index(way) for way in ways]


def stand(desk, numbers, listed):
    ways = holding_ways(desk.program, desk.relations[numbers[0]], inputs_of(desk.bound))
    return way_numbers(ways) + way_numbers(strongest_ways(ways))


def condition_numbers(condition):
    kind = CONDITION_WORDS.index(condition[0])
    return [kind, condition[1]] if condition[0] in CONDITION_LIMITS else [kind]


def cut(desk, numbers, listed):
    condition = first_holding_condition(desk.program, desk.relations[numbers[0]], inputs_of(desk.bound))
    return [0] if condition is None else [1] + condition_numbers(condition)


def shrink(desk, numbers, listed):
    row = made_smaller(desk.program, desk.relations[numbers[0]], listed[1:])
    return [len(row)] + row


def mutants(desk, numbers, listed):
    found = mutants_of(desk.program)
    answer = [len(found)]
    for mutant in found:
        answer.extend([mutant.change, mutant.place])
    return answer


def counts(desk, numbers, listed):
    return mutant_counts(desk.program, desk.relations, inputs_of(desk.bound))


# Of each call, by its number: what answers it, how many whole numbers it has, whether a list
# stands behind them, and what may refuse it, in the order in which this is looked at.
CALLS = (
    (load, 0, True, (too_long_text,)),
    (shown, 0, False, (no_text,)),
    (bound, 3, False, (no_bound,)),
    (held, 1, False, (no_text, no_relation, too_many_inputs)),
    (table, 0, False, (no_text, too_many_inputs)),
    (stand, 1, False, (no_text, no_relation, too_many_inputs)),
    (cut, 1, False, (no_text, no_relation, too_many_inputs)),
    (shrink, 1, True, (no_text, no_relation, no_row, not_broken)),
    (mutants, 0, False, (no_text,)),
    (counts, 0, False, (no_text, too_many_inputs)),
)


def answer_of(desk, call, numbers, listed):
    for refusal_of in call[3]:
        refusal = refusal_of(desk, numbers, listed)
        if refusal < 0:
            return [refusal]
    return call[0](desk, numbers, listed)


def answers(calls):
    desk = Desk()
    answered = []
    position = 0
    while position < len(calls):
        call = CALLS[calls[position]]
        list_start = position + 1 + call[1]
        numbers = calls[position + 1:list_start]
        listed = []
        position = list_start
        if call[2]:
            position = list_start + 1 + calls[list_start]
            listed = calls[list_start + 1:position]
        answer = answer_of(desk, call, numbers, listed)
        answered.append(len(answer))
        answered.extend(answer)
    return answered
