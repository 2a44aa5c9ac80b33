"""How a relation does over all inputs: held, its ways to stand, and under other conditions."""

from relationshelddesk.following import strongest_places, way_follows
from relationshelddesk.kinds import WAY_WORDS
from relationshelddesk.relations import BROKEN, KEPT, OFF, is_so, sides_at, stands, state_at

LOOKED_AT_CONDITIONS = (
    ("any", 0), ("some", 0), ("rising", 0), ("plus", 0), ("unlike", 0), ("atleast", 2), ("atleast", 3),
)


# At how many inputs it's kept, broken, off; the first one at which it's broken, or -1.
def tally(program, relation, rows):
    states = [state_at(program, relation, row) for row in rows]
    first_broken = states.index(BROKEN) if BROKEN in states else -1
    return [states.count(KEPT), states.count(BROKEN), states.count(OFF), first_broken]


def table_entry(program, relation, rows):
    counted = tally(program, relation, rows)
    if counted[1] > 0:
        return 1
    return 0 if counted[0] > 0 else 2


# Each row that has sides, with them; what the condition says is left open.
def sided_rows(program, relation, rows):
    found = []
    for row in rows:
        sides = sides_at(program, relation, row)
        if sides is not None:
            found.append((row, sides))
    return found


def holding_ways(program, relation, rows):
    sided = sided_rows(program, relation, rows)
    looked_at = [sides for row, sides in sided if is_so(relation.condition, row)]
    return [way for way in WAY_WORDS if all([stands(way, sides) for sides in looked_at])]


def strongest_ways(ways):
    return [ways[place] for place in strongest_places(ways, way_follows)]


# None where there's no such condition.
def first_holding_condition(program, relation, rows):
    sided = sided_rows(program, relation, rows)
    for condition in LOOKED_AT_CONDITIONS:
        looked_at = [sides for row, sides in sided if is_so(condition, row)]
        if looked_at and all([stands(relation.way, sides) for sides in looked_at]):
            return condition
    return None
