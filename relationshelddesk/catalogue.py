"""The catalogue of relations that are looked for of a program, and the kinds that they tell."""

from relationshelddesk.relations import Relation, is_good

# Of each kind, by its number: the numbers of the relations that a program of the kind keeps.
KINDS = (
    (0, 1, 2, 3, 4, 9),
    (0, 1, 2, 6, 8, 9),
    (0, 1, 2, 3, 4, 7, 9),
    (0, 1, 2, 5, 8, 9),
    (4, 9),
    (3, 7),
)


def with_any(input_turning, way, output_turning):
    return Relation(("any", 0), input_turning, way, output_turning)


def catalogue_for(program):
    add_one = [("add", 1)]
    other_sign = [("times", -1)]
    twice = [("twice", 0)]
    return [
        with_any([("reverse", 0)], "equal", []),
        with_any([("rotate", 1)], "equal", []),
        with_any([("sort", 0)], "equal", []),
        with_any(program, "equal", []),
        with_any(add_one, "equal", add_one),
        with_any(add_one, "equal", []),
        with_any(other_sign, "equal", other_sign),
        with_any(twice, "equal", []),
        with_any(twice, "equal", [("times", 2)]),
        with_any(add_one, "long", []),
    ]


def matching_kinds(program, rows):
    keeps = [is_good(program, relation, rows) for relation in catalogue_for(program)]
    return [kind for kind, told in enumerate(KINDS) if all([keeps[number] for number in told])]
