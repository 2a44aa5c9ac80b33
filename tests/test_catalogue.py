import unittest

from relationshelddesk.catalogue import KINDS, catalogue_for
from relationshelddesk.form import relation_line
from tests.asking import MATCHED, TABLE, adopt, ask, bound, drop, load

# The catalogue, with the program itself where its steps are.
CATALOGUE = [
    "relation any input ( reverse ) output equal ( );",
    "relation any input ( rotate 1 ) output equal ( );",
    "relation any input ( sort ) output equal ( );",
    "relation any input {program} output equal ( );",
    "relation any input ( add 1 ) output equal ( add 1 );",
    "relation any input ( add 1 ) output equal ( );",
    "relation any input ( times -1 ) output equal ( times -1 );",
    "relation any input ( twice ) output equal ( );",
    "relation any input ( twice ) output equal ( times 2 );",
    "relation any input ( add 1 ) output long ( );",
]

KEPT_BY_KINDS = ["012349", "012689", "0123479", "012589", "49", "37"]

MUCH = "times 99 times 99 times 99"

# A program's steps, a bound, and the kinds that match it.
MATCHES = [
    ("sort", (2, 0, 1), [0, 4]),
    ("sum", (2, 0, 1), [1]),
    ("greatest", (2, 0, 1), [0, 2, 4, 5]),
    ("least", (3, -1, 1), [0, 2, 4, 5]),
    ("count", (2, 0, 1), [3]),
    ("reverse", (2, 0, 1), [4]),
    ("add 7", (2, 0, 1), [4]),
    ("once", (2, 0, 1), [4, 5]),
    ("once above 0", (2, 0, 1), [5]),
    ("sort once", (3, -1, 1), [0, 2, 4, 5]),
    # Without steps.
    ("", (2, 0, 1), [4]),
    ("", (1, 0, 1), [0, 4]),
    ("", (0, 0, 0), [0, 1, 2, 3, 4, 5]),
    # The outcome is the same, whatever the row.
    ("drop 9 count", (2, -1, 1), [1, 3, 5]),
    ("take 0", (2, -1, 1), [0, 1, 2, 3, 4, 5]),
    # None.
    ("times 2 take 1", (2, -1, 1), []),
    ("times 2", (2, -1, 1), []),
    ("above 0", (2, -1, 1), []),
    # One relation too few: sorted, but not place by place; a sum, but not of the other sign; beyond two numbers.
    ("sort times 2", (2, 0, 1), []),
    ("sum abs", (2, -1, 1), []),
    ("take 2 sort", (2, 0, 1), [0, 4]),
    ("take 2 sort", (3, 0, 1), [4]),
    # Where a run is beyond, nothing is broken.
    (MUCH + " sort", (1, 2, 3), [0, 1, 2, 3, 4, 5]),
    ("count add 99 times 99 times 99 times 99", (2, 0, 1), [0, 1, 2, 3, 4, 5]),
]


class CatalogueTest(unittest.TestCase):
    def test_the_relations(self):
        lines = [relation_line(relation).strip() for relation in catalogue_for([("take", 2), ("abs", 0)])]
        self.assertEqual(lines, [told.replace("{program}", "( take 2 abs )") for told in CATALOGUE])

    def test_the_kinds(self):
        self.assertEqual(list(KINDS), [tuple(int(sign) for sign in told) for told in KEPT_BY_KINDS])


class MatchedTest(unittest.TestCase):
    def test_what_matches(self):
        for steps, told_bound, kinds in MATCHES:
            with self.subTest(steps=steps, told_bound=told_bound):
                answered = ask(load(f"program ( {steps} );"), bound(*told_bound), MATCHED)[2]
                self.assertEqual(answered, [len(kinds)] + kinds)

    def test_each_kind_is_there(self):
        self.assertEqual(sorted({kind for told in MATCHES for kind in told[2]}), [0, 1, 2, 3, 4, 5])

    def test_it_is_what_the_table_says_of_the_catalogue(self):
        programs = [told[0] for told in MATCHES] + [
            "abs", "rotate 1", "drop 1", "take 1", "twice", "sums", "steps", "rest 2", "sum sum", "greatest abs",
            "count times 0", "times -1 sort", "sort reverse", "sort take 1 sum", "steps sum", "once sum", "twice once",
        ]
        for steps in programs:
            relations = "".join(told.replace("{program}", f"({steps})") for told in CATALOGUE)
            text = f"program ( {steps} );" + relations
            for told_bound in [(0, 0, 0), (1, -2, 2), (2, 0, 1), (2, -2, 2), (3, -1, 1)]:
                with self.subTest(steps=steps, told_bound=told_bound):
                    answered = ask(load(text), bound(*told_bound), TABLE, MATCHED)[2:]
                    kept = [number for number in range(10) if answered[0][1 + number] != 1]
                    kinds = [kind for kind in range(6) if all(int(sign) in kept for sign in KEPT_BY_KINDS[kind])]
                    self.assertEqual(answered[1], [len(kinds)] + kinds)

    def test_the_relations_of_the_text_do_not_count(self):
        text = "program ( sum ); relation some input ( ) output equal ( add 1 );"
        self.assertEqual(ask(load(text), bound(2, 0, 1), MATCHED, drop(0), MATCHED)[2::2], [[1, 1], [1, 1]])

    def test_the_program_as_it_is_now(self):
        # count in the place of sum.
        self.assertEqual(ask(load("program ( sum );"), bound(2, 0, 1), adopt(1), MATCHED)[2:], [[1, 2], [1, 3]])


if __name__ == "__main__":
    unittest.main()
