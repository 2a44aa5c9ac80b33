import unittest

from relationshelddesk.mutants import mutants_of
from tests.asking import COUNTS, MUTANTS, SHOWN, ask, bound, last, load

# Of each step: those that stand in its place.
OTHERS = [
    ("add", 5, [("add", 6), ("add", -5)]),
    ("add", -5, [("add", -4), ("add", 5)]),
    ("add", 0, [("add", 1)]),
    ("add", 99, [("add", 100), ("add", -99)]),
    ("times", 5, [("times", 6), ("times", -5)]),
    ("times", 0, [("times", 1)]),
    ("above", 5, [("above", 6), ("above", 4)]),
    ("above", -99, [("above", -98), ("above", -100)]),
    ("above", 0, [("above", 1), ("above", -1)]),
    ("rest", 9, [("rest", 10)]),
    ("rotate", 0, [("rotate", 1)]),
    ("take", 2, [("take", 3), ("drop", 2)]),
    ("drop", 9, [("drop", 10), ("take", 9)]),
    ("sort", 0, [("reverse", 0)]),
    ("reverse", 0, [("sort", 0)]),
    ("once", 0, [("sort", 0)]),
    ("twice", 0, [("once", 0)]),
    ("sum", 0, [("count", 0)]),
    ("count", 0, [("sum", 0)]),
    ("greatest", 0, [("least", 0)]),
    ("least", 0, [("greatest", 0)]),
    ("steps", 0, [("sums", 0)]),
    ("sums", 0, [("steps", 0)]),
    ("abs", 0, []),
]


class MutantsTest(unittest.TestCase):
    def test_what_stands_in_place_of_each_step(self):
        for word, number, others in OTHERS:
            with self.subTest(word=word, number=number):
                programs = [mutant.program for mutant in mutants_of([(word, number)])]
                self.assertEqual(programs, [[]] + [[other] for other in others])

    def test_their_order(self):
        found = mutants_of([("take", 2), ("sort", 0), ("abs", 0)])
        self.assertEqual([mutant.program for mutant in found], [
            [("sort", 0), ("abs", 0)],
            [("take", 3), ("sort", 0), ("abs", 0)],
            [("drop", 2), ("sort", 0), ("abs", 0)],
            [("sort", 0), ("take", 2), ("abs", 0)],
            [("take", 2), ("abs", 0)],
            [("take", 2), ("reverse", 0), ("abs", 0)],
            [("take", 2), ("abs", 0), ("sort", 0)],
            [("take", 2), ("sort", 0)],
        ])
        self.assertEqual(
            last(load("program ( take 2 sort abs );"), MUTANTS),
            [8, 0, 0, 1, 0, 1, 0, 2, 0, 0, 1, 1, 1, 2, 1, 0, 2],
        )

    def test_the_program_itself_is_no_mutant(self):
        self.assertEqual(last(load("program ( abs abs );"), MUTANTS), [2, 0, 0, 0, 1])
        self.assertEqual(last(load("program ( add 0 );"), MUTANTS), [2, 0, 0, 1, 0])
        self.assertEqual(last(load("program ( times 0 times 0 );"), MUTANTS), [4, 0, 0, 1, 0, 0, 1, 1, 1])
        # Not told like the program, though it does the same.
        self.assertEqual(last(load("program ( reverse rotate 0 );"), MUTANTS), [5, 0, 0, 1, 0, 2, 0, 0, 1, 1, 1])

    def test_no_steps(self):
        self.assertEqual(last(load("program ( );"), MUTANTS), [0])

    def test_most_of_them(self):
        answered = last(load("program ( add 1 add 2 add 3 add 4 add 5 add 6 add 7 add 8 );"), MUTANTS)
        self.assertEqual(answered[0], 31)
        self.assertEqual(answered[1:9], [0, 0, 1, 0, 1, 0, 2, 0])
        self.assertEqual(answered[-6:], [0, 7, 1, 7, 1, 7])

    def test_the_bound_does_not_count(self):
        self.assertEqual(last(load("program ( abs );"), bound(2, -1, 36), MUTANTS), [1, 0, 0])

    def test_the_program_stays(self):
        answered = ask(load("program ( take 2 sort );"), MUTANTS, COUNTS, SHOWN)
        self.assertEqual(bytes(answered[3][1:]).decode(), "program ( take 2 sort );\n")


class CountsTest(unittest.TestCase):
    def counts(self, text, *told_bound):
        return ask(load(text), bound(*told_bound), COUNTS)[2]

    def test_no_steps(self):
        self.assertEqual(self.counts("program ( ); relation any input ( ) output equal ( );", 2, 0, 1), [0, 0, 0, 0])

    def test_no_relations(self):
        # abs gone.
        self.assertEqual(self.counts("program ( abs );", 1, -1, 1), [1, 0, 1, 0])
        self.assertEqual(self.counts("program ( abs );", 1, 0, 1), [1, 0, 0, 1])

    def test_a_mutant_that_some_relation_sees(self):
        relation = "relation any input ( times -1 ) output equal ( );"
        self.assertEqual(self.counts("program ( abs );" + relation, 1, -1, 1), [1, 1, 0, 0])
        # With the relation that sees nothing ahead or behind.
        other = "relation any input ( ) output equal ( );"
        self.assertEqual(self.counts("program ( abs );" + other + relation, 1, -1, 1), [1, 1, 0, 0])
        self.assertEqual(self.counts("program ( abs );" + relation + other, 1, -1, 1), [1, 1, 0, 0])
        self.assertEqual(self.counts("program ( abs );" + other, 1, -1, 1), [1, 0, 1, 0])

    def test_relations_that_are_not_good_see_nothing(self):
        # Broken by the program itself at numbers that aren't 0, and by the mutant.
        relation = "relation any input ( ) output equal ( times -1 );"
        self.assertEqual(self.counts("program ( abs );" + relation, 1, -1, 1), [1, 0, 1, 0])

    def test_a_relation_that_is_off_at_all_is_good(self):
        # The program's run is beyond at 2; without one step it is not, and the relation is broken.
        relation = "relation some input ( ) output equal ( add 1 );"
        text = "program ( times 99 times 99 times 99 );" + relation
        self.assertEqual(self.counts(text, 1, 2, 2), [9, 3, 0, 6])

    def test_the_condition_and_the_turning_of_the_input(self):
        text = "program ( abs ); relation {} input ( times -1 ) output equal ( );"
        self.assertEqual(self.counts(text.format("atleast 2"), 1, -1, 1), [1, 0, 1, 0])
        self.assertEqual(self.counts(text.format("some"), 1, -1, 1), [1, 1, 0, 0])
        text = "program ( abs ); relation any input ( times -1 {} ) output equal ( );"
        much = "times 99 times 99 times 99 times 2"
        self.assertEqual(self.counts(text.format(much), 1, -1, 1), [1, 0, 1, 0])

    def test_outcomes_that_are_none_of_both_are_alike(self):
        self.assertEqual(self.counts("program ( times 99 times 99 times 99 );", 1, 2, 2), [9, 0, 3, 6])
        # Without numbers all are alike.
        self.assertEqual(self.counts("program ( times 99 times 99 times 99 );", 0, 0, 0), [9, 0, 0, 9])

    def test_a_mutant_may_be_seen_and_alike(self):
        # The one input has no numbers; turned it has one, at which the mutants differ.
        text = "program ( add 1 ); relation any input ( count ) output equal ( count add 1 );"
        self.assertEqual(ask(load(text), COUNTS)[1], [3, 3, 0, 3])

    def test_seen_unseen_and_alike_together(self):
        # Gone: its outcomes differ, and reverse shows it. reverse: likewise. Behind it 0 is added:
        # gone it's alike, add 1 isn't seen; changed they're alike.
        text = "program ( sort add 0 ); relation any input ( reverse ) output equal ( );"
        self.assertEqual(self.counts(text, 2, 0, 1), [5, 2, 1, 2])

    def test_numbers_beyond_told_ones(self):
        # Seen is what makes more than 9 numbers of 7 7 7: take gone, take 10, twice changed with take.
        # Unseen are twice gone and once in its place, at both places, and drop 9.
        text = "program ( twice twice take 9 ); relation any input ( ) output equal ( take 9 );"
        self.assertEqual(self.counts(text, 3, 7, 7), [8, 3, 5, 0])


if __name__ == "__main__":
    unittest.main()
