import unittest

from relationshelddesk.relations import BROKEN, KEPT, OFF, Relation, is_so, stands, state_at
from tests.asking import TABLE, ask, bound, cut, held, load, stand

WAYS = ["equal", "bag", "numbers", "most", "least", "begins", "long"]

# Two rows, and the ways in which the first one stands to the second one.
STANDING = [
    ([], [], WAYS),
    ([1, 2], [1, 2], WAYS),
    ([2, 1], [1, 2], ["bag", "numbers", "long"]),
    ([1, 1, 2], [1, 2, 2], ["numbers", "most", "long"]),
    ([1, 2, 2], [1, 1, 2], ["numbers", "least", "long"]),
    ([1, 1, 2], [2, 1], ["numbers"]),
    ([1, 2], [1, 2, 1], ["numbers", "begins"]),
    ([1, 2, 1], [1, 2], ["numbers"]),
    ([1], [1, 2], ["begins"]),
    ([1, 2], [1], []),
    ([2], [1, 2], []),
    ([], [5], ["begins"]),
    ([5], [], []),
    ([1, 5], [2, 5], ["most", "long"]),
    ([2, 5], [1, 5], ["least", "long"]),
    ([1, 5], [2, 4], ["long"]),
    ([1], [2, 2], []),
    ([-3], [3], ["most", "long"]),
]

CONDITIONS = [
    (("any", 0), [[], [1], [2, 1], [-1, -1]], []),
    (("some", 0), [[0], [1, 2]], [[]]),
    (("rising", 0), [[], [5], [1, 1, 2], [-2, -1]], [[2, 1], [1, 2, 1]]),
    (("plus", 0), [[], [0], [3, 0]], [[-1], [3, -1, 3]]),
    (("unlike", 0), [[], [1], [1, 2, 3], [1, -1]], [[1, 1], [1, 2, 1]]),
    (("atleast", 0), [[], [1]], []),
    (("atleast", 2), [[1, 1], [1, 2, 3]], [[], [1]]),
    (("atleast", 9), [[0] * 9], [[0] * 8]),
]


class WordsTest(unittest.TestCase):
    def test_each_way_to_stand(self):
        for left, right, ways in STANDING:
            with self.subTest(left=left, right=right):
                self.assertEqual([way for way in WAYS if stands(way, (left, right))], ways)

    def test_each_condition(self):
        for condition, rows, other_rows in CONDITIONS:
            for row in rows:
                with self.subTest(condition=condition, row=row):
                    self.assertTrue(is_so(condition, row))
            for row in other_rows:
                with self.subTest(condition=condition, row=row):
                    self.assertFalse(is_so(condition, row))

    def test_sides(self):
        # Left: the sum of the numbers, each plus 1. Right: their sum, plus 1.
        relation = Relation(("some", 0), [("add", 1)], "equal", [("add", 1)])
        self.assertEqual(state_at([("sum", 0)], relation, [4]), KEPT)
        self.assertEqual(state_at([("sum", 0)], relation, [4, 5]), BROKEN)
        self.assertEqual(state_at([("sum", 0)], relation, []), OFF)
        # The left side is the first one.
        relation.way = "least"
        self.assertEqual(state_at([("sum", 0)], relation, [4, 5]), KEPT)
        relation.way = "most"
        self.assertEqual(state_at([("sum", 0)], relation, [4, 5]), BROKEN)


class HeldTest(unittest.TestCase):
    def test_kept_broken_and_off(self):
        # The inputs: none, -1, 0, 1, then nine of two numbers.
        text = "program ( ); relation {} input ( abs ) output equal ( );"
        self.assertEqual(ask(load(text.format("any")), bound(1, -1, 1), held(0))[2], [3, 1, 0, 1])
        self.assertEqual(ask(load(text.format("some")), bound(1, -1, 1), held(0))[2], [2, 1, 1, 1])
        self.assertEqual(ask(load(text.format("plus")), bound(1, -1, 1), held(0))[2], [3, 0, 1, -1])
        self.assertEqual(ask(load(text.format("atleast 2")), bound(1, -1, 1), held(0))[2], [0, 0, 4, -1])
        self.assertEqual(ask(load(text.format("any")), bound(2, -1, 1), held(0))[2], [7, 6, 0, 1])
        self.assertEqual(ask(load(text.format("atleast 1")), bound(2, 0, 1), held(0))[2], [6, 0, 1, -1])

    def test_conditions_over_a_bound(self):
        # Of the 40 inputs with up to three numbers from -1 to 1.
        for condition, so in [
            ("any", 40), ("some", 39), ("rising", 20), ("plus", 15), ("unlike", 16), ("atleast 0", 40),
            ("atleast 1", 39), ("atleast 2", 36), ("atleast 3", 27), ("atleast 4", 0), ("atleast 9", 0),
        ]:
            with self.subTest(condition=condition):
                text = f"program ( ); relation {condition} input ( ) output equal ( );"
                self.assertEqual(ask(load(text), bound(3, -1, 1), held(0))[2], [so, 0, 40 - so, -1])

    def test_the_first_broken_input_is_told_in_the_order_of_inputs(self):
        # Broken where the row is not rising: first at 1 0, the fifth behind none, 0, 1, 0 0, 0 1.
        text = "program ( ); relation any input ( sort ) output equal ( );"
        self.assertEqual(ask(load(text), bound(2, 0, 1), held(0))[2], [6, 1, 0, 5])
        # With three numbers too: 1 0 0, 0 1 0, 1 0 1, 1 1 0 are broken besides.
        self.assertEqual(ask(load(text), bound(3, 0, 1), held(0))[2], [10, 5, 0, 5])

    def test_the_condition_is_asked_of_the_input_itself(self):
        text = "program ( take 1 ); relation atleast 2 input ( take 1 ) output equal ( );"
        self.assertEqual(ask(load(text), bound(2, 0, 1), held(0))[2], [4, 0, 3, -1])

    def test_the_program_is_run_ahead_of_the_outputs_turning(self):
        text = "program ( count ); relation any input ( twice ) output equal ( times 2 );"
        self.assertEqual(ask(load(text), bound(2, 0, 1), held(0))[2], [7, 0, 0, -1])

    def test_the_bound_of_the_beginning_has_the_row_without_numbers_alone(self):
        text = "program ( sum ); relation any input ( ) output equal ( ); relation some input ( ) output equal ( );"
        self.assertEqual(ask(load(text), held(0), held(1), TABLE)[1:], [[1, 0, 0, -1], [0, 0, 1, -1], [2, 0, 2]])


class TableTest(unittest.TestCase):
    def test_held_broken_and_off(self):
        text = (
            "program ( ); relation any input ( ) output equal ( ); relation any input ( abs ) output equal ( );"
            "relation atleast 9 input ( ) output equal ( ); relation plus input ( abs ) output equal ( );"
            "relation any input ( add 99 times 99 times 99 times 99 ) output equal ( );"
            "relation some input ( add 99 times 99 times 99 times 99 ) output equal ( );"
        )
        self.assertEqual(ask(load(text), bound(1, -1, 1), TABLE)[2], [6, 0, 1, 2, 0, 0, 2])

    def test_off_everywhere(self):
        text = "program ( count add 99 times 99 times 99 times 99 ); relation any input ( ) output equal ( );"
        self.assertEqual(ask(load(text), bound(1, -1, 1), TABLE, held(0))[2:], [[1, 2], [0, 0, 4, -1]])

    def test_broken_is_told_ahead_of_kept_and_off(self):
        text = "program ( ); relation some input ( abs ) output equal ( );"
        self.assertEqual(ask(load(text), bound(1, -1, 0), TABLE, held(0))[2:], [[1, 1], [1, 1, 1, 1]])

    def test_no_relations(self):
        self.assertEqual(ask(load("program ( abs );"), TABLE)[1], [0])


class StandTest(unittest.TestCase):
    def stands(self, condition, before, behind, *told_bound):
        text = f"program ( ); relation {condition} input ( {before} ) output bag ( {behind} );"
        return ask(load(text), bound(*told_bound), stand(0))[2]

    def test_each_way_holds_where_the_rows_are_equal(self):
        self.assertEqual(self.stands("any", "", "", 2, 0, 1), [7, 0, 1, 2, 3, 4, 5, 6, 1, 0])

    def test_each_way_holds_where_it_is_off_at_all(self):
        self.assertEqual(self.stands("atleast 9", "sum", "", 2, 0, 1), [7, 0, 1, 2, 3, 4, 5, 6, 1, 0])

    def test_no_way_holds(self):
        self.assertEqual(self.stands("some", "sum add 9", "twice", 2, 0, 1), [0, 0])

    def test_several_strongest_ones(self):
        # Left each number at most the right one's.
        self.assertEqual(self.stands("any", "", "add 1", 2, 0, 1), [2, 3, 6, 1, 3])
        self.assertEqual(self.stands("any", "add 1", "", 2, 0, 1), [2, 4, 6, 1, 4])
        self.assertEqual(self.stands("any", "", "twice", 2, 0, 1), [2, 2, 5, 2, 2, 5])
        self.assertEqual(self.stands("any", "take 1", "", 2, 0, 1), [1, 5, 1, 5])
        self.assertEqual(self.stands("any", "once", "", 3, 0, 1), [1, 2, 1, 2])
        self.assertEqual(self.stands("any", "reverse", "", 2, 0, 1), [3, 1, 2, 6, 1, 1])
        self.assertEqual(self.stands("any", "add 1", "times 9", 1, 0, 1), [1, 6, 1, 6])
        self.assertEqual(self.stands("atleast 2", "sort take 1", "sort reverse take 1", 2, 0, 1), [2, 3, 6, 1, 3])
        self.assertEqual(self.stands("plus", "times 0", "", 2, -1, 1), [2, 3, 6, 1, 3])

    def test_strongest_ones_that_do_not_follow_from_one_another(self):
        # Of a row 1 0 the sides are 0 0 1 and 0 1 1: the same numbers, as many, but not each as often.
        low = "twice sort take 3"
        high = "twice sort reverse take 3 reverse"
        self.assertEqual(self.stands("atleast 2", low, high, 2, 0, 1), [3, 2, 3, 6, 2, 2, 3])
        self.assertEqual(self.stands("atleast 2", high, low, 2, 0, 1), [3, 2, 4, 6, 2, 2, 4])

    def test_the_relations_own_condition_is_asked(self):
        self.assertEqual(self.stands("any", "abs", "", 1, -1, 1), [2, 4, 6, 1, 4])
        self.assertEqual(self.stands("plus", "abs", "", 1, -1, 1), [7, 0, 1, 2, 3, 4, 5, 6, 1, 0])

    def test_inputs_at_which_a_run_is_beyond_do_not_count(self):
        much = "times 99 times 99 times 99"
        self.assertEqual(self.stands("any", much, "", 1, 0, 2)[:8], [2, 4, 6, 1, 4])
        self.assertEqual(self.stands("any", much, "times 0", 1, 2, 2), [7, 0, 1, 2, 3, 4, 5, 6, 1, 0])


class CutTest(unittest.TestCase):
    def cut(self, condition, program, before, way, behind, *told_bound):
        text = f"program ( {program} ); relation {condition} input ( {before} ) output {way} ( {behind} );"
        return ask(load(text), bound(*told_bound), cut(0))[2]

    def test_each_condition_as_the_first_one(self):
        self.assertEqual(self.cut("any", "", "", "equal", "", 3, -1, 1), [1, 0])
        # Broken at the row without numbers alone.
        behind = "times 0 add 2 sum times -1 add 1"
        self.assertEqual(self.cut("any", "", "drop 9 count", "least", behind, 3, -1, 1), [1, 1])
        self.assertEqual(self.cut("any", "", "sort", "equal", "", 3, -1, 1), [1, 2])
        self.assertEqual(self.cut("any", "", "abs", "equal", "", 3, -1, 1), [1, 3])
        self.assertEqual(self.cut("any", "", "once", "equal", "", 3, -1, 1), [1, 4])
        # Broken where there are fewer than two, or fewer than three.
        self.assertEqual(self.cut("any", "", "take 2 count", "equal", "drop 9 count add 2", 3, -1, 1), [1, 5, 2])
        self.assertEqual(self.cut("any", "", "take 3 count", "equal", "drop 9 count add 3", 3, -1, 1), [1, 5, 3])

    def test_none(self):
        self.assertEqual(self.cut("any", "", "count", "equal", "count add 1", 3, -1, 1), [0])
        # Kept at the row without numbers alone.
        self.assertEqual(self.cut("any", "count", "", "equal", "times -1 add 3 rest 3", 2, -1, 1), [0])

    def test_it_is_to_be_kept_somewhere(self):
        # With length 1 no input has 2 numbers.
        self.assertEqual(self.cut("any", "", "take 2 count", "equal", "drop 9 count add 2", 1, -1, 1), [0])
        # All runs are beyond.
        self.assertEqual(self.cut("any", "count add 99 times 99 times 99 times 99", "", "equal", "", 2, 0, 1), [0])

    def test_the_relations_own_condition_does_not_count(self):
        self.assertEqual(self.cut("atleast 9", "", "", "equal", "", 2, 0, 1), [1, 0])
        self.assertEqual(self.cut("atleast 3", "", "sort", "equal", "", 3, 0, 1), [1, 2])

    def test_the_object_keeps_its_relation(self):
        text = "program ( ); relation any input ( abs ) output equal ( );"
        self.assertEqual(ask(load(text), bound(1, -1, 1), cut(0), held(0))[2:], [[1, 3], [3, 1, 0, 1]])


if __name__ == "__main__":
    unittest.main()
