import unittest

from relationshelddesk.smaller import smaller_rows
from tests.asking import HUGE, SHOWN, ask, bound, last, load, row_call, shrink

# Broken where some number is above 4.
ABOVE_FOUR = "program ( ); relation any input ( above 4 sum ) output equal ( drop 9 sum );"

# Broken where the sum of the numbers is odd.
ODD = "program ( ); relation any input ( sum rest 2 ) output equal ( drop 9 sum );"

# Broken where two or more numbers are above 50.
TWO_ABOVE_FIFTY = "program ( above 50 steps count ); relation any input ( drop 9 ) output equal ( );"


class SmallerTest(unittest.TestCase):
    def test_the_order_of_smaller_rows(self):
        self.assertEqual(smaller_rows([]), [])
        self.assertEqual(smaller_rows([0]), [[]])
        self.assertEqual(smaller_rows([9]), [[], [0], [4], [8]])
        self.assertEqual(smaller_rows([-9]), [[], [0], [-4], [-8]])
        self.assertEqual(smaller_rows([1]), [[], [0], [0], [0]])
        self.assertEqual(smaller_rows([-1]), [[], [0], [0], [0]])
        self.assertEqual(smaller_rows([5, 0, -2]), [
            [0, -2], [5, -2], [5, 0],
            [0, 0, -2], [2, 0, -2], [4, 0, -2],
            [5, 0, 0], [5, 0, -1], [5, 0, -1],
        ])


class ShrinkTest(unittest.TestCase):
    def shrunk(self, text, row):
        return last(load(text), row_call(0, row))

    def test_numbers_go_first_then_they_come_nearer(self):
        self.assertEqual(self.shrunk(ABOVE_FOUR, [7, 9]), [1, 5])
        self.assertEqual(self.shrunk(ABOVE_FOUR, [9, 1, 2, 3, 4, 0, 0, 0]), [1, 5])
        self.assertEqual(self.shrunk(ABOVE_FOUR, [5]), [1, 5])
        self.assertEqual(self.shrunk(ABOVE_FOUR, [99]), [1, 5])

    def test_the_half_is_rounded_towards_zero(self):
        self.assertEqual(self.shrunk(ODD, [-9]), [1, -9])
        self.assertEqual(self.shrunk(ODD, [9]), [1, 9])
        self.assertEqual(self.shrunk(ODD, [-7]), [1, -1])
        self.assertEqual(self.shrunk(ODD, [7]), [1, 1])

    def test_the_first_number_comes_ahead_of_the_second_one(self):
        # Broken where there are two numbers or more, unlike each other.
        text = "program ( once steps count ); relation any input ( drop 9 ) output equal ( );"
        self.assertEqual(self.shrunk(text, [3, 5]), [2, 0, 1])
        self.assertEqual(self.shrunk(text, [3, 0]), [2, 1, 0])
        self.assertEqual(self.shrunk(text, [4, 4, 6, 4]), [2, 0, 1])

    def test_the_row_without_numbers(self):
        text = "program ( count ); relation any input ( ) output equal ( add 1 );"
        self.assertEqual(self.shrunk(text, []), [0])
        self.assertEqual(self.shrunk(text, [5, 4]), [0])

    def test_the_condition_is_asked_of_smaller_rows(self):
        text = "program ( count ); relation {} input ( ) output equal ( add 1 );"
        self.assertEqual(self.shrunk(text.format("atleast 2"), [5, 4, 3]), [2, 0, 0])
        self.assertEqual(self.shrunk(text.format("some"), [5, 4, 3]), [1, 0])

    def test_rows_at_which_a_run_is_beyond_are_not_taken(self):
        # An even number turns beyond; an odd one turns to 0.
        text = (
            "program ( ); relation any input ( rest 2 times -1 add 1 times 99 times 99 times 99 times 2 )"
            " output equal ( );"
        )
        self.assertEqual(self.shrunk(text, [7]), [1, 1])
        self.assertEqual(self.shrunk(text, [9]), [1, 9])

    def test_at_most_60_times(self):
        # One number goes from 99 to 51 by 48 times 1, the other one the 12 times that are left.
        self.assertEqual(self.shrunk(TWO_ABOVE_FIFTY, [99, 99]), [2, 51, 87])
        # From there on, and where 60 times are just enough, or one too few.
        self.assertEqual(self.shrunk(TWO_ABOVE_FIFTY, [51, 87]), [2, 51, 51])
        self.assertEqual(self.shrunk(TWO_ABOVE_FIFTY, [63, 99]), [2, 51, 51])
        self.assertEqual(self.shrunk(TWO_ABOVE_FIFTY, [64, 99]), [2, 51, 52])
        # A number that goes counts as a time, too.
        self.assertEqual(self.shrunk(TWO_ABOVE_FIFTY, [99, 0, 99]), [2, 51, 88])

    def test_the_bound_does_not_count(self):
        answered = ask(load(ABOVE_FOUR), bound(2, -1, 36), row_call(0, [9]), bound(0, 0, 0), row_call(0, [9]))
        self.assertEqual(answered[2::2], [[1, 5], [1, 5]])


class RefusedTest(unittest.TestCase):
    def test_what_is_no_row(self):
        for listed in [
            [], [1], [0, 5], [2, 9], [2, 9, 9, 9], [-1], [-1, 9], [9] + [9] * 9, [8] + [9] * 7, [8] + [9] * 9,
            [19] + [9] * 19, [1, 100], [1, -100], [2, 9, 100], [1, HUGE], [1, -HUGE], [HUGE], [-HUGE], [HUGE, 9],
            [9] * 20,
        ]:
            with self.subTest(listed=listed):
                self.assertEqual(last(load(ABOVE_FOUR), shrink(0, *listed)), [-5])

    def test_just_a_row(self):
        self.assertEqual(last(load(ABOVE_FOUR), row_call(0, [99, -99] * 4)), [1, 5])
        self.assertEqual(last(load("program ( ); relation any input ( ) output equal ( sum );"), shrink(0, 0)), [0])

    def test_a_row_at_which_it_is_not_broken(self):
        self.assertEqual(last(load(ABOVE_FOUR), row_call(0, [])), [-4])
        self.assertEqual(last(load(ABOVE_FOUR), row_call(0, [4, 4])), [-4])
        # Off: the condition isn't so; a run is beyond.
        off = "program ( ); relation some input ( count ) output equal ( );"
        self.assertEqual(last(load(off), row_call(0, [])), [-4])
        self.assertEqual(last(load(off), row_call(0, [2])), [1, 0])
        off = "program ( times 99 times 99 times 99 ); relation any input ( times 0 ) output equal ( );"
        self.assertEqual(last(load(off), row_call(0, [2])), [-4])
        self.assertEqual(last(load(off), row_call(0, [1])), [1, 1])

    def test_the_order_of_refusals(self):
        self.assertEqual(last(shrink(0, 5)), [-8])
        self.assertEqual(last(shrink(HUGE)), [-8])
        for relation in (1, -1, HUGE, -HUGE):
            with self.subTest(relation=relation):
                self.assertEqual(last(load(ABOVE_FOUR), shrink(relation, 5)), [-2])
                self.assertEqual(last(load(ABOVE_FOUR), shrink(relation, 1, 9)), [-2])
        self.assertEqual(last(load(ABOVE_FOUR), shrink(0, 2, 0)), [-5])
        self.assertEqual(last(load("program ( );"), shrink(0, 1, 9)), [-2])

    def test_nothing_is_changed(self):
        answered = ask(load(ABOVE_FOUR), SHOWN, shrink(0, 5), row_call(0, []), shrink(7, 0), row_call(0, [9]), SHOWN)
        self.assertEqual(answered[2:6], [[-5], [-4], [-2], [1, 5]])
        self.assertEqual(answered[6], answered[1])


if __name__ == "__main__":
    unittest.main()
