import unittest

from relationshelddesk.bounds import inputs_of
from tests.asking import CHAIN, COUNTS, HUGE, LEAST, MATCHED, TABLE, UNSEEN
from tests.asking import ask, bound, cut, held, last, load, show, stand

RISING = "program ( ); relation any input ( sort ) output equal ( );"


class BoundTest(unittest.TestCase):
    def test_how_many_inputs(self):
        for told, count in [
            ((0, 0, 0), 1), ((0, -99, 99), 1), ((1, -99, 99), 200), ((1, 5, 5), 2), ((2, 0, 1), 7),
            ((8, 0, 0), 9), ((8, -99, -99), 9), ((8, 3, 4), 511), ((3, -1, 1), 40), ((2, -1, 36), 1483),
            ((3, -5, 5), 1464), ((4, 1, 5), 781), ((5, 0, 3), 1365), ((6, 0, 2), 1093), ((1, 99, 99), 2),
        ]:
            with self.subTest(told=told):
                self.assertEqual(last(bound(*told)), [count])

    def test_what_is_no_bound(self):
        for told in [
            (-1, 0, 0), (9, 0, 0), (1, 1, 0), (0, 1, 0), (1, -100, 0), (1, 0, 100), (0, -100, -99), (0, 99, 100),
            (0, 100, 100), (0, -100, -100), (0, 99, -99),
            (HUGE, 0, 0), (-HUGE, 0, 0), (1, -HUGE, 0), (1, 0, HUGE), (0, -HUGE, HUGE), (HUGE, HUGE, HUGE),
            (8, HUGE, -HUGE),
        ]:
            with self.subTest(told=told):
                self.assertEqual(last(bound(*told)), [-5])

    def test_more_than_1500_inputs(self):
        for told in [(2, 0, 38), (3, 0, 11), (4, 0, 5), (5, 0, 4), (6, 0, 3), (7, 0, 2), (8, 0, 2), (2, -99, 99),
                     (8, -99, 99)]:
            with self.subTest(told=told):
                self.assertEqual(last(bound(*told)), [-5])

    def test_the_inputs_in_their_order(self):
        self.assertEqual(inputs_of([0, -3, 3]), [[]])
        self.assertEqual(inputs_of([1, -1, 1]), [[], [-1], [0], [1]])
        self.assertEqual(inputs_of([2, 4, 5]), [[], [4], [5], [4, 4], [4, 5], [5, 4], [5, 5]])
        self.assertEqual(inputs_of([3, 7, 7]), [[], [7], [7, 7], [7, 7, 7]])

    def test_it_is_the_bound_from_now_on(self):
        answered = ask(load(RISING), held(0), bound(2, 0, 1), held(0), bound(1, 0, 1), held(0))
        self.assertEqual(answered[1::2], [[1, 0, 0, -1], [6, 1, 0, 5], [3, 0, 0, -1]])

    def test_it_needs_no_text_and_stays_with_a_new_one(self):
        answered = ask(bound(2, 0, 1), load(RISING), held(0), load("program ( ); " + RISING[13:]), held(0))
        self.assertEqual(answered, [[7], [0, 0, 1], [6, 1, 0, 5], [0, 0, 1], [6, 1, 0, 5]])

    def test_a_refused_one_changes_nothing(self):
        answered = ask(load(RISING), bound(2, 0, 1), bound(2, 1, 0), held(0), bound(2, 0, 38), held(0),
                       bound(9, 0, 0), held(0))
        self.assertEqual(answered[2:], [[-5], [6, 1, 0, 5]] * 3)


class ManyInputsTest(unittest.TestCase):
    TEXT = "program ( abs );" + RISING[12:]
    CALLS = [held(0), TABLE, stand(0), cut(0), COUNTS, LEAST, UNSEEN, show(0), CHAIN, MATCHED]

    def test_more_than_40_inputs(self):
        for told in [(1, 0, 39), (2, 0, 6), (8, 0, 1), (1, -99, 99)]:
            with self.subTest(told=told):
                self.assertEqual(ask(load(self.TEXT), bound(*told), *self.CALLS)[2:], [[-7]] * 10)

    def test_just_40_inputs(self):
        for told in [(3, -1, 1), (1, 0, 38)]:
            with self.subTest(told=told):
                answered = ask(load(self.TEXT), bound(*told), *self.CALLS)
                self.assertEqual(answered[1], [40])
                self.assertEqual(sum(answered[2][:3]), 40)
                self.assertEqual([answer for answer in answered if answer[0] < 0], [])

    def test_it_is_looked_at_last(self):
        self.assertEqual(
            ask(load(self.TEXT), bound(1, 0, 39), held(1), stand(1), cut(-1), held(HUGE), cut(-HUGE))[2:], [[-2]] * 5)
        self.assertEqual(ask(load(self.TEXT), bound(1, 0, 39), show(1), show(-1), show(HUGE))[2:], [[-3]] * 3)
        self.assertEqual(ask(bound(1, 0, 39), *self.CALLS)[1:], [[-8]] * 10)

    def test_it_changes_nothing(self):
        answered = ask(load(RISING), bound(1, 0, 39), held(0), bound(2, 0, 1), held(0))
        self.assertEqual(answered[2:], [[-7], [7], [6, 1, 0, 5]])


if __name__ == "__main__":
    unittest.main()
