import itertools
import unittest

from relationshelddesk.turns import turns_of
from tests.asking import HUGE, SHOWN, adopt, ask, bound, group, last, load

MUCH = "times 99 times 99 times 99"

# A program's steps, how many places, the turns that leave it alike.
GROUPS = [
    ("", 0, [0]),
    ("sort", 0, [0]),
    ("", 1, [0]),
    ("abs", 1, [0, 1]),
    ("count", 1, [0, 1]),
    ("", 2, [0]),
    ("reverse", 2, [0]),
    ("sort take 2", 2, [0, 4]),
    ("abs", 2, [0, 1, 2, 3]),
    ("abs sum", 2, [0, 1, 2, 3, 4, 5, 6, 7]),
    # The first number with its sign, the other one with either; then the other way round.
    ("take 1", 2, [0, 1]),
    ("drop 1", 2, [0, 2]),
    ("take 1 abs", 2, [0, 1, 2, 3]),
    # The second one less the first one stays if both are exchanged with the other sign.
    ("steps", 2, [0, 7]),
    ("sum abs", 2, [0, 3, 4, 7]),
    ("take 1", 3, [0, 1, 2, 3, 8, 9, 10, 11]),
    ("drop 2", 3, [0, 2, 4, 6, 16, 18, 20, 22]),
    ("drop 1 take 1", 3, [0, 1, 4, 5, 40, 41, 44, 45]),
    ("sum", 3, [0, 8, 16, 24, 32, 40]),
    ("count", 3, list(range(48))),
    # Less the first one, plus the others (of 4): a number has its sign at the place to which it comes.
    ("sums sums sums sums sums drop 2 rest 4", 3, [0, 8, 22, 29, 38, 45]),
    # Beyond at 1 1 and -1 -1 alone.
    (MUCH + " sum", 2, [0, 4]),
    (MUCH + " sum abs", 2, [0, 3, 4, 7]),
    (MUCH + " sum times 0", 2, [0, 3, 4, 7]),
    (MUCH + " abs sum times 2", 2, [0, 1, 2, 3, 4, 5, 6, 7]),
    # Beyond at all rows but -1 -1; beyond at all.
    ("add 2 " + MUCH, 2, [0, 4]),
    ("add 5 " + MUCH, 2, [0, 1, 2, 3, 4, 5, 6, 7]),
]


def turns_told(n):
    orders = itertools.permutations(range(n))
    return [(list(order), list(signs)) for order in orders for signs in itertools.product((1, -1), repeat=n)]


class GroupTest(unittest.TestCase):
    def test_what_leaves_a_program_alike(self):
        for steps, n, turns in GROUPS:
            with self.subTest(steps=steps, n=n):
                answered = last(load(f"program ( {steps} );"), group(n))
                self.assertEqual(answered, [len(turns)] + turns)

    def test_all_turns_in_their_order(self):
        self.assertEqual(turns_of(0), [([], [])])
        self.assertEqual(turns_of(1), [([0], [1]), ([0], [-1])])
        self.assertEqual(turns_of(2), [
            ([0, 1], [1, 1]), ([0, 1], [1, -1]), ([0, 1], [-1, 1]), ([0, 1], [-1, -1]),
            ([1, 0], [1, 1]), ([1, 0], [1, -1]), ([1, 0], [-1, 1]), ([1, 0], [-1, -1]),
        ])
        self.assertEqual(turns_of(3), turns_told(3))

    def test_what_is_no_number_of_places(self):
        for n in (-1, 4, 5, HUGE, -HUGE):
            with self.subTest(n=n):
                self.assertEqual(ask(load("program ( );"), group(n), SHOWN)[1:], [[-5], [13] + list(b"program ( );\n")])
                self.assertEqual(last(group(n)), [-8])

    def test_the_bound_and_the_relations_do_not_count(self):
        text = "program ( sum ); relation some input ( ) output equal ( add 1 );"
        self.assertEqual(ask(load(text), bound(2, -1, 36), group(2), bound(0, 0, 0), group(2))[2::2], [[2, 0, 4]] * 2)

    def test_the_program_as_it_is_now(self):
        answered = ask(load("program ( sort abs sum );"), group(1), adopt(3), group(1), adopt(4), group(2))
        self.assertEqual(answered[1:], [[2, 0, 1], [2, 5], [1, 0], [2, 5], [8, 0, 1, 2, 3, 4, 5, 6, 7]])


if __name__ == "__main__":
    unittest.main()
