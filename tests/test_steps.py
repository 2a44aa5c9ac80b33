import unittest

from relationshelddesk.steps import DOINGS, is_beyond, run
from relationshelddesk.kinds import STEP_WORDS
from tests.asking import ask, bound, held, load

ROW = [3, -5, 0, 3, 7]

# Of each step: what comes of ROW, and of the row without numbers.
OUTCOMES = [
    ("add", 2, [5, -3, 2, 5, 9], []),
    ("add", -99, [-96, -104, -99, -96, -92], []),
    ("times", -2, [-6, 10, 0, -6, -14], []),
    ("times", 0, [0, 0, 0, 0, 0], []),
    ("rest", 4, [3, 3, 0, 3, 3], []),
    ("rest", 1, [0, 0, 0, 0, 0], []),
    ("abs", 0, [3, 5, 0, 3, 7], []),
    ("sort", 0, [-5, 0, 3, 3, 7], []),
    ("reverse", 0, [7, 3, 0, -5, 3], []),
    ("rotate", 0, [3, -5, 0, 3, 7], []),
    ("rotate", 2, [0, 3, 7, 3, -5], []),
    ("rotate", 5, [3, -5, 0, 3, 7], []),
    ("rotate", 9, [7, 3, -5, 0, 3], []),
    ("take", 0, [], []),
    ("take", 2, [3, -5], []),
    ("take", 9, [3, -5, 0, 3, 7], []),
    ("drop", 0, [3, -5, 0, 3, 7], []),
    ("drop", 2, [0, 3, 7], []),
    ("drop", 9, [], []),
    ("above", 0, [3, 3, 7], []),
    ("above", -6, [3, -5, 0, 3, 7], []),
    ("above", 7, [], []),
    ("once", 0, [3, -5, 0, 7], []),
    ("sum", 0, [8], [0]),
    ("greatest", 0, [7], []),
    ("least", 0, [-5], []),
    ("count", 0, [5], [0]),
    ("steps", 0, [-8, 5, 3, 4], []),
    ("sums", 0, [3, -2, -2, 1, 8], []),
    ("twice", 0, [3, -5, 0, 3, 7, 3, -5, 0, 3, 7], []),
]

# Of programs without steps a relation tells whether both turnings make the same of each input.
SAME_TURNINGS = [
    ("any", "add 3", "add 1 add 2"),
    ("any", "add -1", "add 4 add -5"),
    ("any", "times -1 times -1", ""),
    ("any", "times 3", "add 0 times 1 times 3"),
    ("any", "rest 1", "times 0"),
    ("plus", "rest 9", ""),
    ("any", "times 9 rest 9", "times 0"),
    ("any", "add 3 rest 3", "rest 3"),
    ("plus", "abs", ""),
    ("any", "times -1 abs", "abs"),
    ("rising", "sort", ""),
    ("any", "reverse sort", "sort"),
    ("any", "reverse reverse", ""),
    ("any", "rotate 1 rotate 1", "rotate 2"),
    ("atleast 3", "rotate 3", ""),
    ("atleast 3", "rotate 4", "rotate 1"),
    ("any", "reverse rotate 1 reverse rotate 1", ""),
    ("any", "take 2 count sum", "take 2 count"),
    ("any", "take 3", ""),
    ("any", "drop 1 drop 1", "drop 2"),
    ("any", "drop 3", "take 0"),
    ("atleast 3", "drop 2", "reverse take 1"),
    ("any", "above 9", "drop 9"),
    ("any", "above -9", ""),
    ("plus", "above -1", ""),
    ("unlike", "once", ""),
    ("any", "twice once", "once"),
    ("some", "sum", "sums reverse take 1"),
    ("any", "count", "times 0 add 1 sum"),
    ("any", "greatest", "sort reverse take 1"),
    ("any", "least", "sort take 1"),
    ("some", "sums steps", "drop 1"),
    ("any", "twice count", "count times 2"),
    ("any", "twice sum", "sum times 2"),
]


class StepTest(unittest.TestCase):
    def test_each_step_at_an_ordinary_row_and_at_none(self):
        for word, number, outcome, of_none in OUTCOMES:
            with self.subTest(word=word, number=number):
                self.assertEqual(run([(word, number)], ROW), outcome)
                self.assertEqual(run([(word, number)], []), of_none)
        self.assertEqual(ROW, [3, -5, 0, 3, 7])

    def test_each_step_is_tried(self):
        self.assertEqual([word for word in STEP_WORDS if word not in [told[0] for told in OUTCOMES]], [])
        self.assertEqual(list(DOINGS), list(STEP_WORDS))

    def test_a_row_of_one_number(self):
        self.assertEqual(run([("steps", 0)], [5]), [])
        self.assertEqual(run([("sums", 0)], [5]), [5])
        self.assertEqual(run([("rotate", 7)], [5]), [5])

    def test_steps_are_done_one_after_the_other(self):
        self.assertEqual(run([("add", 1), ("times", 2), ("sum", 0)], [1, 2]), [10])
        self.assertEqual(run([("times", 2), ("add", 1), ("sum", 0)], [1, 2]), [8])
        self.assertEqual(run([], [4, 2]), [4, 2])

    def test_turnings_that_make_the_same(self):
        for condition, before, behind in SAME_TURNINGS:
            with self.subTest(before=before, behind=behind):
                text = f"program ( ); relation {condition} input ( {before} ) output equal ( {behind} );"
                answered = ask(load(text), bound(3, -1, 1), held(0))
                self.assertEqual(answered[0], [0, 0, 1])
                self.assertGreater(answered[2][0], 0)
                self.assertEqual([answered[2][1], answered[2][3]], [0, -1])
                self.assertEqual(sum(answered[2][:3]), 40)


class BeyondTest(unittest.TestCase):
    def test_the_edges_of_a_row(self):
        self.assertFalse(is_beyond([]))
        self.assertFalse(is_beyond([0] * 40))
        self.assertTrue(is_beyond([0] * 41))
        self.assertFalse(is_beyond([1000000, -1000000]))
        self.assertTrue(is_beyond([0, 1000001]))
        self.assertTrue(is_beyond([-1000001, 0]))

    def test_each_step_that_can_become_beyond(self):
        self.assertEqual(run([("add", 1)], [999999]), [1000000])
        self.assertIsNone(run([("add", 2)], [999999]))
        self.assertIsNone(run([("add", -2)], [-999999]))
        self.assertEqual(run([("times", 2)], [500000]), [1000000])
        self.assertIsNone(run([("times", 99)], [-10102]))
        self.assertEqual(run([("sum", 0)], [600000, 400000]), [1000000])
        self.assertIsNone(run([("sum", 0)], [600000, 400001]))
        self.assertIsNone(run([("sums", 0)], [600000, 400001, -9]))
        self.assertIsNone(run([("steps", 0)], [-600000, 400001]))
        self.assertEqual(run([("twice", 0)], [1] * 20), [1] * 40)
        self.assertIsNone(run([("twice", 0)], [1] * 21))

    def test_a_step_beyond_is_not_made_good_by_later_ones(self):
        self.assertIsNone(run([("twice", 0), ("take", 1)], [1] * 21))
        self.assertIsNone(run([("times", 99), ("times", 0)], [99999]))

    def test_only_what_comes_of_a_step_counts(self):
        self.assertEqual(run([("sum", 0)], [900000, 900000, -1800000]), [0])

    def test_runs_of_each_place_that_are_beyond(self):
        much = "times 99 times 99 times 99"
        # Beyond at the greatest number alone: on the input, in its turning, on what's turned, in the output's turning.
        for program, before, behind, greatest in [
            (much, "drop 9", "drop 9", 2), ("drop 9", much, "", 2), (much, "times 2", "", 1), ("", "", much, 2),
        ]:
            with self.subTest(program=program, before=before, behind=behind):
                text = f"program ( {program} ); relation any input ( {before} ) output long ( {behind} );"
                answered = ask(load(text), bound(1, greatest - 1, greatest), held(0))
                self.assertEqual(answered[2], [2, 0, 1, -1])


if __name__ == "__main__":
    unittest.main()
