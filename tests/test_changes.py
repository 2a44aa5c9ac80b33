import unittest

from tests.asking import COUNTS, HUGE, MUTANTS, SHOWN, STRONGEST, TABLE, UNSEEN
from tests.asking import adopt, ask, bound, drop, held, last, load, one_form_of, put, show, stand, text_of

RELATIONS = (
    "relation any input ( times -1 ) output equal ( );\n"
    "relation atleast 2 input ( reverse ) output bag ( add 1 );\n"
)

# A program's step, the number of the mutant whose number is beyond those of told steps.
BEYOND_TOLD = [
    ("add 99", 1), ("times 99", 1), ("above 99", 1), ("above -99", 2),
    ("rest 9", 1), ("rotate 9", 1), ("take 9", 1), ("drop 9", 1),
]

# A program's step, a mutant's number, what it becomes.
JUST_TOLD = [
    ("add 98", 1, "add 99"), ("add 99", 2, "add -99"), ("add -99", 2, "add 99"), ("add -99", 1, "add -98"),
    ("times 98", 1, "times 99"), ("times 99", 2, "times -99"), ("times -1", 1, "times 0"),
    ("above 98", 1, "above 99"), ("above 99", 2, "above 98"), ("above -98", 2, "above -99"),
    ("above -99", 1, "above -98"), ("rest 8", 1, "rest 9"), ("rotate 8", 1, "rotate 9"), ("take 8", 1, "take 9"),
    ("take 9", 2, "drop 9"), ("drop 8", 1, "drop 9"), ("drop 9", 2, "take 9"), ("drop 0", 2, "take 0"),
    ("sort", 1, "reverse"), ("reverse", 1, "sort"), ("once", 1, "sort"), ("twice", 1, "once"), ("sum", 1, "count"),
    ("count", 1, "sum"), ("greatest", 1, "least"), ("least", 1, "greatest"), ("steps", 1, "sums"),
    ("sums", 1, "steps"),
]

EMPTY = "relation any input ( ) output equal ( );\n"


class AdoptTest(unittest.TestCase):
    def test_each_change(self):
        text = "program ( take 2 sort abs );\n"
        for mutant, steps, answer in [
            (0, "sort abs", [2, 4]), (1, "take 3 sort abs", [3, 8]), (2, "drop 2 sort abs", [3, 8]),
            (3, "sort take 2 abs", [3, 8]), (4, "take 2 abs", [2, 5]), (5, "take 2 reverse abs", [3, 8]),
            (6, "take 2 abs sort", [3, 8]), (7, "take 2 sort", [2, 6]),
        ]:
            with self.subTest(mutant=mutant):
                answered = ask(load(text + RELATIONS), adopt(mutant), SHOWN, MUTANTS)
                self.assertEqual(answered[1], answer)
                self.assertEqual(text_of(answered[2]), f"program ( {steps} );\n" + RELATIONS)
                self.assertEqual(answered[3][0], answer[1])

    def test_a_number_beyond_those_of_told_steps(self):
        for step, mutant in BEYOND_TOLD:
            for program in [f"( {step} )", f"( {step} abs )"]:
                with self.subTest(program=program):
                    text = f"program {program};\n" + RELATIONS
                    answered = ask(load(text), SHOWN, MUTANTS, adopt(mutant), SHOWN, MUTANTS)
                    self.assertEqual(answered[3], [-6])
                    self.assertEqual(answered[4:], answered[1:3])

    def test_at_a_later_step(self):
        # abs gone, changed; above gone, 100, 98, changed with sum; sum gone, count.
        answered = ask(load("program ( abs above 99 sum );"), adopt(3), adopt(4), SHOWN)
        self.assertEqual(answered[1:3], [[-6], [3, 8]])
        self.assertEqual(text_of(answered[3]), "program ( abs above 98 sum );\n")

    def test_such_a_mutant_can_be_shown_and_seen(self):
        text = "program ( take 9 ); relation any input ( ) output equal ( take 9 );"
        answered = ask(load(text), bound(8, 7, 7), show(1), UNSEEN, adopt(1))
        self.assertEqual(answered[2:], [[0], [1, 2], [-6]])
        answered = ask(load("program ( twice take 9 );" + text[19:]), bound(5, 7, 7), show(4), COUNTS, adopt(4))
        self.assertEqual(answered[2], [1, 1, 5, 5, 7, 7, 7, 7, 7, 1, 9] + [7] * 9 + [1, 10] + [7] * 10)
        self.assertEqual(answered[3:], [[6, 3, 3, 0], [-6]])

    def test_numbers_of_told_steps(self):
        for step, mutant, other in JUST_TOLD:
            with self.subTest(step=step, other=other):
                answered = ask(load(f"program ( {step} );"), adopt(mutant), SHOWN)
                self.assertEqual(answered[1][0], 1)
                self.assertEqual(text_of(answered[2]), f"program ( {other} );\n")

    def test_mutants_are_counted_anew(self):
        # add 0: gone and add 1, as its other sign is itself; then add 1: three.
        answered = ask(load("program ( add 0 );"), MUTANTS, adopt(1), MUTANTS, adopt(0), MUTANTS, adopt(0))
        self.assertEqual(answered[1:], [[2, 0, 0, 1, 0], [1, 3], [3, 0, 0, 1, 0, 1, 0], [0, 0], [0], [-3]])
        # abs abs: changed with one another they are the program itself.
        self.assertEqual(last(load("program ( abs sort abs );"), adopt(2)), [2, 2])
        self.assertEqual(last(load("program ( abs abs sort );"), adopt(2)), [3, 6])

    def test_relations_and_bound_stay(self):
        text = "program ( abs sort ); relation any input ( times -1 ) output equal ( );"
        answered = ask(load(text), bound(1, -1, 1), TABLE, adopt(0), TABLE, held(0), SHOWN)
        self.assertEqual(answered[2:6], [[1, 0], [1, 2], [1, 1], [2, 2, 0, 1]])
        self.assertEqual(text_of(answered[6]), "program ( sort );\n" + text[22:] + "\n")

    def test_no_such_mutant(self):
        for mutant in (-1, 3, HUGE, -HUGE):
            with self.subTest(mutant=mutant):
                answered = ask(load("program ( add 99 );"), SHOWN, adopt(mutant), SHOWN)
                self.assertEqual(answered[2], [-3])
                self.assertEqual(answered[3], answered[1])
                self.assertEqual(last(adopt(mutant)), [-8])
        self.assertEqual(last(load("program ( );"), adopt(0)), [-3])
        self.assertEqual(last(load("program ( add 99 );"), adopt(2)), [1, 3])

    def test_the_bound_does_not_count(self):
        self.assertEqual(last(load("program ( abs );"), bound(2, -1, 36), adopt(0)), [0, 0])

    def test_a_new_text_takes_its_place(self):
        answered = ask(load("program ( abs sort );"), adopt(0), load("program ( sum );"), SHOWN)
        self.assertEqual(text_of(answered[3]), "program ( sum );\n")


# A relation as numbers, and as it is shown.
GOOD = [
    ([0, 0, 0, 0], "any input ( ) output equal ( )"),
    ([1, 0, 1, 0], "some input ( ) output bag ( )"),
    ([2, 0, 2, 0], "rising input ( ) output numbers ( )"),
    ([3, 0, 3, 0], "plus input ( ) output most ( )"),
    ([4, 0, 4, 0], "unlike input ( ) output least ( )"),
    ([5, 0, 0, 5, 0], "atleast 0 input ( ) output begins ( )"),
    ([5, 9, 0, 6, 0], "atleast 9 input ( ) output long ( )"),
    ([0, 2, 0, -99, 0, 99, 0, 0], "any input ( add -99 add 99 ) output equal ( )"),
    ([0, 2, 1, -99, 1, 99, 0, 0], "any input ( times -99 times 99 ) output equal ( )"),
    ([0, 2, 2, 1, 2, 9, 0, 0], "any input ( rest 1 rest 9 ) output equal ( )"),
    ([0, 3, 3, 4, 5, 0, 0], "any input ( abs sort reverse ) output equal ( )"),
    ([0, 2, 6, 0, 6, 9, 0, 0], "any input ( rotate 0 rotate 9 ) output equal ( )"),
    ([0, 2, 7, 0, 7, 9, 0, 0], "any input ( take 0 take 9 ) output equal ( )"),
    ([0, 2, 8, 0, 8, 9, 0, 0], "any input ( drop 0 drop 9 ) output equal ( )"),
    ([0, 2, 9, -99, 9, 99, 0, 0], "any input ( above -99 above 99 ) output equal ( )"),
    ([0, 0, 0, 8, 10, 11, 12, 13, 14, 15, 16, 17],
     "any input ( ) output equal ( once sum greatest least count steps sums twice )"),
    ([0, 8] + [3] * 8 + [0, 0], "any input ( " + "abs " * 8 + ") output equal ( )"),
    ([0, 0, 0, 8] + [0, -1] * 8, "any input ( ) output equal ( " + "add -1 " * 8 + ")"),
    ([5, 2, 1, 0, -1, 6, 2, 17, 7, 3], "atleast 2 input ( add -1 ) output long ( twice take 3 )"),
    ([5, 9, 8] + [1, -99] * 8 + [2, 8] + [1, -99] * 8,
     "atleast 9 input ( " + "times -99 " * 8 + ") output numbers ( " + "times -99 " * 8 + ")"),
]

NOT_WHOLE = [
    # Too short, too long.
    [], [0], [0, 0], [0, 0, 0], [0, 0, 0, 0, 0], [0, 0, 0, 0, 7], [5], [5, 2], [5, 2, 0], [5, 2, 0, 6],
    [5, 2, 0, 6, 0, 0], [0, 1, 0, 0], [0, 1, 3, 0], [0, 1, 0, 1, 0], [0, 2, 3, 0, 0], [0, 0, 0, 1], [0, 0, 0, 1, 7],
    [0, 0, 0, 2, 3], [0] * 60, [3] * 60,
    # A condition without number with one, atleast without.
    [0, 2, 0, 6, 0], [5, 0, 0, 0],
    # The condition, its number.
    [-1, 0, 0, 0], [6, 0, 0, 0], [HUGE, 0, 0, 0], [-HUGE, 0, 0, 0], [5, -1, 0, 0, 0], [5, 10, 0, 0, 0],
    [5, HUGE, 0, 0, 0], [5, -HUGE, 0, 0, 0],
    # How many steps.
    [0, -1, 0, 0], [0, 9] + [3] * 9 + [0, 0], [0, HUGE, 0, 0], [0, -HUGE, 0, 0],
    [0, 0, 0, -1], [0, 0, 0, 9] + [3] * 9, [0, 0, 0, HUGE], [0, 0, 0, -HUGE],
    # How they stand.
    [0, 0, -1, 0], [0, 0, 7, 0], [0, 0, HUGE, 0], [0, 0, -HUGE, 0],
    # A step's number.
    [0, 1, -1, 0, 0], [0, 1, 18, 0, 0], [0, 1, HUGE, 0, 0], [0, 1, -HUGE, 0, 0],
    [0, 0, 0, 1, -1], [0, 0, 0, 1, 18], [0, 0, 0, 1, HUGE],
]

# A step's number, and those just beyond which its c, m or k is none.
STEP_EDGES = [(0, -99, 99), (1, -99, 99), (2, 1, 9), (6, 0, 9), (7, 0, 9), (8, 0, 9), (9, -99, 99)]


class PutTest(unittest.TestCase):
    def test_each_part_at_its_edge(self):
        for listed, told in GOOD:
            with self.subTest(listed=listed):
                answered = ask(load("program ( abs );"), put(*listed), SHOWN)
                self.assertEqual(answered[1], [0])
                form = f"program ( abs );\nrelation {told};\n"
                self.assertEqual(text_of(answered[2]), form)
                self.assertEqual(one_form_of(form), form)

    def test_what_is_not_whole_a_relation(self):
        for listed in NOT_WHOLE:
            with self.subTest(listed=listed):
                answered = ask(load("program ( abs );" + RELATIONS), SHOWN, put(*listed), SHOWN)
                self.assertEqual(answered[2], [-5])
                self.assertEqual(answered[3], answered[1])

    def test_each_number_of_a_step(self):
        for kind, lowest, highest in STEP_EDGES:
            for number in (lowest - 1, lowest, highest, highest + 1, HUGE, -HUGE):
                for listed in ([0, 1, kind, number, 0, 0], [0, 0, 0, 1, kind, number]):
                    with self.subTest(listed=listed):
                        expected = [0] if lowest <= number <= highest else [-5]
                        self.assertEqual(last(load("program ( );"), put(*listed)), expected)

    def test_each_list_of_good_numbers_cut_or_made_longer(self):
        for listed, told in GOOD:
            for length in range(len(listed)):
                with self.subTest(listed=listed, length=length):
                    self.assertEqual(last(load("program ( );"), put(*listed[:length])), [-5])
            with self.subTest(listed=listed):
                self.assertEqual(last(load("program ( );"), put(*listed, 0)), [-5])

    def test_it_stands_behind_the_others(self):
        answered = ask(load("program ( abs );" + RELATIONS), put(0, 0, 6, 0), put(5, 3, 0, 0, 1, 4), SHOWN)
        self.assertEqual(answered[1:3], [[2], [3]])
        self.assertEqual(text_of(answered[3]), (
            "program ( abs );\n" + RELATIONS + "relation any input ( ) output long ( );\n"
            "relation atleast 3 input ( ) output equal ( sort );\n"
        ))

    def test_it_is_held_like_the_others(self):
        # Its own input and output, its way and its condition.
        answered = ask(
            load("program ( abs );"), bound(1, -1, 1), TABLE, put(1, 1, 1, -1, 0, 0), put(0, 0, 3, 1, 0, 1), TABLE,
            held(0), held(1), held(2), stand(1), STRONGEST, put(1, 0, 6, 1, 0, 1), STRONGEST, put(0, 0, 0, 1, 0, 1),
            STRONGEST,
        )
        self.assertEqual(answered[2:], [
            [0], [0], [1], [2, 0, 0], [3, 0, 1, -1], [4, 0, 0, -1], [-2], [2, 3, 6, 1, 3], [2, 0, 1], [2], [2, 0, 1],
            [3], [2, 0, 3],
        ])

    def test_the_twelfth_and_the_thirteenth(self):
        text = "program ( abs );\n" + EMPTY * 11
        answered = ask(load(text), put(1, 0, 0, 0), SHOWN, put(0, 0, 0, 0), put(5, 9, 0, 0, 0), SHOWN)
        self.assertEqual([answered[1], answered[3], answered[4]], [[11], [-6], [-6]])
        self.assertEqual(text_of(answered[2]), text + "relation some input ( ) output equal ( );\n")
        self.assertEqual(answered[5], answered[2])

    def test_twelve_one_by_one(self):
        answered = ask(load("program ( );"), *[put(0, 0, 0, 0)] * 13, drop(5), put(1, 0, 0, 0), put(0, 0, 0, 0), SHOWN)
        self.assertEqual(answered[1:17], [[number] for number in range(12)] + [[-6], [11], [11], [-6]])
        self.assertEqual(text_of(answered[17]), "program ( );\n" + EMPTY * 11 + EMPTY.replace("any", "some"))

    def test_what_is_no_relation_is_told_ahead_of_no_room(self):
        text = "program ( abs );\n" + EMPTY * 12
        answered = ask(load(text), put(), put(0, 0, 0), put(0, 0, 0, 0, 0), put(6, 0, 0, 0), put(0, 0, 0, 0))
        self.assertEqual(answered[1:], [[-5], [-5], [-5], [-5], [-6]])

    def test_no_text_is_told_first(self):
        self.assertEqual(ask(put(0, 0, 0, 0), put(), put(HUGE), load("program ( );"), TABLE),
                         [[-8], [-8], [-8], [0, 0, 0], [0]])

    def test_the_longest_form(self):
        longest = GOOD[-1][0]
        answered = ask(load("program ( " + "add -99 " * 8 + ");"), *[put(*longest)] * 12, SHOWN)
        self.assertEqual(answered[12], [11])
        self.assertLessEqual(len(answered[13]), 3000)
        self.assertEqual(text_of(answered[13]),
                         "program ( " + "add -99 " * 8 + ");\n" + f"relation {GOOD[-1][1]};\n" * 12)


class DropTest(unittest.TestCase):
    LINES = [
        "relation any input ( ) output equal ( add 1 );\n",
        "relation any input ( ) output equal ( );\n",
        "relation atleast 9 input ( ) output equal ( );\n",
    ]

    def text(self, *numbers):
        return "program ( abs );\n" + "".join(self.LINES[number] for number in numbers)

    def test_the_first_the_last_and_one_between(self):
        for dropped, left, table in [
            (0, (1, 2), [2, 0, 2]), (1, (0, 2), [2, 1, 2]), (2, (0, 1), [2, 1, 0]),
        ]:
            with self.subTest(dropped=dropped):
                answered = ask(load(self.text(0, 1, 2)), bound(1, 1, 2), TABLE, drop(dropped), SHOWN, TABLE,
                               held(0), held(1), held(2), drop(2))
                self.assertEqual(answered[2:4], [[3, 1, 0, 2], [2]])
                self.assertEqual(text_of(answered[4]), self.text(*left))
                self.assertEqual(answered[5], table)
                helds = [[1, 2, 0, 1], [3, 0, 0, -1], [0, 0, 3, -1]]
                self.assertEqual(answered[6:], [helds[left[0]], helds[left[1]], [-2], [-2]])

    def test_one_after_another(self):
        answered = ask(load(self.text(0, 1, 2)), drop(0), SHOWN, drop(0), SHOWN, drop(0), SHOWN, drop(0))
        self.assertEqual(answered[1::2], [[2], [1], [0], [-2]])
        self.assertEqual([text_of(told) for told in answered[2::2]], [self.text(1, 2), self.text(2), self.text()])

    def test_put_behind_what_is_left(self):
        answered = ask(load(self.text(0, 1, 2)), drop(1), put(0, 0, 0, 0), SHOWN)
        self.assertEqual(answered[1:3], [[2], [2]])
        self.assertEqual(text_of(answered[3]), self.text(0, 2, 1))

    def test_no_such_relation(self):
        for relation in (-1, 3, HUGE, -HUGE):
            with self.subTest(relation=relation):
                answered = ask(load(self.text(0, 1, 2)), drop(relation), SHOWN)
                self.assertEqual(answered[1], [-2])
                self.assertEqual(text_of(answered[2]), self.text(0, 1, 2))
                self.assertEqual(last(drop(relation)), [-8])
        self.assertEqual(last(load("program ( );"), drop(0)), [-2])

    def test_the_bound_does_not_count(self):
        self.assertEqual(last(load(self.text(0)), bound(2, -1, 36), drop(0)), [0])

    def test_the_program_and_the_bound_stay(self):
        answered = ask(load(self.text(0, 1)), bound(1, 1, 2), MUTANTS, drop(0), MUTANTS, held(0))
        self.assertEqual(answered[2:], [[1, 0, 0], [1], [1, 0, 0], [3, 0, 0, -1]])


if __name__ == "__main__":
    unittest.main()
