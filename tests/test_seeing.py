import unittest

from relationshelddesk.seeing import Sighting, chain_of, least_sets
from tests.asking import CHAIN, COUNTS, LEAST, TABLE, UNSEEN, adopt, ask, bound, drop, load, put, show

# Of the program ( abs sort ) the mutants are: 0, abs gone; 1, both changed; 2, sort gone; 3, reverse for sort.
SIGNED = "relation any input ( times -1 ) output equal ( );"  # sees 0 and 1
TURNED = "relation any input ( reverse ) output equal ( );"  # sees 2 and 3
BOTH = "relation any input ( times -1 reverse ) output equal ( );"  # sees all
BLIND = "relation any input ( ) output equal ( );"  # sees none
# The program breaks it, and each of the mutants does.
BAD = "relation some input ( ) output equal ( add 1 );"

MUCH = "times 99 times 99 times 99"


def asked(text, told_bound, *calls):
    return ask(load(text), bound(*told_bound), *calls)[2:]


class LeastTest(unittest.TestCase):
    def least(self, *relations):
        return asked("program ( abs sort );" + "".join(relations), (2, -1, 1), LEAST)[0]

    def test_no_mutant_is_seen(self):
        self.assertEqual(self.least(), [1, 0])
        self.assertEqual(self.least(BLIND, BLIND), [1, 0])
        self.assertEqual(self.least(BAD), [1, 0])
        # No mutants at all.
        self.assertEqual(asked("program ( );" + BLIND, (2, 0, 1), LEAST), [[1, 0]])

    def test_one_set_of_one_relation(self):
        self.assertEqual(self.least(SIGNED), [1, 1, 0])
        self.assertEqual(self.least(SIGNED, TURNED, BOTH), [1, 1, 2])
        self.assertEqual(self.least(BLIND, BAD, BOTH, BLIND), [1, 1, 2])

    def test_several_sets_of_one_relation(self):
        self.assertEqual(self.least(SIGNED, SIGNED), [2, 1, 0])
        self.assertEqual(self.least(TURNED, BOTH, SIGNED, BOTH, BOTH), [3, 1, 1])

    def test_sets_of_two_relations(self):
        self.assertEqual(self.least(SIGNED, TURNED), [1, 2, 0, 1])
        self.assertEqual(self.least(TURNED, BLIND, BAD, SIGNED), [1, 2, 0, 3])
        # Also 0 2, 1 3 and 2 3.
        self.assertEqual(self.least(SIGNED, TURNED, TURNED, SIGNED), [4, 2, 0, 1])
        # 0 2, 0 3, 1 2, 1 3.
        self.assertEqual(self.least(SIGNED, SIGNED, TURNED, TURNED), [4, 2, 0, 2])
        self.assertEqual(self.least(*[SIGNED, TURNED] * 6), [36, 2, 0, 1])

    def test_a_set_of_three_relations(self):
        # once gone, sort for it and sum ahead of it: seen by the last relation alone; sum gone: by rotate alone;
        # count for sum: by times alone.
        text = (
            "program ( once sum ); relation plus input ( abs ) output equal ( );"
            "relation unlike input ( times -1 ) output equal ( times -1 ); relation any input ( rotate 1 )"
            " output equal ( ); relation some input ( twice ) output bag ( );"
        )
        self.assertEqual(asked(text, (2, -1, 1), LEAST, COUNTS), [[1, 3, 1, 2, 3], [5, 5, 0, 0]])

    def test_the_order_of_sets(self):
        # Mutants seen by 1 or 4, by 2 or 4, by 1 or 3: the sets 1 2, 1 4 and 3 4.
        seen = [Sighting({number: [0] for number in numbers}, False) for numbers in ([1, 4], [2, 4], [1, 3])]
        self.assertEqual(least_sets(seen), [[1, 2], [1, 4], [3, 4]])
        # Seen by 9 or 10, by 2 or 10, by 0 or 11: by their numbers, in whatever order they came.
        seen = [Sighting({number: [0] for number in numbers}, False) for numbers in ([10, 9], [10, 2], [11, 0])]
        self.assertEqual(least_sets(seen), [[0, 10], [10, 11]])

    def test_all_of_twelve(self):
        seen = [Sighting({number: [0]}, False) for number in range(12)]
        self.assertEqual(least_sets(seen), [list(range(12))])

    def test_an_alike_mutant_that_is_seen_is_to_be_seen(self):
        text = "program ( add 1 );" + BLIND + "relation any input ( count ) output equal ( count add 1 );"
        self.assertEqual(ask(load(text), COUNTS, LEAST, UNSEEN, CHAIN, show(0), show(2))[1:],
                         [[3, 3, 0, 3], [1, 1, 1], [0], [1, 0], [0], [0]])


class UnseenTest(unittest.TestCase):
    def test_seen_unseen_and_alike(self):
        # Seen: sort gone, reverse. Alike: changed with add 0, add 0 gone. Unseen: add 1.
        text = "program ( sort add 0 );" + TURNED
        self.assertEqual(asked(text, (2, 0, 1), COUNTS, UNSEEN), [[5, 2, 1, 2], [1, 4]])

    def test_all_and_none(self):
        self.assertEqual(asked("program ( abs sort );", (2, -1, 1), UNSEEN), [[4, 0, 1, 2, 3]])
        self.assertEqual(asked("program ( abs sort );" + TURNED, (2, -1, 1), UNSEEN), [[2, 0, 1]])
        self.assertEqual(asked("program ( abs sort );" + SIGNED, (2, -1, 1), UNSEEN), [[2, 2, 3]])
        self.assertEqual(asked("program ( abs sort );" + BOTH, (2, -1, 1), UNSEEN), [[0]])
        self.assertEqual(asked("program ( );", (2, -1, 1), UNSEEN), [[0]])

    def test_relations_that_are_not_good_do_not_count(self):
        self.assertEqual(asked("program ( abs sort );" + BAD, (2, -1, 1), UNSEEN), [[4, 0, 1, 2, 3]])

    def test_alike_ones_are_not_unseen(self):
        # Without numbers below 0 abs does nothing.
        self.assertEqual(asked("program ( abs sort );", (2, 0, 1), UNSEEN), [[2, 2, 3]])
        self.assertEqual(asked("program ( abs sort );", (1, 0, 1), UNSEEN), [[0]])

    def test_an_outcome_that_is_none_is_none_of_the_others(self):
        # Each step gone: there's an outcome where the program has none.
        self.assertEqual(asked(f"program ( {MUCH} );", (1, 2, 2), UNSEEN), [[3, 0, 3, 6]])


class ShowTest(unittest.TestCase):
    def test_an_alike_mutant(self):
        text = "program ( sort take 2 );"
        self.assertEqual(asked(text, (2, 0, 1), show(2), show(3), show(4)), [[0], [0], [0]])
        # At 0 0 1 and so on they aren't.
        self.assertEqual(asked(text, (3, 0, 1), show(3), show(4))[0][:3], [1, 8, 7])

    def test_the_first_input_that_differs(self):
        # sort gone: at 1 0, the one with number 5.
        text = "program ( sort );"
        self.assertEqual(asked(text, (2, 0, 1), show(0)), [[1, 1, 5, 2, 1, 0, 1, 2, 0, 1, 1, 2, 1, 0]])
        # reverse for it: at 0 1.
        self.assertEqual(asked(text, (2, 0, 1), show(1)), [[1, 1, 4, 2, 0, 1, 1, 2, 0, 1, 1, 2, 1, 0]])
        self.assertEqual(asked(text, (3, 0, 1), show(0))[0][:3], [1, 5, 5])

    def test_a_row_without_numbers(self):
        # count gone: of the row without numbers 0 and nothing; alike at the row 1 alone.
        self.assertEqual(asked("program ( count );", (1, 0, 1), show(0)), [[1, 2, 0, 0, 1, 1, 0, 1, 0]])

    def test_the_mutants_outcome_is_none(self):
        # take 6 of six numbers, three times twice: 48.
        row = [7] * 6
        answered = asked("program ( take 5 twice twice twice );", (6, 7, 7), show(1))
        self.assertEqual(answered, [[1, 1, 6, 6] + row + [1, 40] + [7] * 40 + [0]])

    def test_the_programs_outcome_is_none(self):
        self.assertEqual(asked(f"program ( {MUCH} );", (1, 2, 2), show(0)), [[1, 1, 1, 1, 2, 0, 1, 1, 19602]])

    def test_none_of_both(self):
        # times 100 in the first one's place: alike at the row without numbers and at 2, not at 1.
        self.assertEqual(asked(f"program ( {MUCH} );", (1, 2, 2), show(1)), [[0]])
        self.assertEqual(asked(f"program ( {MUCH} );", (1, 1, 2), show(1)),
                         [[1, 1, 1, 1, 1, 1, 1, 970299, 1, 1, 980100]])

    def test_the_relations_do_not_count(self):
        for relation in ("", SIGNED, BAD):
            with self.subTest(relation=relation):
                self.assertEqual(asked("program ( abs );" + relation, (1, -1, 1), show(0)),
                                 [[1, 1, 1, 1, -1, 1, 1, 1, 1, 1, -1]])

    def test_all_of_forty_inputs(self):
        self.assertEqual(asked("program ( count add 1 );", (3, -1, 1), show(3))[0][:2], [1, 40])

    def test_no_such_mutant(self):
        answered = asked("program ( sort take 2 );", (2, 0, 1), show(5), show(6), show(-1))
        self.assertEqual(answered[0][0], 1)
        self.assertEqual(answered[1:], [[-3], [-3]])


class ChainTest(unittest.TestCase):
    def test_no_mutant_is_seen(self):
        self.assertEqual(asked("program ( abs sort );", (2, -1, 1), CHAIN), [[0]])
        self.assertEqual(asked("program ( abs sort );" + BAD + BLIND, (2, -1, 1), CHAIN), [[0]])
        self.assertEqual(asked("program ( );" + BLIND, (2, -1, 1), CHAIN), [[0]])

    def test_of_inputs_that_see_as_many_the_least_one(self):
        # abs gone is seen at -1 and at 1.
        self.assertEqual(asked("program ( abs );" + SIGNED, (1, -1, 1), CHAIN), [[1, 1]])
        # All four of the mutants are seen at -1 0, also later on.
        self.assertEqual(asked("program ( abs sort );" + SIGNED + TURNED, (2, -1, 1), CHAIN), [[1, 5]])

    def test_the_input_that_sees_most(self):
        # take gone and take 3 are seen at three numbers and more, drop 2 at five.
        text = "program ( take 2 ); relation any input ( ) output equal ( take 2 );"
        self.assertEqual(asked(text, (4, 0, 0), CHAIN, COUNTS), [[1, 3], [3, 2, 1, 0]])
        self.assertEqual(asked(text, (5, 0, 0), CHAIN, COUNTS), [[1, 5], [3, 3, 0, 0]])

    def test_several_inputs(self):
        # reverse is seen at 0 1, sort gone at 1 0.
        text = "program ( sort ); relation any input ( ) output equal ( sort );"
        self.assertEqual(asked(text, (2, 0, 1), CHAIN), [[2, 4, 5]])
        # add -1 is seen at 0, abs gone at -3 and -2.
        text = (
            "program ( add 1 abs ); relation plus input ( add 1 ) output equal ( add 1 );"
            "relation any input ( ) output equal ( abs );"
        )
        self.assertEqual(asked(text, (1, -3, 3), CHAIN, LEAST, UNSEEN), [[2, 1, 4], [1, 2, 0, 1], [3, 0, 1, 3]])

    def test_the_order_of_the_chain(self):
        # abs gone is seen at 0 -1 (7) and 1 -1 (10), changed with sums at -1 1 (6) and 1 -1 (10),
        # sums gone at -1 0 (5) and 1 0 (11).
        text = "program ( once abs sums ); relation any input ( ) output equal ( sort );"
        self.assertEqual(asked(text, (2, -1, 1), CHAIN, COUNTS), [[2, 10, 5], [7, 3, 4, 0]])

    def test_mutants_in_the_chain_do_not_count_again(self):
        # Input 1 sees three; of the two that are left 0 sees one, 2 and 3 see both.
        seen = [[0, 1], [1], [1, 2], [0, 2, 3], [2, 3]]
        sightings = [Sighting({0: numbers}, False) for numbers in seen]
        self.assertEqual(chain_of(sightings, 4), [1, 2])
        # Each relation's inputs count, and each mutant once at an input.
        sightings = [Sighting({0: [3], 2: [1, 3]}, False), Sighting({1: [1]}, True), Sighting({}, False)]
        self.assertEqual(chain_of(sightings, 4), [1])


class KeptTest(unittest.TestCase):
    """What is made for one of these calls doesn't outlive a change."""

    def test_after_each_change(self):
        text = "program ( abs sort );" + SIGNED
        calls = [COUNTS, LEAST, UNSEEN, CHAIN]
        first = asked(text, (2, -1, 1), *calls)
        self.assertEqual(first, [[4, 2, 2, 0], [1, 1, 0], [2, 2, 3], [1, 5]])
        answered = asked(text, (2, -1, 1), COUNTS, bound(1, 0, 1), *calls)
        self.assertEqual(answered[2:], [[4, 1, 0, 4], [1, 1, 0], [0], [1, 2]])
        answered = asked(text, (2, -1, 1), LEAST, put(0, 1, 5, 0, 0), *calls)
        self.assertEqual(answered[1:], [[1], [4, 4, 0, 0], [1, 2, 0, 1], [0], [1, 5]])
        answered = asked(text, (2, -1, 1), UNSEEN, drop(0), *calls)
        self.assertEqual(answered[1:], [[0], [4, 0, 4, 0], [1, 0], [4, 0, 1, 2, 3], [0]])
        # The mutant without abs breaks the relation itself.
        answered = asked(text, (2, -1, 1), CHAIN, adopt(0), *calls, TABLE)
        self.assertEqual(answered[1:], [[1, 2], [2, 0, 2, 0], [1, 0], [2, 0, 1], [0], [1, 1]])
        answered = asked(text, (2, -1, 1), COUNTS, load("program ( sort );" + TURNED), *calls)
        self.assertEqual(answered[2:], [[2, 2, 0, 0], [1, 1, 0], [0], [1, 5]])


if __name__ == "__main__":
    unittest.main()
