import unittest

from tests.asking import STRONGEST, ask, bound, drop, last, load, put

CONDITIONS = ["any", "some", "rising", "plus", "unlike"] + [f"atleast {k}" for k in range(10)]

WAYS = ["equal", "bag", "numbers", "most", "least", "begins", "long"]

FROM_WAYS = {"equal": WAYS, "bag": ["bag", "numbers", "long"], "most": ["most", "long"], "least": ["least", "long"],
             "numbers": ["numbers"], "begins": ["begins"], "long": ["long"]}


def strongest(*relations):
    return last(load("program ( ); " + " ".join(f"relation {told};" for told in relations)), STRONGEST)


def of_conditions(*conditions):
    return strongest(*[f"{condition} input ( add 1 ) output bag ( sum )" for condition in conditions])


def of_ways(*ways):
    return strongest(*[f"any input ( add 1 ) output {way} ( sum )" for way in ways])


def told_number(condition):
    return int(condition.split()[1]) if condition.startswith("atleast") else None


def is_no_wider(one, other):
    if one == other or other in ("any", "atleast 0"):
        return True
    if one == "some" and other == "atleast 1":
        return True
    if told_number(one) is None:
        return False
    if other == "some":
        return told_number(one) != 0
    return told_number(other) is not None and told_number(other) <= told_number(one)


class StrongestTest(unittest.TestCase):
    def test_no_relations_and_one(self):
        self.assertEqual(last(load("program ( sort );"), STRONGEST), [0])
        self.assertEqual(of_ways("long"), [1, 0])

    def test_each_two_conditions(self):
        for first in CONDITIONS:
            for second in CONDITIONS:
                with self.subTest(first=first, second=second):
                    if is_no_wider(second, first):
                        self.assertEqual(of_conditions(first, second), [1, 0])
                    elif is_no_wider(first, second):
                        self.assertEqual(of_conditions(first, second), [1, 1])
                    else:
                        self.assertEqual(of_conditions(first, second), [2, 0, 1])

    def test_conditions_by_hand(self):
        for first, second, answered in [
            ("any", "rising", [1, 0]), ("rising", "any", [1, 1]), ("rising", "plus", [2, 0, 1]),
            ("unlike", "some", [2, 0, 1]), ("plus", "atleast 0", [1, 1]), ("plus", "atleast 1", [2, 0, 1]),
            ("any", "atleast 0", [1, 0]), ("atleast 0", "any", [1, 0]),
            ("some", "atleast 1", [1, 0]), ("atleast 1", "some", [1, 0]),
            ("some", "atleast 2", [1, 0]), ("atleast 2", "some", [1, 1]),
            ("some", "atleast 0", [1, 1]), ("atleast 0", "some", [1, 0]),
            ("atleast 3", "atleast 2", [1, 1]), ("atleast 2", "atleast 3", [1, 0]),
            ("atleast 9", "any", [1, 1]), ("some", "any", [1, 1]),
        ]:
            with self.subTest(first=first, second=second):
                self.assertEqual(of_conditions(first, second), answered)

    def test_each_two_ways(self):
        for first in WAYS:
            for second in WAYS:
                with self.subTest(first=first, second=second):
                    if second in FROM_WAYS[first]:
                        self.assertEqual(of_ways(first, second), [1, 0])
                    elif first in FROM_WAYS[second]:
                        self.assertEqual(of_ways(first, second), [1, 1])
                    else:
                        self.assertEqual(of_ways(first, second), [2, 0, 1])

    def test_each_way_beside_the_others(self):
        self.assertEqual(of_ways(*WAYS), [1, 0])
        self.assertEqual(of_ways(*WAYS[::-1]), [1, 6])
        self.assertEqual(of_ways(*WAYS[1:]), [4, 0, 2, 3, 4])
        self.assertEqual(of_ways("long", "numbers", "begins"), [3, 0, 1, 2])

    def test_of_relations_that_follow_from_each_other_the_first_one_counts(self):
        self.assertEqual(of_ways("bag", "bag", "bag"), [1, 0])
        self.assertEqual(of_conditions("any", "atleast 0", "any"), [1, 0])
        self.assertEqual(of_conditions("rising", "atleast 1", "some", "rising", "atleast 1"), [2, 0, 1])
        # Both are weaker than the last one.
        self.assertEqual(of_conditions("some", "atleast 1", "atleast 0"), [1, 2])
        self.assertEqual(of_ways("numbers", "numbers", "equal", "equal"), [1, 2])

    def test_the_condition_and_the_way_are_both_asked(self):
        turned = "input ( ) output"
        self.assertEqual(strongest(f"any {turned} bag ( )", f"some {turned} equal ( )"), [2, 0, 1])
        self.assertEqual(strongest(f"any {turned} equal ( )", f"some {turned} bag ( )"), [1, 0])
        self.assertEqual(strongest(f"some {turned} bag ( )", f"any {turned} equal ( )"), [1, 1])

    def test_the_turnings_are_the_same(self):
        first = "any input ( add 1 sort ) output equal ( sum )"
        for second in [
            "any input ( add 2 sort ) output equal ( sum )", "any input ( sort add 1 ) output equal ( sum )",
            "any input ( add 1 ) output equal ( sum )", "any input ( add 1 sort ) output equal ( count )",
            "any input ( add 1 sort ) output equal ( )", "any input ( add 1 sort sort ) output equal ( sum )",
            "any input ( sum ) output equal ( add 1 sort )",
        ]:
            with self.subTest(second=second):
                self.assertEqual(strongest(first, second), [2, 0, 1])
                self.assertEqual(strongest(second, first), [2, 0, 1])
        self.assertEqual(strongest(first, first), [1, 0])

    def test_only_what_they_say_counts(self):
        # Broken, kept or off; with many inputs, too.
        text = (
            "program ( sort ); relation any input ( ) output equal ( add 1 ); relation any input ( ) output bag ( add 1 );"
            "relation atleast 9 input ( ) output equal ( ); relation any input ( ) output long ( );"
        )
        self.assertEqual(ask(load(text), STRONGEST, bound(2, -1, 36), STRONGEST)[1::2], [[3, 0, 2, 3], [3, 0, 2, 3]])

    def test_after_put_and_drop(self):
        text = "program ( ); relation some input ( ) output bag ( ); relation some input ( ) output long ( );"
        answered = ask(load(text), STRONGEST, put(0, 0, 0, 0), STRONGEST, drop(2), STRONGEST, drop(0), STRONGEST)
        self.assertEqual(answered[1:], [[1, 0], [2], [1, 2], [2], [1, 0], [1], [1, 0]])

    def test_a_relation_that_is_put_is_the_same_as_one_that_is_read(self):
        for told, listed in [
            ("some input ( abs ) output bag ( )", [1, 1, 3, 1, 0]),
            ("rising input ( ) output long ( sort twice )", [2, 0, 6, 2, 4, 17]),
            ("atleast 2 input ( add -1 once ) output equal ( take 3 sum )", [5, 2, 2, 0, -1, 10, 0, 2, 7, 3, 11]),
        ]:
            with self.subTest(told=told):
                text = f"program ( ); relation {told};"
                self.assertEqual(ask(load(text), put(*listed), STRONGEST, drop(0), STRONGEST)[1:],
                                 [[1], [1, 0], [1], [1, 0]])

    def test_twelve(self):
        self.assertEqual(of_conditions(*CONDITIONS[:12]), [1, 0])
        # With atleast 0 as the fifth one, and without it.
        self.assertEqual(of_conditions(*CONDITIONS[1:13]), [1, 4])
        self.assertEqual(of_conditions(*CONDITIONS[1:5], *CONDITIONS[6:14]), [4, 0, 1, 2, 3])
        self.assertEqual(of_conditions(*CONDITIONS[6:14][::-1], *CONDITIONS[1:5]), [4, 7, 9, 10, 11])


if __name__ == "__main__":
    unittest.main()
