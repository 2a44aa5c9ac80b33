import unittest

from relationshelddesk.desk import answers
from tests.asking import COUNTS, HUGE, MUTANTS, SHOWN, TABLE, ask, bound, cut, held, last, load, row_call, shrink, stand

TEXT = "program ( abs ); relation any input ( times -1 ) output equal ( ); relation any input ( ) output long ( sum );"


class RefusalTest(unittest.TestCase):
    def test_without_a_text(self):
        calls = [SHOWN, held(0), TABLE, stand(0), cut(0), row_call(0, [1]), MUTANTS, COUNTS]
        self.assertEqual(ask(*calls), [[-8]] * 8)
        self.assertEqual(ask(bound(2, 0, 1), *calls), [[7]] + [[-8]] * 8)

    def test_no_text_is_told_ahead_of_no_relation(self):
        for relation in (-1, 5, HUGE, -HUGE):
            with self.subTest(relation=relation):
                calls = [held(relation), stand(relation), cut(relation), shrink(relation)]
                self.assertEqual(ask(*calls), [[-8]] * 4)

    def test_no_such_relation(self):
        for relation in (-1, 2, HUGE, -HUGE):
            with self.subTest(relation=relation):
                calls = [held(relation), stand(relation), cut(relation), row_call(relation, [-1])]
                self.assertEqual(ask(load(TEXT), *calls)[1:], [[-2]] * 4)
        for relation in (0, 1):
            with self.subTest(relation=relation):
                calls = [held(relation), stand(relation), cut(relation), row_call(relation, [-1, 1])]
                self.assertNotIn([-2], ask(load(TEXT), *calls))

    def test_the_twelfth_relation(self):
        text = "program ( );" + "relation any input ( ) output equal ( );" * 11 + TEXT[17:66]
        self.assertEqual(last(load(text)), [0, 0, 12])
        answered = ask(load(text), bound(1, -1, 1), held(11), held(12), TABLE)
        self.assertEqual(answered[2:], [[2, 2, 0, 1], [-2], [12] + [0] * 11 + [1]])

    def test_no_relations(self):
        self.assertEqual(ask(load("program ( );"), held(0), stand(0), cut(0), shrink(0, 0))[1:], [[-2]] * 4)

    def test_nothing_is_changed(self):
        refused = [load(" " * 1501), bound(1, 1, 0), held(2), stand(-1), cut(HUGE), shrink(0), row_call(0, [])]
        answered = ask(load(TEXT), bound(1, -1, 1), SHOWN, TABLE, COUNTS, *refused, SHOWN, TABLE, COUNTS)
        self.assertEqual(answered[5:12], [[-1], [-5], [-2], [-2], [-2], [-5], [-4]])
        self.assertEqual(answered[12:], answered[2:5])

    def test_without_a_text_nothing_comes_of_refused_calls(self):
        answered = ask(held(0), COUNTS, load(TEXT), held(0))
        self.assertEqual(answered, [[-8], [-8], [0, 1, 2], [1, 0, 0, -1]])


class ListTest(unittest.TestCase):
    def test_each_answer_has_its_count_ahead(self):
        self.assertEqual(answers([2, 2, 0, 1]), [1, 7])
        self.assertEqual(answers(bound(2, 0, 1) + SHOWN + load("program();")), [1, 7, 1, -8, 3, 0, 0, 0])
        self.assertEqual(answers(load("program") + bound(9, 0, 0)), [3, 1, 2, 7, 1, -5])

    def test_a_list_of_no_numbers(self):
        self.assertEqual(answers([0, 0]), [3, 1, 2, 0])
        self.assertEqual(answers([7, 0, 0, 1]), [1, -8, 1, -8])

    def test_twenty_calls(self):
        answered = ask(load(TEXT), bound(1, -1, 1), *[held(0), COUNTS, TABLE] * 6)
        self.assertEqual(len(answered), 20)
        self.assertEqual(answered[2:], [[4, 0, 0, -1], [1, 1, 0, 0], [2, 0, 1]] * 6)

    def test_long_lists(self):
        calls = load(TEXT.ljust(1500)) * 11
        self.assertEqual(answers(calls), [3, 0, 1, 2] * 11)

    def test_what_is_handed_in_stays(self):
        calls = load(TEXT) + bound(1, -1, 1) + SHOWN + held(0) + row_call(1, [3, 4]) + COUNTS + load("program (")
        handed = list(calls)
        first = answers(handed)
        self.assertEqual(handed, calls)
        self.assertEqual(answers(handed), first)

    def test_the_object_is_new_at_the_beginning(self):
        answers(load(TEXT) + bound(2, 0, 1))
        self.assertEqual(answers(SHOWN), [1, -8])
        self.assertEqual(last(load(TEXT), held(1)), [0, 1, 0, 0])
        self.assertEqual(last(load(TEXT), TABLE), [2, 0, 1])

    def test_all_answers_are_whole_numbers(self):
        calls = [load(TEXT), bound(1, -1, 1), SHOWN, held(0), TABLE, stand(1), cut(1), row_call(1, [3, 4]), MUTANTS,
                 COUNTS, load("?"), held(9)]
        for number in answers([number for call in calls for number in call]):
            self.assertIs(type(number), int)


if __name__ == "__main__":
    unittest.main()
