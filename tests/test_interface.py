import time
import unittest

from relationshelddesk.desk import answers
from tests.asking import CHAIN, COUNTS, HUGE, LEAST, MATCHED, MUTANTS, SHOWN, STRONGEST, TABLE, UNSEEN
from tests.asking import adopt, ask, bound, cut, drop, group, held, last, load, put, row_call, show, shrink, split, stand

TEXT = "program ( abs ); relation any input ( times -1 ) output equal ( ); relation any input ( ) output long ( sum );"


class RefusalTest(unittest.TestCase):
    def test_without_a_text(self):
        calls = [SHOWN, held(0), TABLE, stand(0), cut(0), row_call(0, [1]), MUTANTS, COUNTS, LEAST, UNSEEN, show(0),
                 CHAIN, MATCHED, STRONGEST, group(1), adopt(0), put(0, 0, 0, 0), drop(0)]
        self.assertEqual(ask(*calls), [[-8]] * 18)
        self.assertEqual(ask(bound(2, 0, 1), *calls), [[7]] + [[-8]] * 18)
        self.assertEqual(ask(load("program ("), bound(1, 0, 39), *calls)[2:], [[-8]] * 18)

    def test_no_text_is_told_ahead_of_no_relation(self):
        for relation in (-1, 5, HUGE, -HUGE):
            with self.subTest(relation=relation):
                calls = [held(relation), stand(relation), cut(relation), shrink(relation), drop(relation)]
                self.assertEqual(ask(*calls), [[-8]] * 5)
                self.assertEqual(ask(show(relation), adopt(relation), group(relation), put(relation)), [[-8]] * 4)

    def test_no_such_relation(self):
        for relation in (-1, 2, HUGE, -HUGE):
            with self.subTest(relation=relation):
                calls = [held(relation), stand(relation), cut(relation), row_call(relation, [-1]), drop(relation)]
                self.assertEqual(ask(load(TEXT), *calls)[1:], [[-2]] * 5)
        for relation in (0, 1):
            with self.subTest(relation=relation):
                calls = [held(relation), stand(relation), cut(relation), row_call(relation, [-1, 1]), drop(relation)]
                self.assertNotIn([-2], ask(load(TEXT), *calls))

    def test_the_twelfth_relation(self):
        text = "program ( );" + "relation any input ( ) output equal ( );" * 11 + TEXT[17:66]
        self.assertEqual(last(load(text)), [0, 0, 12])
        answered = ask(load(text), bound(1, -1, 1), held(11), held(12), TABLE)
        self.assertEqual(answered[2:], [[2, 2, 0, 1], [-2], [12] + [0] * 11 + [1]])

    def test_no_relations(self):
        self.assertEqual(ask(load("program ( );"), held(0), stand(0), cut(0), shrink(0, 0), drop(0))[1:], [[-2]] * 5)

    def test_nothing_is_changed(self):
        refused = [load(" " * 1501), bound(1, 1, 0), held(2), stand(-1), cut(HUGE), shrink(0), row_call(0, [])]
        answered = ask(load(TEXT), bound(1, -1, 1), SHOWN, TABLE, COUNTS, *refused, SHOWN, TABLE, COUNTS)
        self.assertEqual(answered[5:12], [[-1], [-5], [-2], [-2], [-2], [-5], [-4]])
        self.assertEqual(answered[12:], answered[2:5])
        refused = [show(1), show(-1), group(4), group(-1), adopt(1), put(), put(0, 0, 0, 0, 0), drop(2), drop(-1)]
        answered = ask(load(TEXT), bound(1, -1, 1), SHOWN, LEAST, CHAIN, *refused, SHOWN, LEAST, CHAIN)
        self.assertEqual(answered[5:14], [[-3], [-3], [-5], [-5], [-3], [-5], [-5], [-2], [-2]])
        self.assertEqual(answered[14:], answered[2:5])

    def test_no_such_mutant(self):
        text = "program ( add 99 );"
        for mutant in (3, -1, HUGE, -HUGE):
            with self.subTest(mutant=mutant):
                self.assertEqual(ask(load(text), show(mutant), adopt(mutant))[1:], [[-3], [-3]])
                # Ahead of too many inputs.
                self.assertEqual(ask(load(text), bound(1, 0, 39), show(mutant), adopt(mutant))[2:], [[-3], [-3]])
        self.assertEqual(ask(load(text), show(2), adopt(2))[1:], [[0], [1, 3]])
        self.assertEqual(ask(load("program ( );"), show(0), adopt(0))[1:], [[-3], [-3]])

    def test_the_mutants_of_the_program_as_it_is_now(self):
        answered = ask(load("program ( sort take 2 );"), show(5), show(6), adopt(0), show(2), show(3), adopt(3))
        self.assertEqual(answered[1:], [[0], [-3], [1, 3], [0], [-3], [-3]])

    def test_calls_that_many_inputs_do_not_refuse(self):
        calls = [SHOWN, row_call(1, [3, 4]), MUTANTS, STRONGEST, group(2), put(0, 0, 0, 0), drop(2), adopt(0)]
        for told_bound in ((1, 0, 39), (2, -1, 36)):
            with self.subTest(told_bound=told_bound):
                answered = ask(load(TEXT), bound(*told_bound), *calls)[2:]
                self.assertEqual(answered, ask(load(TEXT), *calls)[1:])
                self.assertEqual([answer for answer in answered if answer[0] < 0], [])

    def test_numbers_beyond_the_list_do_not_count_as_from_its_end(self):
        self.assertEqual(ask(load(TEXT), held(-2), show(-1), adopt(-1), drop(-1), group(-1))[1:],
                         [[-2], [-3], [-3], [-2], [-5]])

    def test_without_a_text_nothing_comes_of_refused_calls(self):
        answered = ask(held(0), COUNTS, load(TEXT), held(0))
        self.assertEqual(answered, [[-8], [-8], [0, 1, 2], [1, 0, 0, -1]])


class ListTest(unittest.TestCase):
    def test_each_answer_has_its_count_ahead(self):
        self.assertEqual(answers([2, 2, 0, 1]), [1, 7])
        self.assertEqual(answers(bound(2, 0, 1) + SHOWN + load("program();")), [1, 7, 1, -8, 3, 0, 0, 0])
        self.assertEqual(answers(load("program") + bound(9, 0, 0)), [3, 1, 2, 7, 1, -5])

    def test_a_list_of_no_numbers(self):
        self.assertEqual(answers([0, 0]), [3, 1, 2, 0])
        self.assertEqual(answers([7, 0, 0, 1]), [1, -8, 1, -8])

    def test_twenty_calls(self):
        answered = ask(load(TEXT), bound(1, -1, 1), *[held(0), COUNTS, TABLE] * 6)
        self.assertEqual(len(answered), 20)
        self.assertEqual(answered[2:], [[4, 0, 0, -1], [1, 1, 0, 0], [2, 0, 1]] * 6)

    def test_all_twenty_calls(self):
        calls = [
            load(TEXT), SHOWN, bound(1, -1, 1), held(0), TABLE, stand(0), cut(1), row_call(1, [3, 4]), MUTANTS, COUNTS,
            LEAST, UNSEEN, show(0), CHAIN, MATCHED, STRONGEST, group(1), adopt(0), put(0, 0, 0, 0), drop(0),
        ]
        handed = [number for call in calls for number in call]
        told = list(handed)
        form = "program ( abs );\n" + TEXT[17:].replace("; ", ";\n") + "\n"
        expected = [
            [0, 1, 2], [len(form)] + list(form.encode()), [4], [4, 0, 0, -1], [2, 0, 1],
            [7, 0, 1, 2, 3, 4, 5, 6, 1, 0], [1, 1], [2, 0, 0], [1, 0, 0], [1, 1, 0, 0], [1, 1, 0], [0],
            [1, 1, 1, 1, -1, 1, 1, 1, 1, 1, -1], [1, 1], [0], [2, 0, 1], [2, 0, 1], [0, 0], [2], [2],
        ]
        self.assertEqual(split(answers(handed)), expected)
        self.assertEqual(handed, told)
        self.assertEqual(split(answers(handed)), expected)
        # Turned round, each of them but bound and load comes ahead of the text.
        turned = ask(*calls[::-1])
        self.assertEqual(turned, [[-8]] * 17 + [[4], [-8], [0, 1, 2]])
        # The relation that's dropped, the one that's put and the program without steps ahead of what asks.
        turned = ask(*calls[:1], *calls[2:3], *calls[:16:-1], *calls[3:17], *calls[1:2])
        self.assertEqual(len(turned), 20)
        self.assertEqual(turned[2:5], [[1], [1], [0, 0]])
        self.assertEqual(turned[5:19], [
            [3, 1, 0, 0], [2, 1, 0], [1, 5, 1, 5], [1, 0], [-4], [0], [0, 0, 0, 0], [1, 0], [0], [-3], [0], [2, 0, 4],
            [2, 0, 1], [1, 0],
        ])

    def test_long_lists(self):
        calls = load(TEXT.ljust(1500)) * 11
        self.assertEqual(answers(calls), [3, 0, 1, 2] * 11)

    def test_what_is_handed_in_stays(self):
        calls = load(TEXT) + bound(1, -1, 1) + SHOWN + held(0) + row_call(1, [3, 4]) + COUNTS + load("program (")
        handed = list(calls)
        first = answers(handed)
        self.assertEqual(handed, calls)
        self.assertEqual(answers(handed), first)

    def test_the_object_is_new_at_the_beginning(self):
        answers(load(TEXT) + bound(2, 0, 1))
        self.assertEqual(answers(SHOWN), [1, -8])
        self.assertEqual(last(load(TEXT), held(1)), [0, 1, 0, 0])
        self.assertEqual(last(load(TEXT), TABLE), [2, 0, 1])

    def test_all_answers_are_whole_numbers(self):
        calls = [load(TEXT), bound(1, -1, 1), SHOWN, held(0), TABLE, stand(1), cut(1), row_call(1, [3, 4]), MUTANTS,
                 COUNTS, load("?"), held(9), LEAST, UNSEEN, show(0), CHAIN, MATCHED, STRONGEST, group(2), drop(0)]
        for number in answers([number for call in calls for number in call]):
            self.assertIs(type(number), int)


class LongestWorkTest(unittest.TestCase):
    # Each input turns to 32 numbers; the program makes its steps on them, and so does each of its 31 mutants.
    PROGRAM = "program ( add 1 add 2 add 3 add 4 add 5 add 6 add 7 add 8 );"
    TURNING = [8, 17, 17, 17, 17, 17, 0, 1, 4, 5]

    def seconds(self, *calls):
        start = time.perf_counter()
        answered = ask(*calls)
        self.assertEqual([answer for answer in answered if answer[0] < 0], [])
        return time.perf_counter() - start

    def test_many_calls_on_the_same(self):
        relations = [put(5, 1, *self.TURNING, 1, *self.TURNING)] * 12
        calls = [load(self.PROGRAM), bound(1, 0, 38), *relations, COUNTS, LEAST, UNSEEN, CHAIN, MATCHED, TABLE]
        self.assertLess(self.seconds(*calls), 5)

    def test_many_calls_with_changes_between(self):
        steps = "twice twice twice twice twice abs sort sort"
        text = "".join(f"relation some input({steps})output bag({steps});" for number in range(12))
        changes = [drop(0), put(1, *self.TURNING, 1, *self.TURNING)] * 5
        asked = [COUNTS, LEAST, CHAIN, UNSEEN] * 3
        calls = [load(self.PROGRAM.replace(" ", "").replace("add", " add") + text), bound(1, 0, 38)]
        for change, call in zip(changes[:9], asked):
            calls.extend([change, call])
        self.assertLess(self.seconds(*calls), 15)

    def test_shrink_and_group(self):
        text = "program ( abs sort abs sort abs sort abs sort ); relation any input ( add 1 sort add 1 ) output equal ( );"
        row = row_call(0, [99, 98, 97, 96, 95, 94, 93, 92])
        self.assertLess(self.seconds(load(text), *[row, group(3)] * 9), 5)


if __name__ == "__main__":
    unittest.main()
