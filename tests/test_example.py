import unittest

from tests.asking import CHAIN, COUNTS, LEAST, MATCHED, MUTANTS, SHOWN, STRONGEST, TABLE, UNSEEN
from tests.asking import adopt, ask, bound, cut, group, held, load, one_form_of, show, shrink, stand

TEXT = (
    "program ( sort take 2 ); relation any input ( reverse ) output equal ( ); "
    "relation any input ( add 1 ) output equal ( add 1 ); relation any input ( ) output equal ( reverse );"
)

FORM = (
    "program ( sort take 2 );\n"
    "relation any input ( reverse ) output equal ( );\n"
    "relation any input ( add 1 ) output equal ( add 1 );\n"
    "relation any input ( ) output equal ( reverse );\n"
)


class ExampleTest(unittest.TestCase):
    def test_the_calls_of_the_example(self):
        answered = ask(
            load(TEXT), bound(2, 0, 1), TABLE, held(2), stand(2), cut(2), shrink(2, 3, 5, 4, 9), COUNTS,
            LEAST, UNSEEN, show(5), CHAIN, MATCHED, STRONGEST, group(2), adopt(5), TABLE,
        )
        self.assertEqual(answered, [
            [0, 2, 3], [7], [3, 0, 0, 1], [5, 2, 0, 4], [3, 1, 2, 6, 1, 1], [0], [2, 0, 1], [6, 2, 1, 3],
            [1, 1, 0], [1, 5], [1, 6, 1, 1, 0, 1, 1, 0, 1, 0], [1, 4], [2, 0, 4], [3, 0, 1, 2], [2, 0, 4], [2, 6],
            [3, 0, 0, 0],
        ])

    def test_the_mutants_of_the_example(self):
        self.assertEqual(ask(load(TEXT), MUTANTS)[1], [6, 0, 0, 1, 0, 2, 0, 0, 1, 1, 1, 1, 1])

    def test_the_adopted_program_shown(self):
        form = FORM.replace("take 2", "drop 2")
        self.assertEqual(ask(load(TEXT), adopt(5), SHOWN)[2], [len(form)] + list(form.encode()))

    def test_the_example_shown(self):
        self.assertEqual(ask(load(TEXT), SHOWN)[1], [len(FORM)] + list(FORM.encode()))
        self.assertEqual(one_form_of(TEXT), FORM)


if __name__ == "__main__":
    unittest.main()
