import unittest

from tests.asking import SHOWN, ask, bound, held, last, load, one_form_of

EMPTY_RELATION = "relation any input ( ) output equal ( );"

# A fault's kind, and the text with an @ ahead of the byte at which it is.
FAULTS = [
    # Fault 1: bytes that begin no token, and runs that are no token.
    (1, "@P"),
    (1, "@\tprogram();"),
    (1, "program@\r();"),
    (1, "program();@."),
    (1, "program(@[add 1]);"),
    (1, "program();@\x00"),
    (1, "program();@\xff"),
    (1, "program();@`"),
    (1, "program();@{"),
    (1, "program();@/"),
    (1, "program();@:"),
    (1, "program();@,"),
    (1, "program();@*"),
    (1, "program();@+"),
    (1, "@programsx"),
    (1, "@programprogram"),
    (1, "program ( add @100 );"),
    (1, "program ( add @01 );"),
    (1, "program ( add @00 );"),
    (1, "program ( add -@07 );"),
    (1, "program ( add @000 );"),
    (1, "program ( take1@A );"),
    # Fault 1 is looked for first, in the whole text.
    (1, "nonsense ( add add ) @?"),
    (1, "program ( rest 0 ); relation @100"),
    (1, "program ( ) ) @X Y"),
    (1, "program ( take 10 @_ )"),
    # Fault 2: what can't stand where it stands, and the text's end.
    (2, "@"),
    (2, "   \n @"),
    (2, "@relation"),
    (2, "@pro gram"),
    (2, "@programs"),
    (2, "@;"),
    (2, "@7"),
    (2, "program@"),
    (2, "program  @"),
    (2, "program @;"),
    (2, "program @sort;"),
    (2, "program (@"),
    (2, "program ( @( )"),
    (2, "program ( @3 )"),
    (2, "program ( @- )"),
    (2, "program ( sort @; )"),
    (2, "program ( @program )"),
    (2, "program ( @equal )"),
    (2, "program ( sort @5 );"),
    (2, "program ( abs @-5 );"),
    (2, "program ( @sorts );"),
    (2, "program ( add @);"),
    (2, "program ( add @sort );"),
    (2, "program ( add @"),
    (2, "program ( add -@"),
    (2, "program ( add - @);"),
    (2, "program ( add - @- 3 );"),
    (2, "program ( add - @sort );"),
    (2, "program ( add 3 @4 );"),
    (2, "program ( rest @-1 );"),
    (2, "program ( rotate @-1 );"),
    (2, "program ( take @-0 );"),
    (2, "program ( drop @-0 );"),
    (2, "program ( rest @);"),
    (2, "program ( )@"),
    (2, "program ( ) @relation"),
    (2, "program ( ) @) ;"),
    (2, "program ( ); @;"),
    (2, "program ( ); @program"),
    (2, "program ( ); @sort"),
    (2, "program ( ); @0"),
    (2, "program ( ); relation@"),
    (2, "program ( ); relation @input"),
    (2, "program ( ); relation @equal"),
    (2, "program ( ); relation any @any"),
    (2, "program ( ); relation any @3"),
    (2, "program ( ); relation atleast @input"),
    (2, "program ( ); relation atleast @-1"),
    (2, "program ( ); relation atleast 3 @4"),
    (2, "program ( ); relation any input @output"),
    (2, "program ( ); relation any input ( ) @equal"),
    (2, "program ( ); relation any input ( ) output @any"),
    (2, "program ( ); relation any input ( ) output @greatest"),
    (2, "program ( ); relation any input ( ) output equal @;"),
    (2, "program ( ); relation any input ( ) output equal @3"),
    (2, "program ( ); relation any input ( ) output equal ( )@"),
    (2, "program ( ); relation any input ( ) output equal ( ) @relation"),
    (2, "program ( ); relation any input ( @any ) output equal ( );"),
    # Fault 3: numbers that a step or a condition can't have.
    (3, "program ( rest @0 );"),
    (3, "program ( rest @10 );"),
    (3, "program ( rest @99 );"),
    (3, "program ( rotate @10 );"),
    (3, "program ( take @10 );"),
    (3, "program ( drop @10 );"),
    (3, "program ( drop @99 );"),
    (3, "program ( ); relation atleast @10 input"),
    (3, "program ( add @-0 );"),
    (3, "program ( times @- \n 0 );"),
    (3, "program ( above @-0"),
    (3, "program ( ); relation any input ( add @-0 ) output"),
    (3, "program ( ); relation any input ( ) output equal ( rest @0 )"),
    # The one that reading comes to first.
    (3, "program ( rest @0 rest 10 nonsense"),
    (2, "program ( @nonsense rest 0 );"),
    (3, "program ( add @-0 ; "),
    # Fault 4: a ninth step, a 13th relation.
    (4, "program ( " + "abs " * 8 + "@abs );"),
    (4, "program ( " + "add 1 " * 8 + "@add ) ;"),
    (4, "program ( " + "abs " * 8 + "@rest 0 );"),
    (2, "program ( " + "abs " * 8 + "@any );"),
    (2, "program ( " + "abs " * 8 + "@3 );"),
    (3, "program ( " + "abs " * 7 + "rest @0 abs abs );"),
    (4, "program ( ); relation any input ( " + "sum " * 8 + "@sum ) output equal ( );"),
    (4, "program ( ); relation any input ( ) output equal ( " + "sum " * 8 + "@sum );"),
    (4, "program ( );" + EMPTY_RELATION * 12 + "@relation"),
    (4, "program ( );" + EMPTY_RELATION * 12 + "@relation nonsense"),
    (2, "program ( );" + EMPTY_RELATION * 12 + "@any"),
    (2, "program ( );" + EMPTY_RELATION * 12 + "@;"),
    (2, "program ( );" + EMPTY_RELATION * 11 + "relation@"),
]


class FaultTest(unittest.TestCase):
    def test_each_fault_with_its_place(self):
        for kind, marked in FAULTS:
            with self.subTest(kind=kind, marked=marked):
                place = marked.index("@")
                self.assertEqual(last(load(marked.replace("@", ""))), [1, kind, place])

    def test_each_byte_that_begins_no_token(self):
        allowed = [10, 32, 40, 41, 45, 59] + list(range(48, 58)) + list(range(97, 123))
        for byte in range(256):
            with self.subTest(byte=byte):
                listed = list(b"program();") + [byte]
                answered = ask([0, len(listed)] + listed)[0]
                if byte in (10, 32):
                    self.assertEqual(answered, [0, 0, 0])
                else:
                    self.assertEqual(answered, [1, 2 if byte in allowed else 1, 10])

    def test_a_fault_changes_nothing(self):
        text = "program ( abs ); relation any input ( times -1 ) output equal ( );"
        for faulty in ["program ( sort ); ?", "program ( sort ); relation", "program ( rest 0 );",
                       "program (" + " abs" * 9 + ");", ""]:
            with self.subTest(faulty=faulty):
                answered = ask(load(text), bound(1, -1, 1), SHOWN, load(faulty), SHOWN, held(0))
                self.assertEqual(answered[3][0], 1)
                self.assertEqual(answered[4], answered[2])
                self.assertEqual(answered[5], [4, 0, 0, -1])

    def test_without_a_text_a_fault_leaves_none(self):
        self.assertEqual(ask(load("program"), SHOWN), [[1, 2, 7], [-8]])


class GoodTextTest(unittest.TestCase):
    def test_how_many_steps_and_relations(self):
        self.assertEqual(last(load("program();")), [0, 0, 0])
        self.assertEqual(last(load("program(" + "abs " * 8 + ");")), [0, 8, 0])
        self.assertEqual(last(load("program(sort);" + EMPTY_RELATION * 12)), [0, 1, 12])

    def test_the_edges_of_numbers(self):
        told = "add -99 add 99 rest 1 rest 9 rotate 0 rotate 9 take 0 take 9"
        self.assertEqual(last(load(f"program ( {told} );")), [0, 8, 0])
        told = "times -99 times 99 above -99 above 99 drop 0 drop 9 add 0 add -1"
        self.assertEqual(last(load(f"program ( {told} );")), [0, 8, 0])
        for number in (0, 9):
            text = f"program ( ); relation atleast {number} input ( ) output long ( );"
            self.assertEqual(last(load(text)), [0, 0, 1])

    def test_blanks_mean_nothing(self):
        form = "program ( add -3 abs take 2 );\nrelation atleast 2 input ( ) output least ( least );\n"
        for text in [
            form,
            "program(add-3abs take2);relation atleast2input()output least(least);",
            "\n\n program \n(\nadd\n-\n3\nabs\ntake\n2\n)\n;\nrelation\natleast\n2\ninput\n(\n)\noutput\nleast(least)  ;  ",
        ]:
            with self.subTest(text=text):
                self.assertEqual(one_form_of(text), form)

    def test_words_that_stand_for_several_things(self):
        text = "program ( steps sums sum count least greatest );\nrelation any input ( least ) output least ( steps );\n"
        self.assertEqual(one_form_of(text), text)

    def test_each_word_in_the_one_form(self):
        lines = [
            "program ( );",
            "relation any input ( add 0 times -1 rest 9 abs sort reverse rotate 0 take 9 ) output equal ( drop 1 );",
            "relation some input ( above -99 once sum greatest least count steps sums ) output bag ( twice );",
            "relation rising input ( ) output numbers ( );",
            "relation plus input ( ) output most ( add 99 );",
            "relation unlike input ( ) output least ( );",
            "relation atleast 0 input ( ) output begins ( );",
            "relation atleast 9 input ( ) output long ( );",
        ]
        text = "\n".join(lines) + "\n"
        self.assertEqual(one_form_of(text), text)
        self.assertEqual(one_form_of(text.replace("\n", " ").replace(" (", "(").replace("( ", "(")), text)

    def test_the_text_is_held_until_the_next_one(self):
        answered = ask(load("program ( abs );" + EMPTY_RELATION), SHOWN, load("program ( sort );"), SHOWN)
        self.assertEqual(bytes(answered[1][1:]).decode(), "program ( abs );\n" + EMPTY_RELATION + "\n")
        self.assertEqual(bytes(answered[3][1:]).decode(), "program ( sort );\n")


class LengthTest(unittest.TestCase):
    def test_a_text_of_1500_bytes_is_read_and_a_longer_one_is_not(self):
        text = "program ( abs );"
        self.assertEqual(last(load(text.ljust(1500))), [0, 1, 0])
        self.assertEqual(last(load(text.ljust(1501))), [-1])
        self.assertEqual(last(load(text.ljust(1600))), [-1])

    def test_it_is_looked_at_ahead_of_faults(self):
        self.assertEqual(last(load("?" * 1500)), [1, 1, 0])
        self.assertEqual(last(load("?" * 1501)), [-1])
        self.assertEqual(last(load(" " * 1500)), [1, 2, 1500])

    def test_a_refused_text_changes_nothing(self):
        answered = ask(load("program ( abs );"), load("program ( sort );".ljust(1501)), SHOWN)
        self.assertEqual(answered[1:], [[-1], [17] + list(b"program ( abs );\n")])
        self.assertEqual(ask(load("program ( sort );".ljust(1501)), SHOWN), [[-1], [-8]])


if __name__ == "__main__":
    unittest.main()
