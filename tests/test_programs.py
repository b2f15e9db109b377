import itertools
import random
import unittest

from tests.some import LOOP, great_program, parts_in, some_programs
from tests.test_conditions import chained, joined, nested
from tests.things import GREAT, NO_WHOLES
from whatran.conditions import condition_text
from whatran.errors import NoName, NoPoint, NoProgram
from whatran.programs import Program

TEXTS = some_programs(5, 60, 60, 8) + [LOOP, great_program(), "def main\nend"]


def fault(text):
    """The row that the refusal of a text tells; None where it is a program."""
    try:
        Program(text)
    except NoProgram as refusal:
        return refusal.row
    return None


def main_of(*rows):
    return "\n".join(["def main", *rows, "end"])


def finished(rows):
    """The rows with all that is wanting at the end."""
    standing = 0
    for row in rows:
        word = row.partition(" ")[0]
        standing += (word in ("def", "if", "while")) - (word == "end")
    rows = rows + ["end"] * standing
    return rows if "def main" in rows else rows + ["def main", "end"]


def first_fault(rows):
    """The least row up to which the rows cannot be made a program by what is wanting alone."""
    for row in range(len(rows)):
        if fault("\n".join(finished(rows[:row + 1]))) is not None:
            return row
    return None if fault("\n".join(rows)) is None else len(rows)


class FormsTest(unittest.TestCase):
    def test_each_form_of_a_row_alone_and_within_blocks(self):
        rows = ["set a b", "set b 0", "set c a + 1", "set a 3 - c", "set a b + b", "ask a", "ask b", "ask c",
                "tell a", "tell 3", "stop", "if = a b\nend", "if < 1 c\nelse\nend", "while not = a 0\nend"]
        for row in rows:
            for text in [main_of(row), main_of("if = a a", row, "end"), main_of("while = a a", row, "end"),
                         main_of("if = a a", "else", row, "end"), main_of(row, row), f"def p\n{row}\nend\n{main_of()}"]:
                with self.subTest(text=text):
                    self.assertIsNone(fault(text))

    def test_all_words_of_set(self):
        words = ["a", "b", "c", "0", "1", "2", "3"]
        for place, word in itertools.product("abc", words):
            self.assertIsNone(fault(main_of(f"set {place} {word}")))
            for sign, other in itertools.product("+-", words):
                self.assertIsNone(fault(main_of(f"set {place} {word} {sign} {other}")))

    def test_empty_blocks_and_routines(self):
        program = Program("def p\nend\ndef main\nif = a b\nelse\nend\nwhile < a 3\nend\ncall p\nend")
        self.assertEqual(program.routines(), ["p", "main"])
        self.assertEqual(len(program), 10)
        self.assertEqual(len(Program("def main\nend")), 2)

    def test_names_that_are_words_of_rows(self):
        for name in ["set", "end", "def", "ask", "tell", "stop", "call", "if", "else", "while", "not", "and", "or",
                     "a", "z", "abcdefgh"]:
            text = f"def {name}\nstop\nend\ndef main\ncall {name}\nend"
            program = Program(text)
            self.assertEqual(program.routines(), [name, "main"])
            self.assertEqual(program.called(4), name)

    def test_eight_blocks_one_within_the_other(self):
        for opening in ("if = a b", "while < a b"):
            for depth in range(1, 9):
                self.assertIsNone(fault(main_of(*[opening] * depth, *["end"] * depth)))
            self.assertEqual(fault(main_of(*[opening] * 9, *["end"] * 9)), 9)
        eight = ["if = a b", "else", "while = a b"] * 4
        self.assertIsNone(fault(main_of(*eight, *["end"] * 8)))
        self.assertEqual(fault(main_of(*eight, "if = a b", *["end"] * 9)), 13)
        self.assertIsNone(fault(main_of(*["if = a b"] * 8, *["end"] * 8, *["if = a b"] * 8, *["end"] * 8)))

    def test_sixty_rows_and_thirty_parts(self):
        text = great_program()
        self.assertEqual((len(text.split("\n")), parts_in(text)), (60, 30))
        program = Program(text)
        self.assertEqual(len(program), 60)
        self.assertIsNone(fault(main_of(*["set a 1"] * 58)))
        self.assertEqual(fault(main_of(*["set a 1"] * 59)), -1)

    def test_conditions_at_their_bounds(self):
        for condition in [joined(8), joined(8, "or"), chained(8, True), chained(8, False), nested(7)]:
            text = condition_text(condition)
            program = Program(main_of(f"if {text}", "end", f"while {text}", "end"))
            self.assertEqual(program.condition(1), condition)
            self.assertEqual(program.condition(3), condition)


class FaultTest(unittest.TestCase):
    def bad_row(self, row):
        """The row is bad within main, alone and behind others, whatever stands behind it."""
        self.assertEqual(fault(main_of(row)), 1, row)
        self.assertEqual(fault(main_of("set a 1", row)), 2, row)
        self.assertEqual(fault(main_of("if = a b", "else", row, "end")), 3, row)
        self.assertEqual(fault("def p\n" + row), 1, row)
        for tail in ("", "\n", "\nend", "\nend\ndef main\nend", "\nx\n\nend", "\n" + row):
            self.assertEqual(fault("def main\n" + row + tail), 1, row)

    def test_a_word_too_few_or_too_many(self):
        for row in ["set", "set a", "set a b +", "set a b + 1 2", "set a b 1", "set a b + 1 + 1", "ask", "ask a b",
                    "tell", "tell a b", "stop a", "call", "call p q", "if", "while", "if =", "if = a", "if = a b c",
                    "while < a b = a b", "else a", "end a", "end main", "def", "set a b - - 1"]:
            self.bad_row(row)
        for row in ["def", "def p q", "def main main", "def main a"]:
            self.assertEqual(fault(row + "\nend"), 0)

    def test_blanks(self):
        for row in ["set  a b", "set a  b", " set a b", "set a b ", "ask  a", "ask a ", " ask a", "tell a ", "stop ",
                    " stop", "if  = a b", "if = a b ", " if = a b", "while = a  b", " end", "end ", "else ", "\tstop",
                    "stop\t", "set\ta b", "set a b\r", "if = a b\r", " ", "  ", ""]:
            self.bad_row(row)
        for row in ["def  main", " def main", "def main ", "def\tmain", "def main\r"]:
            self.assertEqual(fault(row + "\nend"), 0)

    def test_words_that_are_none(self):
        for row in ["set d 1", "set A 1", "set 1 a", "set ab 1", "set a d", "set a 4", "set a 10", "set a -1",
                    "set a 01", "set a b * 1", "set a b +1", "set a b+1", "set a b + 4", "set a d + 1", "set a b +- 1",
                    "set a b + d", "ask d", "ask 1", "ask ab", "tell d", "tell 4", "tell ab", "tell 12", "Set a 1",
                    "STOP", "if > a b", "if a = b", "while == a b", "if = a 4", "if x", "goto 1", "return", "#", "x",
                    "if = a b then", "elif = a b", "set abc 1", "ask abc", "tell 123", "set  + 1", "tell ", "ask "]:
            self.bad_row(row)

    def test_conditions_of_nine_parts_or_nine_levels(self):
        for text in ["and " * 8 + "= a b " * 8 + "= a b", "or " * 15 + "= a b " * 15 + "= a b", "not " * 8 + "= a b"]:
            self.bad_row("if " + text)
            self.bad_row("while " + text)

    def test_names_that_are_none(self):
        for name in ["", "A", "Main", "p1", "1", "p_q", "abcdefghi", "p-q", "\u00e9", "\u0430", "p\u0300", "a.b"]:
            self.assertEqual(fault(f"def {name}\nend\ndef main\nend"), 0, name)
            self.assertEqual(fault(f"def p\nend\ndef {name}\nend\ndef main\nend"), 2, name)

    def test_a_name_told_twice(self):
        self.assertEqual(fault("def p\nend\ndef p\nend\ndef main\nend"), 2)
        self.assertEqual(fault("def p\nend\ndef q\nend\ndef p\nend\ndef main\nend"), 4)
        self.assertEqual(fault("def main\nend\ndef main\nend"), 2)

    def test_calls_of_what_does_not_stand_above(self):
        self.assertEqual(fault("def main\ncall p\nend\ndef p\nend"), 1)
        self.assertEqual(fault("def q\ncall p\nend\ndef p\nend\ndef main\nend"), 1)
        self.assertEqual(fault("def p\ncall p\nend\ndef main\nend"), 1)
        self.assertEqual(fault("def main\ncall main\nend"), 1)
        self.assertEqual(fault("def p\ncall main\nend\ndef main\nend"), 1)
        self.assertEqual(fault("def p\nif = a b\ncall p\nend\nend\ndef main\nend"), 2)
        self.assertIsNone(fault("def p\nend\ndef q\ncall p\nend\ndef main\ncall q\ncall p\nend"))

    def test_else_where_none_may_stand(self):
        self.bad_row("else")
        self.assertEqual(fault(main_of("if = a b", "else", "else", "end")), 3)
        for row in ("else ", " else", "else a", "else if = a b", "Else"):
            self.assertEqual(fault(main_of("if = a b", row, "end")), 2)
        self.assertEqual(fault(main_of("while = a b", "else", "end")), 2)
        self.assertEqual(fault(main_of("if = a b", "end", "else", "end")), 3)
        self.assertEqual(fault(main_of("if = a b", "while = a b", "else", "end", "end")), 3)
        self.assertEqual(fault(main_of("if = a b", "else", "while = a b", "else", "end", "end")), 4)
        self.assertIsNone(fault(main_of("if = a b", "if = a b", "else", "end", "else", "end")))
        self.assertEqual(fault("else"), 0)

    def test_rows_outside_of_routines(self):
        for row in ["set a 1", "ask a", "tell a", "stop", "call p", "if = a b", "while = a b", "else", "end", "", "x"]:
            self.assertEqual(fault(row), 0)
            self.assertEqual(fault(f"{row}\ndef main\nend"), 0)
            self.assertEqual(fault(f"def p\nend\n{row}\ndef main\nend"), 2)

    def test_a_routine_within_a_routine(self):
        self.assertEqual(fault("def p\ndef main\nend\nend"), 1)
        self.assertEqual(fault("def main\nif = a b\ndef p\nend\nend\nend"), 2)

    def test_anything_behind_the_end_of_main(self):
        for row in ["", " ", "end", "def p", "def main", "set a 1", "stop", "x", "else", "\n", "def p\nend"]:
            self.assertEqual(fault(main_of() + "\n" + row), 2)
            self.assertEqual(fault(main_of("if = a b", "end") + "\n" + row), 4)

    def test_empty_texts_and_rows(self):
        self.assertEqual(fault(""), 0)
        self.assertEqual(fault("\n"), 0)
        self.assertEqual(fault("\ndef main\nend"), 0)
        self.assertEqual(fault("def main\n\nend"), 1)
        self.assertEqual(fault("def main\nend\n"), 2)
        self.assertEqual(fault("def main\r\nend"), 0)
        self.assertEqual(fault("def main; end"), 0)

    def test_something_is_wanting_at_the_end(self):
        for text in ["def main", "def p", "def p\nend", "def main\nif = a b", "def main\nif = a b\nend",
                     "def main\nwhile = a b\nset a 1", "def main\nif = a b\nelse", "def p\nend\ndef q\nend"]:
            self.assertEqual(fault(text), len(text.split("\n")))
        for rows in (["def main"] + ["set a 1"] * 59, ["def p", "end"] + ["def main"] + ["stop"] * 57,
                     ["def p"] + ["stop"] * 58 + ["end"], ["def main"] + ["stop"] * 51 + ["if = a b"] * 8):
            self.assertEqual(len(rows), 60)
            self.assertEqual(fault("\n".join(rows)), 60)

    def test_more_than_sixty_rows_whatever_they_are(self):
        for text in ["\n" * 60, "x\n" * 60, main_of(*["stop"] * 59), main_of(*["stop"] * 58) + "\n",
                     "def main\n" * 61, "\n" * 9999]:
            self.assertEqual(fault(text), -1)
        self.assertEqual(fault("\n" * 59), 0)
        self.assertEqual(fault(main_of(*["stop"] * 57) + "\nend"), 59)

    def test_what_is_no_text(self):
        for thing in NO_WHOLES + [0, 1, GREAT, b"def main\nend", ["def main", "end"], ("def main", "end"),
                                  Program(LOOP), bytearray(b"def main\nend"), {"def main\nend": 1}]:
            if not isinstance(thing, str):
                self.assertEqual(fault(thing), -1)

    def test_changed_texts_tell_the_least_row_with_which_none_goes_on(self):
        chance = random.Random(8)
        others = ["end", "else", "", "stop", "def p", "def main", "call p", "if = a b", "while = a b", "set a d",
                  "call set", "x", "if not", "end "]
        for text in some_programs(9, 60, 24, 4):
            rows = text.split("\n")
            for _ in range(12):
                changed = list(rows)
                for _ in range(chance.choice([1, 1, 2])):
                    at = chance.randrange(len(changed))
                    changed[at:at + chance.randint(0, 1)] = chance.sample(others + [rows[-1]], chance.randint(0, 1))
                    changed = changed or [""]
                told = fault("\n".join(changed))
                self.assertEqual(told, first_fault(changed))
                if told is not None and told < len(changed):
                    for tail in ([], ["end"], ["x"], [""] * 3, rows):
                        self.assertEqual(fault("\n".join(changed[:told + 1] + tail)), told)


class RowsTest(unittest.TestCase):
    def test_text_rows_and_length(self):
        for text in TEXTS:
            program = Program(text)
            self.assertEqual(program.text(), text)
            self.assertEqual(program.rows(), text.split("\n"))
            self.assertEqual(len(program), len(text.split("\n")))

    def test_routines_in_their_order(self):
        program = Program("def z\nend\ndef set\nend\ndef a\nend\ndef main\nend")
        self.assertEqual(program.routines(), ["z", "set", "a", "main"])

    def test_alike_where_the_texts_are(self):
        for one, other in itertools.product(TEXTS[-12:], repeat=2):
            self.assertIs(Program(one) == Program(other), one == other)
            self.assertIs(Program(one) != Program(other), one != other)
        program = Program(LOOP)
        self.assertTrue(program == program)

    def test_what_is_no_program_is_never_like_one(self):
        program = Program(LOOP)
        for thing in [LOOP, LOOP.split("\n"), None, 0, 5, True, [], {}, (), b"", object(), Program, float("nan")]:
            self.assertFalse(program == thing)
            self.assertTrue(program != thing)
            self.assertFalse(thing == program)

    def test_lists_told_are_new_ones(self):
        program = Program(great_program())
        for method in (program.rows, program.routines, program.points, program.ways):
            told = method()
            before = list(told)
            told.reverse()
            told.append("mine")
            self.assertEqual(method(), before)

    def test_words_routines_conditions_and_calls_of_each_row(self):
        text = "def p\nif or = a 1 < b c\nask a\nelse\nstop\nend\nend\ndef main\nwhile = a 0\ncall p\nend\nend"
        program = Program(text)
        words = ["def", "if", "ask", "else", "stop", "end", "end", "def", "while", "call", "end", "end"]
        self.assertEqual([program.word(row) for row in range(12)], words)
        self.assertEqual([program.routine(row) for row in range(12)], ["p"] * 7 + ["main"] * 5)
        self.assertEqual(program.condition(1), ("or", ("=", "a", "1"), ("<", "b", "c")))
        self.assertEqual(program.condition(8), ("=", "a", "0"))
        self.assertEqual(program.called(9), "p")
        for row in range(12):
            if row not in (1, 8):
                self.assertRaises(NoPoint, program.condition, row)
            if row != 9:
                self.assertRaises(NoPoint, program.called, row)

    def test_begin_and_close(self):
        program = Program("def p\nstop\nend\ndef main\nwhile = a 0\nend\ncall p\nend")
        self.assertEqual((program.begin("p"), program.close("p")), ((0, 0), (2, 0)))
        self.assertEqual((program.begin("main"), program.close("main")), ((3, 0), (7, 0)))
        for name in NO_WHOLES + [0, "q", "", "Main", "main ", "mai", ["main"], ("main",), b"main", {"main": 1}]:
            self.assertRaises(NoName, program.begin, name)
            self.assertRaises(NoName, program.close, name)

    def test_rows_that_there_are_not(self):
        for text in (LOOP, great_program()):
            program = Program(text)
            for method in (program.word, program.routine, program.condition, program.called):
                for row in NO_WHOLES + [-1, len(program), len(program) + 1, GREAT, -GREAT, (0, 0), "0", [0]]:
                    self.assertRaises(NoPoint, method, row)


if __name__ == "__main__":
    unittest.main()
