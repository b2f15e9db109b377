import unittest

from tests.plain import leads_in, points_in
from tests.some import LOOP, great_program, some_programs
from tests.things import GREAT, NO_WHOLES
from whatran.errors import NoWay
from whatran.programs import Program

TEXTS = some_programs(6, 80, 60, 8) + [LOOP, great_program(), "def main\nend"]

NO_POINTS = NO_WHOLES + [
    0, (0,), (0, 0, 0), [0, 0], (0, 1), (3, 0), (5, 0), (-1, 0), (0, -1), (-4, 0), (True, 0), (1, False), (False, 0),
    (1, True), (0, False), (1.0, 0), (0, 0.0), ("0", 0), (0, "0"), (None, 0), (0, None), ([0], 0), (0, [0]), ({}, 0),
    ((0, 0),), ((0, 0), 0), (GREAT, 0), (0, GREAT), (0, 0, "on"), "0.0", "00", b"00", {0: 0}, range(2),
    (float("nan"), 0), (set(), 0),
]
NO_WAYS = [thing for thing in NO_POINTS if thing != (0, 0, "on")] + [
    (0, 0), (1, 0), (0, 0, "yes"), (1, 0, "on"), (4, 0, "on"), (3, 0, "on"), (1, 1, "yes"), (5, 0, "on"), (0, 0, "ON"),
    (0, 0, ""), (0, 0, None), (0, 0, b"on"), (0, 0, 0), (0, 0, ["on"]), [0, 0, "on"], (True, 0, "yes"), (1, False, "no"),
    (1.0, 0, "yes"), (0, 0, "on", 0), ((0, 0), "on"), (0, "on", 0), ("on", 0, 0), (-1, 0, "on"), (0, 0, ("on",)),
    (1, False, "yes"), (2, False, "on"), (False, 0, "on"), ([0], 0, "on"), (0, {}, "on"), "0.0.on",
]


class PointsTest(unittest.TestCase):
    def test_the_example_of_the_document(self):
        program = Program(LOOP)
        self.assertEqual(program.points(), [(0, 0), (1, 0), (2, 0), (4, 0)])
        self.assertEqual(program.ways(), [(0, 0, "on"), (1, 0, "no"), (1, 0, "yes"), (2, 0, "on")])
        self.assertEqual([program.leads(way) for way in program.ways()], [(1, 0), (4, 0), (2, 0), (1, 0)])

    def test_points_of_each_form_of_a_row(self):
        text = ("def p\nif or = a 1 not < b c\nask a\nelse\nstop\nend\nend\n"
                "def main\nwhile and = a 0 and = b 0 = c 0\ncall p\nset a 1\ntell a\nend\nend")
        self.assertEqual(Program(text).points(), [
            (0, 0), (1, 0), (1, 1), (2, 0), (4, 0), (6, 0),
            (7, 0), (8, 0), (8, 1), (8, 2), (9, 0), (10, 0), (11, 0), (13, 0),
        ])

    def test_all_points_rising(self):
        for text in TEXTS:
            told = Program(text).points()
            self.assertEqual(told, points_in(text))
            self.assertEqual(told, sorted(set(told)))

    def test_is_point(self):
        for text in TEXTS:
            program = Program(text)
            points = points_in(text)
            for row in range(-1, len(program) + 2):
                for part in range(-1, 10):
                    self.assertIs(program.is_point((row, part)), (row, part) in points)

    def test_what_is_no_point(self):
        program = Program(LOOP)
        for thing in NO_POINTS:
            self.assertIs(program.is_point(thing), False)


class WaysTest(unittest.TestCase):
    def check(self, text, *leads):
        """The program has just these ways, told as "row.part.word" and a point."""
        program = Program(text)
        self.assertEqual([(way, program.leads(way)) for way in program.ways()], list(leads))

    def test_all_ways_rising_and_where_each_leads(self):
        for text in TEXTS:
            program = Program(text)
            leads = leads_in(text)
            self.assertEqual(program.ways(), sorted(leads))
            for way in leads:
                self.assertEqual(program.leads(way), leads[way])
                self.assertTrue(program.is_point(program.leads(way)))

    def test_rows_in_a_row_and_a_stop(self):
        self.check("def main\nask a\nset a 1\ntell a\nstop\ntell b\nend",
                   ((0, 0, "on"), (1, 0)), ((1, 0, "on"), (2, 0)), ((2, 0, "on"), (3, 0)), ((3, 0, "on"), (4, 0)),
                   ((5, 0, "on"), (6, 0)))

    def test_an_if_with_else_and_without(self):
        self.check("def main\nif = a b\ntell a\nelse\ntell b\nend\nif = a b\ntell c\nend\nend",
                   ((0, 0, "on"), (1, 0)), ((1, 0, "no"), (4, 0)), ((1, 0, "yes"), (2, 0)), ((2, 0, "on"), (6, 0)),
                   ((4, 0, "on"), (6, 0)), ((6, 0, "no"), (9, 0)), ((6, 0, "yes"), (7, 0)), ((7, 0, "on"), (9, 0)))

    def test_empty_blocks(self):
        self.check("def main\nif = a b\nend\nif = a b\nelse\nend\nwhile = a b\nend\ntell a\nend",
                   ((0, 0, "on"), (1, 0)), ((1, 0, "no"), (3, 0)), ((1, 0, "yes"), (3, 0)), ((3, 0, "no"), (6, 0)),
                   ((3, 0, "yes"), (6, 0)), ((6, 0, "no"), (8, 0)), ((6, 0, "yes"), (6, 0)), ((8, 0, "on"), (9, 0)))
        self.check("def main\nif = a b\nelse\ntell a\nend\nif = a b\ntell a\nelse\nend\nend",
                   ((0, 0, "on"), (1, 0)), ((1, 0, "no"), (3, 0)), ((1, 0, "yes"), (5, 0)), ((3, 0, "on"), (5, 0)),
                   ((5, 0, "no"), (9, 0)), ((5, 0, "yes"), (6, 0)), ((6, 0, "on"), (9, 0)))
        self.check("def p\nend\ndef main\nend", ((0, 0, "on"), (1, 0)), ((2, 0, "on"), (3, 0)))

    def test_blocks_within_blocks(self):
        self.check("def main\nwhile = a 0\nif = b 0\nwhile = c 0\nend\nelse\nif = b 1\ntell b\nend\nend\nend\nend",
                   ((0, 0, "on"), (1, 0)), ((1, 0, "no"), (11, 0)), ((1, 0, "yes"), (2, 0)), ((2, 0, "no"), (6, 0)),
                   ((2, 0, "yes"), (3, 0)), ((3, 0, "no"), (1, 0)), ((3, 0, "yes"), (3, 0)), ((6, 0, "no"), (1, 0)),
                   ((6, 0, "yes"), (7, 0)), ((7, 0, "on"), (1, 0)))

    def test_a_while_as_the_last_row_of_a_while(self):
        self.check("def main\nwhile = a 0\ntell a\nwhile = b 0\ntell b\nend\nend\nend",
                   ((0, 0, "on"), (1, 0)), ((1, 0, "no"), (7, 0)), ((1, 0, "yes"), (2, 0)), ((2, 0, "on"), (3, 0)),
                   ((3, 0, "no"), (1, 0)), ((3, 0, "yes"), (4, 0)), ((4, 0, "on"), (3, 0)))

    def test_conditions_of_several_parts(self):
        self.check("def main\nif and = a 0 = b 0\ntell a\nend\nend",
                   ((0, 0, "on"), (1, 0)), ((1, 0, "no"), (4, 0)), ((1, 0, "yes"), (1, 1)), ((1, 1, "no"), (4, 0)),
                   ((1, 1, "yes"), (2, 0)), ((2, 0, "on"), (4, 0)))
        self.check("def main\nwhile or = a 0 not = b 0\nend\nend",
                   ((0, 0, "on"), (1, 0)), ((1, 0, "no"), (1, 1)), ((1, 0, "yes"), (1, 0)), ((1, 1, "no"), (1, 0)),
                   ((1, 1, "yes"), (3, 0)))
        self.check("def main\nif not or and = a 0 = b 0 = c 0\nstop\nelse\ntell a\nend\nend",
                   ((0, 0, "on"), (1, 0)), ((1, 0, "no"), (1, 2)), ((1, 0, "yes"), (1, 1)), ((1, 1, "no"), (1, 2)),
                   ((1, 1, "yes"), (4, 0)), ((1, 2, "no"), (2, 0)), ((1, 2, "yes"), (4, 0)), ((4, 0, "on"), (6, 0)))

    def test_calls_lead_to_what_follows(self):
        self.check("def p\ntell a\nend\ndef main\ncall p\nwhile = a 0\ncall p\nend\ncall p\nend",
                   ((0, 0, "on"), (1, 0)), ((1, 0, "on"), (2, 0)), ((3, 0, "on"), (4, 0)), ((4, 0, "on"), (5, 0)),
                   ((5, 0, "no"), (8, 0)), ((5, 0, "yes"), (6, 0)), ((6, 0, "on"), (5, 0)), ((8, 0, "on"), (9, 0)))

    def test_what_is_no_way(self):
        program = Program(LOOP)
        for thing in NO_WAYS:
            self.assertRaises(NoWay, program.leads, thing)

    def test_points_with_each_word_are_no_ways_of_others(self):
        for text in TEXTS[:30]:
            program = Program(text)
            ways = leads_in(text)
            for row in range(len(program)):
                for part in range(3):
                    for word in ("on", "yes", "no", "off"):
                        if (row, part, word) not in ways:
                            self.assertRaises(NoWay, program.leads, (row, part, word))


if __name__ == "__main__":
    unittest.main()
