import inspect
import random
import unittest

from tests.plain import Machine
from tests.some import LOOP, great_program, some_inputs, some_programs
from tests.test_programs import main_of
from tests.things import GREAT, NO_WHOLES
from whatran.errors import NoInputs, NoNumber
from whatran.programs import Program
from whatran.runs import FUEL, Seen, run_program

CALLS = ("def p\ntell a\nend\n"
         "def q\ncall p\nset a a + 1\ncall p\nend\n"
         "def main\nwhile < a 3\ncall q\nend\ncall p\nend")
NO_INPUTS = [thing for thing in NO_WHOLES if not isinstance(thing, list)] + [
    0, 1, (0, 1), "01", b"01", {0: 1}, {0, 1}, range(3), [-1], [4], [0, 4], [3, -1], [GREAT], [True], [0, False], ["0"],
    [0, "1"], [1.0], [0, None], [[0]], [(0,)], [{}], [0, 1, []], [float("nan")],
]


def run(text, inputs=(), fuel=FUEL):
    return run_program(Program(text), list(inputs), fuel=fuel)


def some_runs(start, count, many=40):
    """Texts of programs with inputs and fuel, some of them short of it."""
    chance = random.Random(start)
    for text in some_programs(start, count, many, 5):
        for fuel in (chance.randint(1, 12), chance.randint(1, 60), FUEL):
            yield text, some_inputs(chance), fuel


class AllTest(unittest.TestCase):
    """Each method, at programs made by chance, against another machine."""

    def check(self, text, inputs, fuel):
        program = Program(text)
        seen = run_program(program, inputs, fuel=fuel)
        due = Machine(text, inputs, fuel)
        self.assertIs(type(seen), Seen)
        self.assertEqual(seen.outcome(), due.outcome)
        self.assertEqual(seen.told(), due.told)
        self.assertEqual(seen.points(), due.listed("met"))
        self.assertEqual(seen.met(), due.counted("met"))
        self.assertEqual(seen.taken(), due.counted("way"))
        self.assertEqual(seen.through(), due.through)
        self.assertEqual(seen.ends(), tuple(due.stack))
        self.assertEqual(seen.asked(), due.asked)
        self.assertEqual(seen.last_values(), tuple(due.values[place] for place in "abc"))
        for (kind, way), (word, point) in zip(due.log, due.log[1:]):
            if kind == "way":
                self.assertEqual((word, program.leads(way)), ("met", point))

    def test_as_another_machine_tells(self):
        outcomes = set()
        for text, inputs, fuel in some_runs(21, 250):
            self.check(text, inputs, fuel)
            outcomes.add(run(text, inputs, fuel).outcome())
        self.assertEqual(outcomes, {"ended", "dry", "stopped", "spent"})

    def test_all_fuels_from_one_on(self):
        for text in [LOOP, CALLS, great_program()] + some_programs(22, 12, 30, 5):
            for fuel in range(1, 60):
                self.check(text, [1, 2, 3, 0, 1], fuel)

    def test_the_bounds_of_the_document(self):
        self.check(great_program(), [0, 1, 2, 3, 3] * 40, 5000)
        busy = main_of("while or < a 1 = a a", "call p", "ask b", "if = b 2", "tell b", "end", "end")
        text = "def p\nwhile and < c 3 = c c\nset c c + 1\nend\nset c 0\nend\n" + busy
        self.check(text, [2] * 200, 5000)
        seen = run(text, [2] * 200, 5000)
        self.assertEqual((seen.outcome(), seen.asked()), ("dry", 200))

    def test_a_run_of_five_thousand_rows_with_two_hundred_inputs(self):
        text = main_of("while not = a 3", "ask a", "end", "while = a a", "tell b", "set b b + 1", "end")
        seen = run(text, [0, 1, 2] * 66 + [0, 3], 5000)
        self.assertEqual((seen.outcome(), seen.asked(), len(seen.points())), ("spent", 200, 5000))
        self.check(text, [0, 1, 2] * 66 + [0, 3], 5000)

    def test_a_run_of_five_thousand_points_that_calls_and_loops(self):
        text = "def p\nend\ndef q\ncall p\nend\ndef main\nwhile = a a\ncall q\nset b b + 1\nend\nend"
        seen = run(text, [], 5000)
        self.assertEqual(seen.outcome(), "spent")
        self.assertEqual(len(seen.points()), 5000)
        self.check(text, [], 5000)


class RowsTest(unittest.TestCase):
    def test_the_example_of_the_document(self):
        seen = run_program(Program(LOOP), [])
        self.assertEqual(seen.outcome(), "ended")
        self.assertEqual(seen.met(), {(0, 0): 1, (1, 0): 3, (2, 0): 2, (4, 0): 1})
        self.assertEqual(seen.through(), {(1, 0): 1, (1, 1): 2})
        self.assertEqual(seen.ends(), ())
        self.assertEqual(seen.taken(), {(0, 0, "on"): 1, (1, 0, "no"): 1, (1, 0, "yes"): 2, (2, 0, "on"): 2})
        self.assertEqual(seen.last_values(), (2, 0, 0))

    def test_it_begins_with_0_and_nothing_told(self):
        seen = run("def main\ntell a\ntell b\ntell c\nend")
        self.assertEqual((seen.told(), seen.last_values()), ([0, 0, 0], (0, 0, 0)))
        self.assertEqual(run("def main\nend").told(), [])

    def test_plus_and_minus_go_round(self):
        for one in range(4):
            for other in range(4):
                seen = run(main_of(f"set a {one} + {other}", f"set b {one} - {other}", f"set c {one}"))
                self.assertEqual(seen.last_values(), ((one + other) % 4, (one - other) % 4, one))
        self.assertEqual(run(main_of("set a 3 + 1", "set b 0 - 1")).last_values(), (0, 3, 0))

    def test_terms_are_of_the_values_before(self):
        self.assertEqual(run(main_of("ask a", "set b a + a", "set a b - a", "set c a"), [3]).last_values(), (3, 2, 3))

    def test_ask_takes_inputs_in_their_order(self):
        seen = run(main_of("ask c", "ask a", "tell a", "ask a", "tell a"), [3, 1, 2, 0])
        self.assertEqual((seen.told(), seen.asked(), seen.last_values()), ([1, 2], 3, (2, 0, 3)))

    def test_tell_tells_places_and_numbers(self):
        self.assertEqual(run(main_of("ask b", "tell 3", "tell b", "tell 0"), [2]).told(), [3, 2, 0])

    def test_a_condition_takes_the_ways_of_the_parts_asked(self):
        seen = run(main_of("if and = a 1 = b 1", "tell 1", "else", "tell 0", "end"))
        self.assertEqual(seen.taken(), {(0, 0, "on"): 1, (1, 0, "no"): 1, (4, 0, "on"): 1})
        self.assertEqual(seen.met(), {(0, 0): 1, (1, 0): 1, (4, 0): 1, (6, 0): 1})
        seen = run(main_of("if or = a 1 not = b 1", "tell 1", "else", "tell 0", "end"))
        self.assertEqual(seen.points(), [(0, 0), (1, 0), (1, 1), (2, 0), (6, 0)])
        self.assertEqual(seen.through(), {(1, 0): 1})

    def test_calls_within_calls_and_in_a_while(self):
        seen = run(CALLS)
        self.assertEqual(seen.told(), [0, 1, 1, 2, 2, 3, 3])
        self.assertEqual(seen.met()[(0, 0)], 7)
        self.assertEqual(seen.taken()[(4, 0, "on")], 3)
        self.assertEqual((seen.outcome(), seen.ends()), ("ended", ()))


class EndsTest(unittest.TestCase):
    def check(self, seen, outcome, ends, taken=None):
        self.assertEqual((seen.outcome(), seen.ends()), (outcome, ends))
        if taken is not None:
            self.assertEqual(seen.taken(), {way: 1 for way in taken})

    def test_ended_dry_and_stopped(self):
        self.check(run("def main\nend"), "ended", (), [(0, 0, "on")])
        self.check(run("def main\nask a\nend"), "dry", ((1, 0),), [(0, 0, "on")])
        self.check(run("def main\nstop\nend"), "stopped", ((1, 0),), [(0, 0, "on")])
        self.assertEqual(run("def main\nask a\nend").asked(), 0)

    def test_ends_within_calls(self):
        text = "def p\nask a\nstop\nend\ndef q\ncall p\nend\ndef main\ncall q\nend"
        self.check(run(text, []), "dry", ((8, 0), (5, 0), (1, 0)))
        self.check(run(text, [0]), "stopped", ((8, 0), (5, 0), (2, 0)))

    def test_fuel_is_spent_at_each_point(self):
        text = "def p\nset a 2\nend\ndef main\ncall p\nend"
        dues = [(((3, 0),), []), (((4, 0),), [(3, 0, "on")]), (((4, 0), (0, 0)), [(3, 0, "on")]),
                (((4, 0), (1, 0)), [(3, 0, "on"), (0, 0, "on")]),
                (((4, 0), (2, 0)), [(3, 0, "on"), (0, 0, "on"), (1, 0, "on")])]
        for fuel, (ends, taken) in enumerate(dues, start=1):
            self.check(run(text, [], fuel), "spent", ends, taken)
        self.check(run(text, [], 6), "ended", (), dues[-1][1] + [(4, 0, "on")])

    def test_what_the_last_point_does_is_done(self):
        seen = run(main_of("ask a", "tell a", "set b 3"), [2], 2)
        self.assertEqual((seen.outcome(), seen.asked(), seen.last_values()), ("spent", 1, (2, 0, 0)))
        self.assertEqual(run(main_of("ask a", "tell a", "set b 3"), [2], 3).told(), [2])
        seen = run(main_of("ask a", "tell a", "set b 3"), [2], 4)
        self.assertEqual((seen.outcome(), seen.last_values()), ("spent", (2, 3, 0)))

    def test_the_last_point_may_end_the_run_itself(self):
        self.check(run("def main\nask a\nend", [], 2), "dry", ((1, 0),))
        self.check(run("def main\nask a\nend", [1], 2), "spent", ((1, 0),))
        self.check(run("def main\nstop\nend", [], 2), "stopped", ((1, 0),))
        self.check(run("def main\nend", [], 2), "ended", ())
        self.check(run("def main\nend", [], 1), "spent", ((0, 0),))

    def test_a_call_met_last_has_called_nothing(self):
        seen = run("def p\nend\ndef main\ncall p\nend", [], 2)
        self.check(seen, "spent", ((3, 0),), [(2, 0, "on")])
        self.assertEqual(seen.met(), {(2, 0): 1, (3, 0): 1})

    def test_an_end_met_last_has_returned_nothing(self):
        seen = run("def p\nend\ndef main\ncall p\nend", [], 4)
        self.check(seen, "spent", ((3, 0), (1, 0)), [(2, 0, "on"), (0, 0, "on")])

    def test_a_condition_met_last_is_not_asked(self):
        text = main_of("while or = a 1 < b 1", "end")
        seen = run(text, [], 2)
        self.check(seen, "spent", ((1, 0),), [(0, 0, "on")])
        self.assertEqual((seen.through(), seen.met()), ({}, {(0, 0): 1, (1, 0): 1}))
        seen = run(text, [], 4)
        self.assertEqual(seen.through(), {(1, 1): 2})
        self.assertEqual(seen.met(), {(0, 0): 1, (1, 0): 3, (1, 1): 2})

    def test_parts_above_0_cost_nothing(self):
        text = main_of("if and = a a and = b b and = c c = a b", "tell 1", "end")
        self.assertEqual(run(text, [], 3).points(), [(0, 0), (1, 0), (1, 1), (1, 2), (1, 3), (2, 0)])


class FuelTest(unittest.TestCase):
    def test_left_out_it_is_500(self):
        self.assertEqual(FUEL, 500)
        self.assertIs(type(FUEL), int)
        seen = run_program(Program(main_of("while = a a", "end")), [])
        self.assertEqual(seen.outcome(), "spent")
        self.assertEqual(seen.met(), {(0, 0): 1, (1, 0): 499})
        self.assertEqual(str(inspect.signature(run_program)), "(program, inputs, *, fuel=500)")

    def test_inputs_that_are_none(self):
        for text in (LOOP, main_of("ask a")):
            program = Program(text)
            for inputs in NO_INPUTS:
                self.assertRaises(NoInputs, run_program, program, inputs)
                for fuel in (0, None, True, 5001, [], 3):
                    with self.assertRaises(NoInputs):
                        run_program(program, inputs, fuel=fuel)

    def test_fuel_that_is_none(self):
        program = Program(LOOP)
        for fuel in NO_WHOLES + [0, -1, 5001, GREAT, -GREAT]:
            with self.assertRaises(NoNumber):
                run_program(program, [1], fuel=fuel)
        for fuel in (1, 5000):
            self.assertIs(type(run_program(program, [1], fuel=fuel)), Seen)


class MannersTest(unittest.TestCase):
    def test_inputs_stay_and_may_be_changed_behind(self):
        inputs = [1, 2, 3]
        seen = run_program(Program(main_of("ask a", "ask b", "tell a")), inputs)
        self.assertEqual(inputs, [1, 2, 3])
        before = (seen.told(), seen.asked(), seen.last_values(), seen.met())
        inputs.clear()
        self.assertEqual((seen.told(), seen.asked(), seen.last_values(), seen.met()), before)
        self.assertEqual(before[:3], ([1], 2, (1, 2, 0)))

    def test_what_is_told_and_changed_changes_nothing(self):
        seen = run(CALLS)
        for method in (seen.told, seen.points):
            told = method()
            before = list(told)
            self.assertIs(type(told), list)
            told.append("mine")
            told[0] = None
            self.assertEqual(method(), before)
        for method in (seen.met, seen.taken, seen.through):
            told = method()
            before = dict(told)
            self.assertIs(type(told), dict)
            told.clear()
            told["mine"] = 1
            self.assertEqual(method(), before)

    def test_kinds_of_what_is_told(self):
        seen = run("def p\nask a\nend\n" + main_of("ask b", "call p"), [3])
        self.assertIs(type(seen.ends()), tuple)
        self.assertEqual({type(point) for point in seen.ends()}, {tuple})
        self.assertIs(type(seen.last_values()), tuple)
        self.assertIs(type(seen.asked()), int)
        self.assertIs(type(seen.outcome()), str)

    def test_a_program_may_be_run_again(self):
        program = Program(CALLS)
        one, other = run_program(program, []), run_program(program, [], fuel=9)
        again = run_program(program, [])
        self.assertEqual((one.met(), one.told()), (again.met(), again.told()))
        self.assertNotEqual(one.met(), other.met())
        self.assertEqual(program, Program(CALLS))


if __name__ == "__main__":
    unittest.main()
