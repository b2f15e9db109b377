import copy
import random
import time
import unittest

from tests.plain import Machine, points_in
from tests.some import LOOP, great_program, some_programs
from tests.stands import Watched, all_inputs, behind_in, closed_from, first_stand, some_stands
from tests.test_marking import PLAIN, TWICE, at_bounds
from tests.test_points import NO_POINTS
from tests.test_programs import main_of
from tests.test_records import MIXED
from tests.test_sums import CALLS
from tests.things import GREAT, NO_WHOLES
from whatran.errors import NoPoint, NoStand
from whatran.programs import Program
from whatran.reaching import all_stands, inputs_to, moat_fault, next_stands, reachable_points
from whatran.runs import run_program

# A routine that calls another one twice, and main both.
DEEP = "def p\nask a\nend\ndef q\ncall p\nif = a 1\ncall p\nend\nend\ndef main\ncall q\nwhile < b a\ncall p\nset b b + 1\nend\nend"
ZEROS = (0, 0, 0)


def bounded(texts, most=800):
    """Those of the programs that have no more stands than the document bounds."""
    return [text for text in texts if closed_from(text, [first_stand(text)], most) is not None]


SMALL = bounded(PLAIN + [DEEP, MIXED, TWICE] + some_programs(301, 110, 14, 3))


def wide_program():
    """A program of nearly as many stands as the document bounds: of most points with all values."""
    rows = ["ask a", "ask b", "ask c"] + ["tell b"] * 7 + ["while or < a b and = a 3 < c b", "if = a b", "tell a", "end"]
    rows += ["set a a + 1", "end", "if < c 2", "ask c", "if and = c 3 not = a b", "tell 3", "else", "stop", "end", "end"]
    return main_of(*rows)


def long_program():
    """A program whose one run meets nearly as many stands as the document bounds, one behind the other."""
    rows = ["while not and = a 3 and = b 3 = c 3", "set a a + 1", "if = a 0", "set b b + 1", "if = b 0", "set c c + 1"]
    return main_of(*rows, "end", "end", *["tell a"] * 8, "end", "tell c")


class NextTest(unittest.TestCase):
    def check(self, text, stand):
        before = copy.deepcopy(stand)
        told = next_stands(Program(text), stand)
        self.assertIs(type(told), list)
        self.assertEqual(told, behind_in(text, stand))
        self.assertEqual(told, sorted(set(told)))
        self.assertEqual(stand, before)
        return told

    def test_any_stands_of_any_programs(self):
        chance = random.Random(1)
        for text in PLAIN + [DEEP, MIXED, great_program()] + some_programs(302, 60, 60, 5):
            for stand in some_stands(text, chance, 40):
                self.check(text, stand)

    def test_the_stands_of_a_run_come_one_behind_the_other(self):
        chance = random.Random(2)
        for text in PLAIN + [DEEP, MIXED, great_program()] + some_programs(303, 40, 40, 5):
            inputs = [chance.randint(0, 3) for _ in range(chance.choice([0, 2, 9, 40]))]
            program = Program(text)
            stands = Watched(text, inputs, 300).stands
            self.assertEqual(stands[0], ((program.begin("main"),), ZEROS))
            for one, other in zip(stands, stands[1:]):
                self.assertIn(other, next_stands(program, one))
            seen = run_program(program, inputs, fuel=300)
            self.assertEqual([points[-1] for points, _ in stands], seen.points())

    def test_set_in_each_form_and_going_round(self):
        for term, due in [("2", 2), ("b", 1), ("c", 3), ("a + 1", 0), ("b + c", 0), ("b - c", 2), ("0 - 1", 3), ("3 + 3", 2),
                          ("c - 3", 0), ("a", 3), ("1 - b", 0), ("b + b", 2), ("a - a", 0)]:
            told = self.check(main_of(f"set a {term}", "stop"), (((1, 0),), (3, 1, 3)))
            self.assertEqual(told, [(((2, 0),), (due, 1, 3))])
        self.assertEqual(self.check(main_of("set c c + 1"), (((1, 0),), (1, 2, 3))), [(((2, 0),), (1, 2, 0))])
        self.assertEqual(self.check(main_of("set b a - c"), (((1, 0),), (1, 2, 3))), [(((2, 0),), (1, 2, 3))])

    def test_def_and_tell(self):
        text = main_of("tell b")
        self.assertEqual(self.check(text, (((0, 0),), (1, 2, 3))), [(((1, 0),), (1, 2, 3))])
        self.assertEqual(self.check(text, (((1, 0),), (1, 2, 3))), [(((2, 0),), (1, 2, 3))])

    def test_ask(self):
        text = main_of("ask b")
        self.assertEqual(self.check(text, (((1, 0),), (1, 2, 3))), [(((2, 0),), (1, number, 3)) for number in range(4)])
        text = main_of("while = a a", "ask a", "end")
        self.assertEqual(self.check(text, (((2, 0),), (1, 2, 3))), [(((1, 0),), (number, 2, 3)) for number in range(4)])

    def test_a_call_and_the_end_of_what_it_calls(self):
        values = (1, 2, 3)
        self.assertEqual(self.check(DEEP, (((10, 0),), values)), [(((10, 0), (3, 0)), values)])
        self.assertEqual(self.check(DEEP, (((10, 0), (4, 0)), values)), [(((10, 0), (4, 0), (0, 0)), values)])
        self.assertEqual(self.check(DEEP, (((10, 0), (4, 0), (2, 0)), values)), [(((10, 0), (5, 0)), values)])
        self.assertEqual(self.check(DEEP, (((10, 0), (6, 0), (2, 0)), values)), [(((10, 0), (8, 0)), values)])
        self.assertEqual(self.check(DEEP, (((10, 0), (8, 0)), values)), [(((11, 0),), values)])
        self.assertEqual(self.check(DEEP, (((12, 0), (2, 0)), values)), [(((13, 0),), values)])

    def test_none_behind_a_stop_and_the_end_of_main(self):
        text = "def p\nstop\nend\ndef main\ncall p\nstop\nend"
        self.assertEqual(self.check(text, (((5, 0),), ZEROS)), [])
        self.assertEqual(self.check(text, (((6, 0),), ZEROS)), [])
        self.assertEqual(self.check(text, (((4, 0), (1, 0)), ZEROS)), [])

    def test_ifs_and_whiles(self):
        text = main_of("if or = a 1 and < b c not = c 3", "tell a", "else", "tell b", "end", "while and = a 2 = b 2", "end", "stop")
        for at, values, due in [((1, 0), (1, 0, 0), (2, 0)), ((1, 0), (2, 0, 0), (1, 1)), ((1, 1), (0, 1, 2), (1, 2)),
                                ((1, 1), (0, 2, 2), (4, 0)), ((1, 2), (0, 0, 3), (4, 0)), ((1, 2), (0, 0, 1), (2, 0)),
                                ((6, 0), (1, 2, 0), (8, 0)), ((6, 0), (2, 0, 0), (6, 1)), ((6, 1), (0, 2, 0), (6, 0)),
                                ((6, 1), (0, 3, 0), (8, 0)), ((2, 0), ZEROS, (6, 0)), ((4, 0), ZEROS, (6, 0))]:
            self.assertEqual(self.check(text, ((at,), values)), [((due,), values)])
        text = main_of("if = a 1", "tell a", "end", "while < a 2", "tell b", "end")
        for at, values, due in [((1, 0), ZEROS, (4, 0)), ((1, 0), (1, 0, 0), (2, 0)), ((4, 0), ZEROS, (5, 0)),
                                ((4, 0), (2, 0, 0), (7, 0)), ((5, 0), (2, 0, 0), (4, 0))]:
            self.assertEqual(self.check(text, ((at,), values)), [((due,), values)])

    def test_a_new_list_each_time(self):
        program = Program(LOOP)
        stand = (((0, 0),), ZEROS)
        next_stands(program, stand).clear()
        self.assertEqual(next_stands(program, stand), [(((1, 0),), ZEROS)])


def no_stands():
    """What is no stand of DEEP."""
    values = (1, 2, 3)
    yield from NO_WHOLES + [0, GREAT, "stand", (((9, 0),),), (((9, 0),), values, values), [((9, 0),), values], ((9, 0), values)]
    yield from [([(9, 0)], values), (((9, 0),), list(values)), (values, ((9, 0),)), {((9, 0),): values}, ((), values), (None, values)]
    for wrong in [(1, 2), (1, 2, 3, 0), (4, 0, 0), (0, -1, 0), (0, 0, 4), (True, 0, 0), (0, 0, False), (0.0, 0, 0), ("0", 0, 0),
                  (None, 0, 0), "000", (), None, 0, ([], 0, 0), ({}, 0, 0), (GREAT, 0, 0), [0, 0, 0], {0, 1, 2}, values + values]:
        yield (((9, 0),), wrong)
    for points in [((0, 0),), ((5, 0),), ((10, 0), (0, 0)), ((10, 0), (10, 0)), ((10, 0), (9, 0)), ((11, 0), (3, 0)), ((9, 0), (3, 0)),
                   ((10, 0), (5, 0), (0, 0)), ((10, 0), (4, 0), (3, 0)), ((10, 0), (4, 0), (4, 0)), ((4, 0), (0, 0)), ((12, 0), (3, 0)),
                   ((12, 0), (4, 0), (0, 0)), ((11, 1),), ((10, 1),), ((10, 1), (3, 0)), ((10, 0), (3, 1)), ((10, 0), (5, 1)), ((7, 0),),
                   ((14, 0),), ((15, 1),), ((16, 0),), ((-1, 0),), ((10, 0), ()), ((), (10, 0)), ((10, 0), None), ((10, 0), 3),
                   ((10, 0), [3, 0]), ((True, 0),), ((9, False),), ((10, False), (3, 0)), ((9.0, 0),), ("90",), ((9, 0, 0),), ((9,),),
                   (([9], 0),), (((9, 0),),), ((9, 0), (9, 0)), ((15, 0), (9, 0)), ((9, {}),), ((10, 0), (7, 0))]:
        yield (points, values)
    for thing in NO_POINTS:
        # Some of these are points of this program.
        if thing not in [(3, 0), (5, 0)]:
            yield ((thing,), values)
            yield ((thing, (3, 0)), values)
            yield (((10, 0), thing), values)


class NoStandTest(unittest.TestCase):
    def test_next_stands(self):
        for thing in no_stands():
            self.assertRaises(NoStand, next_stands, Program(DEEP), thing)

    def test_moat_fault_wherever_it_stands(self):
        program = Program(DEEP)
        stands = all_stands(program)
        for thing in no_stands():
            for one in ([thing], [thing] + stands, stands + [thing], stands[:9] + [thing] + stands[20:]):
                self.assertRaises(NoStand, moat_fault, program, one)

    def test_moat_fault_of_no_list(self):
        program = Program(DEEP)
        stands = all_stands(program)
        for thing in [one for one in NO_WHOLES if not isinstance(one, list)] + [
                tuple(stands), set(stands), dict.fromkeys(stands), stands[0], (), iter(stands), "stands", 0, range(3)]:
            self.assertRaises(NoStand, moat_fault, program, thing)

    def test_stands_of_another_program(self):
        for stand in [(((1, 0),), ZEROS), (((0, 0),), ZEROS)]:
            self.assertRaises(NoStand, next_stands, Program(DEEP), stand)
            self.assertEqual(len(next_stands(Program(LOOP), stand)), 1)


class AllTest(unittest.TestCase):
    def test_rising_each_once_just_those_that_can_come(self):
        many = []
        for text in SMALL:
            told = all_stands(Program(text))
            self.assertIs(type(told), list)
            self.assertEqual(told, sorted(closed_from(text, [first_stand(text)])))
            many.append(len(told))
        self.assertGreater(len(many), 100)
        for text in (wide_program(), long_program()):
            self.assertEqual(all_stands(Program(text)), sorted(closed_from(text, [first_stand(text)])))

    def test_the_stands_of_all_runs(self):
        for text in SMALL:
            told = set(all_stands(Program(text)))
            found = set()
            # A run that goes on longer stands again where it stood.
            for inputs in all_inputs(3 if "ask" in text else 0):
                found.update(Watched(text, inputs, len(told) + 1).stands)
            self.assertLessEqual(found, told)
            if "ask" not in text:
                self.assertEqual(found, told)

    def test_by_hand(self):
        self.assertEqual(all_stands(Program("def main\nend")), [(((0, 0),), ZEROS), (((1, 0),), ZEROS)])
        self.assertEqual(all_stands(Program(LOOP)), [
            (((0, 0),), ZEROS), (((1, 0),), ZEROS), (((1, 0),), (1, 0, 0)), (((1, 0),), (2, 0, 0)),
            (((2, 0),), ZEROS), (((2, 0),), (1, 0, 0)), (((4, 0),), (2, 0, 0)),
        ])
        self.assertEqual(all_stands(Program("def p\nend\ndef main\ncall p\nend")), [
            (((2, 0),), ZEROS), (((3, 0),), ZEROS), (((3, 0), (0, 0)), ZEROS), (((3, 0), (1, 0)), ZEROS), (((4, 0),), ZEROS),
        ])

    def test_a_new_list_each_time(self):
        program = Program(LOOP)
        all_stands(program).clear()
        reachable_points(program).clear()
        self.assertEqual((len(all_stands(program)), len(reachable_points(program))), (7, 4))


class MoatTest(unittest.TestCase):
    def test_none_of_all_stands_and_of_greater_lists_that_are_closed(self):
        chance = random.Random(3)
        for text in SMALL:
            program = Program(text)
            stands = all_stands(program)
            self.assertIsNone(moat_fault(program, stands))
            more = closed_from(text, stands + some_stands(text, chance, 3))
            for one in (stands[::-1], stands + stands, sorted(more), chance.sample(sorted(more), len(more)) + stands[:3]):
                before = list(one)
                self.assertIsNone(moat_fault(program, one))
                self.assertEqual(one, before)

    def test_one_stand_left_out(self):
        chance = random.Random(4)
        for text in SMALL:
            program = Program(text)
            more = sorted(closed_from(text, all_stands(program) + some_stands(text, chance, 2)))
            for gone in chance.sample(more, min(len(more), 5)):
                chance.shuffle(more)
                left = [stand for stand in more if stand != gone]
                due = next((stand for stand in left if gone in behind_in(text, stand)), None)
                if gone == first_stand(text):
                    due = gone
                self.assertEqual(moat_fault(program, left), due)

    def test_any_lists(self):
        chance = random.Random(5)
        for text in SMALL:
            program = Program(text)
            for _ in range(6):
                stands = some_stands(text, chance, chance.randint(0, 6)) + chance.choice([[], [first_stand(text)]])
                chance.shuffle(stands)
                due = first_stand(text)
                if due in stands:
                    due = next((stand for stand in stands if set(behind_in(text, stand)) - set(stands)), None)
                self.assertEqual(moat_fault(program, stands), due)

    def test_the_first_stand_where_it_is_not_there(self):
        program = Program(LOOP)
        stands = all_stands(program)
        for one in ([], stands[1:], stands[2:], stands[-1:]):
            self.assertEqual(moat_fault(program, one), (((0, 0),), ZEROS))
        self.assertEqual(moat_fault(program, stands[:1]), stands[0])
        self.assertIsNone(moat_fault(program, stands[1:] + stands[:1]))

    def test_an_ask_of_which_one_input_is_wanting(self):
        program = Program(main_of("ask a"))
        stands = all_stands(program)
        for number in range(4):
            left = [stand for stand in stands if stand != (((2, 0),), (number, 0, 0))]
            self.assertEqual(moat_fault(program, left), (((1, 0),), ZEROS))


class ReachTest(unittest.TestCase):
    def check(self, text, unmet):
        program = Program(text)
        told = reachable_points(program)
        self.assertIs(type(told), list)
        self.assertEqual(told, [point for point in points_in(text) if point not in unmet])
        for point in points_in(text):
            self.assertEqual(inputs_to(program, point) is None, point in unmet)

    def test_the_last_points_of_the_stands(self):
        for text in SMALL:
            due = sorted({points[-1] for points, _ in closed_from(text, [first_stand(text)])})
            self.check(text, set(points_in(text)) - set(due))

    def test_behind_a_stop(self):
        self.check(main_of("stop", "tell a"), {(2, 0), (3, 0)})
        self.check(main_of("if = a 0", "stop", "tell a", "end"), {(3, 0), (5, 0)})
        self.check("def p\nstop\nend\ndef main\ncall p\ntell a\nend", {(2, 0), (5, 0), (6, 0)})

    def test_a_routine_that_nothing_calls(self):
        self.check("def p\ntell a\nend\ndef q\ncall p\nend\ndef main\ntell a\nend", {(row, 0) for row in range(6)})
        self.check("def p\ntell a\nend\ndef main\nif = a 1\ncall p\nend\nend", {(0, 0), (1, 0), (2, 0), (5, 0)})

    def test_behind_a_while_that_never_ends(self):
        self.check(main_of("while = a a", "ask b", "end", "tell a"), {(4, 0), (5, 0)})
        self.check(main_of("while = a 0", "set b b + 1", "end", "tell a"), {(4, 0), (5, 0)})
        self.check(main_of("while = a 0", "ask a", "end", "tell a"), set())

    def test_parts_that_values_never_ask(self):
        self.check(main_of("ask a", "if and = a 1 and < a 1 = b 0", "tell a", "end"), {(2, 2), (3, 0)})
        self.check(main_of("ask a", "if or = a a = b 0", "tell a", "else", "tell b", "end"), {(2, 1), (5, 0)})


class InputsTest(unittest.TestCase):
    def check(self, text, point, inputs, fuel):
        """Whether the inputs lead to the point."""
        self.assertIs(type(inputs), list)
        self.assertTrue(all(type(number) is int and 0 <= number <= 3 for number in inputs))
        self.assertIn(point, run_program(Program(text), inputs, fuel=fuel).met())
        self.assertIn(("met", point), Machine(text, inputs, fuel).log)

    def test_as_few_as_can_be_among_all_shorter_lists(self):
        longest = set()
        for text in SMALL:
            least = {}
            # A run with as few inputs as can be need not stand twice where it stood.
            fuel = len(closed_from(text, [first_stand(text)])) + 1
            for inputs in all_inputs(4 if "ask" in text else 0):
                for point in Machine(text, inputs, fuel).counted("met"):
                    least.setdefault(point, len(inputs))
            program = Program(text)
            for point in points_in(text):
                inputs = inputs_to(program, point)
                if inputs is None:
                    self.assertNotIn(point, least)
                    continue
                self.check(text, point, inputs, fuel)
                self.assertEqual(len(inputs), least.get(point, len(inputs)))
                self.assertTrue(point in least or len(inputs) > 4)
                longest.add(len(inputs))
        self.assertLessEqual({0, 1, 2, 3}, longest)

    def test_none_where_any_run_meets_it(self):
        text = main_of("ask a", "tell a")
        program = Program(text)
        self.assertEqual(inputs_to(program, (0, 0)), [])
        # The ask itself is met without an input; what follows it is not.
        self.assertEqual(inputs_to(program, (1, 0)), [])
        self.assertEqual(len(inputs_to(program, (2, 0))), 1)

    def test_by_hand(self):
        rows = ["ask a", "if = a 2", "ask b", "if and = b 3 < c 1", "ask c", "while = c 1", "tell a", "end", "end", "end"]
        program = Program(main_of(*rows))
        self.assertEqual(inputs_to(program, (3, 0)), [2])
        self.assertEqual(inputs_to(program, (4, 1)), [2, 3])
        self.assertEqual(inputs_to(program, (5, 0)), [2, 3])
        self.assertEqual(inputs_to(program, (7, 0)), [2, 3, 1])
        self.assertEqual(len(inputs_to(program, (11, 0))), 1)
        self.assertIsNone(inputs_to(Program(main_of("stop")), (2, 0)))

    def test_a_way_with_fewer_inputs_is_longer(self):
        # One input, or none and many rows.
        rows = ["while < b 3", "set b b + 1", "set c c + 1", "set c c - 1", "end", "ask a", "if = a 1", "tell a", "end"]
        self.assertEqual(inputs_to(Program(main_of(*rows)), (8, 0)), [1])
        rows = ["if = a 0", "while < b 3", "set b b + 1", "end", "end", "while = c 0", "if = b 3", "tell a", "end", "ask c", "end"]
        self.assertEqual(inputs_to(Program(main_of(*rows)), (8, 0)), [])

    def test_a_new_list_each_time(self):
        program = Program(main_of("ask a", "if = a 2", "tell a", "end"))
        inputs_to(program, (3, 0)).clear()
        self.assertEqual(inputs_to(program, (3, 0)), [2])

    def test_no_point(self):
        for thing in NO_POINTS:
            self.assertRaises(NoPoint, inputs_to, Program(LOOP), thing)


class BoundsTest(unittest.TestCase):
    def test_eight_hundred_stands_at_once(self):
        sizes = []
        for text in (wide_program(), long_program()):
            program = Program(text)
            started = time.monotonic()
            stands = all_stands(program)
            self.assertIsNone(moat_fault(program, stands))
            self.assertEqual(moat_fault(program, stands[:-1] + stands[:5]) is None, False)
            points = reachable_points(program)
            for point in program.points():
                self.assertEqual(inputs_to(program, point) is None, point not in points)
            self.assertLess(time.monotonic() - started, 5)
            sizes.append(len(stands))
        self.assertTrue(all(700 <= many <= 800 for many in sizes), sizes)

    def test_stands_of_great_programs(self):
        chance = random.Random(6)
        for text in at_bounds():
            program = Program(text)
            started = time.monotonic()
            for stand in some_stands(text, chance, 40):
                self.assertEqual(next_stands(program, stand), behind_in(text, stand))
            self.assertLess(time.monotonic() - started, 2)

    def test_as_many_routines_as_there_can_be_one_calling_the_other(self):
        rows = ["def a", "ask a", "end"]
        for name in range(18):
            rows += [f"def {'abcdefghijklmnopqrstuvwxyz'[name + 1]}", f"call {'abcdefghijklmnopqrstuvwxyz'[name]}", "end"]
        text = "\n".join(rows + ["def main", "call s", "end"])
        program = Program(text)
        self.assertEqual(len(program), 60)
        stands = all_stands(program)
        self.assertEqual(max(len(points) for points, _ in stands), 20)
        self.assertIsNone(moat_fault(program, stands))
        self.assertEqual(len(inputs_to(program, (59, 0))), 1)
        self.assertEqual(reachable_points(program), program.points())


if __name__ == "__main__":
    unittest.main()
