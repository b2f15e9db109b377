import copy
import itertools
import random
import time
import unittest

from tests.plain import leads_in, meets_in, points_in, routines_of
from tests.some import LOOP, great_program, some_inputs, some_programs
from tests.test_marking import PLAIN, at_bounds
from tests.test_points import NO_POINTS
from tests.test_programs import main_of
from tests.test_sums import CALLS, bad_counts, bad_ends, counts_in
from tests.things import GREAT, NO_WHOLES
from whatran.editions import image_of, kept_rows, led_counts, why_otherwise
from whatran.errors import NoCounts, NoEnds, NoPoint, NoProgram, NotLed
from whatran.programs import Program
from whatran.runs import run_program
from whatran.sums import sum_fault

NEW_ROWS = ["set a 1", "set b b + 1", "tell c", "ask a", "stop", "if = a b", "while < a 1", "end", "else", "def w",
            "call p", "tell a", "set a a + 1"]


def changed_text(chance, text, times):
    """Another program, some rows of which are put in, left out, put elsewhere or exchanged."""
    rows = text.split("\n")
    for _ in range(200):
        tried = list(rows)
        for _ in range(times):
            at = chance.randrange(len(tried))
            word = chance.choice(["in", "in", "out", "block", "other", "move"])
            if word == "in":
                tried.insert(at, chance.choice(NEW_ROWS))
            elif word == "out" and len(tried) > 1:
                tried.pop(at)
            elif word == "block":
                tried[at:at] = [chance.choice(["if = a 3", "while < a 0"]), chance.choice(NEW_ROWS[:4]), "end"]
            elif word == "other":
                tried[at] = chance.choice(NEW_ROWS)
            elif word == "move":
                tried.insert(at, tried.pop(chance.randrange(len(tried))))
        try:
            return Program("\n".join(tried)).text()
        except NoProgram:
            continue
    return text


def some_pairs(start, texts, each=4):
    """Programs, each with some others that were made of it."""
    chance = random.Random(start)
    for text in texts:
        for times in range(1, each + 1):
            yield text, changed_text(chance, text, times)


def kept_by_all(old, new):
    """The first of the longest lists, found among all lists."""
    rows, others = old.split("\n"), new.split("\n")
    for many in range(min(len(rows), len(others)), -1, -1):
        found = []
        for ons in itertools.combinations(range(len(rows)), many):
            for offs in itertools.combinations(range(len(others)), many):
                if all(rows[on] == others[off] for on, off in zip(ons, offs)):
                    found.append(list(zip(ons, offs)))
        if found:
            return min(found)
    return []


def longest(rows, others):
    """How many rows can be kept, by another reckoning, row by row."""
    line = [0] * (len(others) + 1)
    for row in rows:
        last = list(line)
        for at, other in enumerate(others):
            line[at + 1] = last[at] + 1 if row == other else max(last[at + 1], line[at])
    return line[-1]


def why_in(old, new, met, taken, ends):
    """What why_otherwise is to tell, word by word: the least of all reasons."""
    kept = dict(kept_rows(Program(old), Program(new)))
    points, leads, old_leads = points_in(new), leads_in(new), leads_in(old)
    old_words, words = [[row.split(" ") for row in text.split("\n")] for text in (old, new)]
    routines, old_routines = routines_of(new), routines_of(old)

    def image(point):
        told = (kept.get(point[0]), point[1])
        return told if told in points and old_words[point[0]][0] == words[told[0]][0] else None

    def begin_image(name):
        return image((old_routines[name].row, 0))

    reasons = []
    if begin_image("main") != (routines["main"].row, 0):
        reasons.append((0, ()))
    for point in met:
        if image(point) is None:
            reasons.append((1, point))
    for way in taken:
        start = image(way[:2])
        if start is None or image(old_leads[way]) != leads[start + way[2:]]:
            reasons.append((2, way))
    for point in [point for point in met if image(point) is not None]:
        row, told = point[0], image(point)[0]
        last = 1 if ends and ends[-1] == point else 0
        if old_words[row][0] == "call" and met[point] > last:
            if begin_image(old_words[row][1]) != (routines[words[told][1]].row, 0):
                reasons.append((3, point))
        for name, one in old_routines.items():
            if one.close == row:
                own = [other for other in routines.values() if (other.row, 0) == begin_image(name)]
                if not own or own[0].close != told:
                    reasons.append((4, point))
    if not reasons:
        return None
    at, thing = min(reasons)
    return (("begin", "point", "way", "call", "end")[at],) + ((thing,) if at else ())


class KeptTest(unittest.TestCase):
    def kept(self, old, new):
        told = kept_rows(Program(old), Program(new))
        self.assertIs(type(told), list)
        return told

    def test_the_first_of_the_longest_lists_on_small_programs(self):
        chance = random.Random(1)
        small = [text for text in PLAIN + some_programs(81, 80, 9, 1) if text.count("\n") < 9]
        pairs = [pair for pair in some_pairs(2, small, 2) if pair[1].count("\n") < 9]
        pairs += [tuple(chance.sample(small, 2)) for _ in range(120)]
        for old, new in pairs:
            self.assertEqual(self.kept(old, new), kept_by_all(old, new))

    def test_rows_that_are_alike_in_number(self):
        rows = "set a 1", "set a 1", "set a 1"
        for old, new in [(main_of(*rows), main_of(*rows[:2])), (main_of(*rows[:2]), main_of(*rows)),
                         (main_of("tell a", "tell b"), main_of("tell b", "tell a")),
                         (main_of("tell a", "tell b", "tell a"), main_of("tell b", "tell a", "tell b")),
                         (main_of("if = a b", "end", "if = a b", "end"), main_of("if = a b", "end"))]:
            self.assertEqual(self.kept(old, new), kept_by_all(old, new))
        self.assertEqual(self.kept(main_of(*rows), main_of(rows[0])), [(0, 0), (1, 1), (4, 2)])

    def test_as_many_as_can_be_on_any_programs(self):
        texts = some_programs(83, 20, 60, 5) + list(at_bounds())
        for old, new in some_pairs(3, texts, 3):
            told = self.kept(old, new)
            rows, others = old.split("\n"), new.split("\n")
            self.assertEqual(len(told), longest(rows, others))
            for row, other in told:
                self.assertEqual(rows[row], others[other])
            for (row, other), (later, last) in zip(told, told[1:]):
                self.assertTrue(row < later and other < last)

    def test_a_program_with_itself(self):
        for text in PLAIN + [great_program()]:
            self.assertEqual(self.kept(text, text), [(row, row) for row in range(text.count("\n") + 1)])

    def test_a_new_list_each_time(self):
        program = Program(LOOP)
        told = kept_rows(program, program)
        told.clear()
        self.assertEqual(len(kept_rows(program, program)), 5)


class ImageTest(unittest.TestCase):
    def test_of_each_point(self):
        for old, new in some_pairs(4, PLAIN + some_programs(84, 30, 40, 5)):
            one, other = Program(old), Program(new)
            kept = dict(kept_rows(one, other))
            for point in one.points():
                told = image_of(one, other, point)
                due = (kept.get(point[0]), point[1])
                self.assertEqual(told, due if due in points_in(new) else None)
                if told is not None:
                    self.assertIs(type(told), tuple)
                    self.assertEqual(one.word(point[0]), other.word(told[0]))

    def test_an_end_that_ends_a_block_in_the_other(self):
        old = Program("def p\ntell a\nend\ndef main\ncall p\nend")
        new = Program("def main\nif = a b\ntell a\nend\nend")
        self.assertEqual(kept_rows(old, new), [(1, 2), (2, 3), (5, 4)])
        self.assertEqual(image_of(old, new, (1, 0)), (2, 0))
        self.assertIsNone(image_of(old, new, (2, 0)))
        self.assertEqual(image_of(old, new, (5, 0)), (4, 0))
        self.assertIsNone(image_of(old, new, (0, 0)))

    def test_parts_of_a_condition(self):
        old = Program(main_of("if and = a b < b c", "end"))
        new = Program(main_of("tell a", "if and = a b < b c", "end"))
        self.assertEqual([image_of(old, new, (1, part)) for part in (0, 1)], [(2, 0), (2, 1)])
        other = Program(main_of("if and = a b < b 2", "end"))
        self.assertEqual([image_of(old, other, (1, part)) for part in (0, 1)], [None, None])

    def test_points_that_are_none(self):
        for thing in NO_POINTS:
            for new in (LOOP, CALLS):
                self.assertRaises(NoPoint, image_of, Program(LOOP), Program(new), thing)


class WhyTest(unittest.TestCase):
    def why(self, old, new, met, taken, ends=()):
        before = copy.deepcopy((met, taken, ends))
        told = why_otherwise(Program(old), Program(new), met=met, taken=taken, ends=ends)
        self.assertEqual((met, taken, ends), before)
        self.assertEqual(told, why_in(old, new, met, taken, ends))
        return told

    def why_run(self, old, new, inputs=(), fuel=500):
        seen = run_program(Program(old), list(inputs), fuel=fuel)
        return self.why(old, new, seen.met(), seen.taken(), seen.ends())

    def test_none_into_the_same_program(self):
        chance = random.Random(5)
        for text in PLAIN + some_programs(85, 20, 40, 5):
            for fuel in (1, 2, 3, 7, 500):
                self.assertIsNone(self.why_run(text, text, some_inputs(chance), fuel))

    def test_begin(self):
        body = ["tell a", "tell b", "tell c", "ask a"]
        old = main_of(*body)
        new = "\n".join(["def p", *body, "end", "def main", "end"])
        self.assertEqual(self.why_run(old, new), ("begin",))
        self.assertEqual(self.why(old, new, {}, {}), ("begin",))

    def test_point(self):
        old = main_of("tell a", "tell b", "tell c")
        self.assertEqual(self.why_run(old, main_of("tell a", "tell 2")), ("point", (2, 0)))
        self.assertEqual(self.why_run(old, main_of("tell a", "tell b")), ("point", (3, 0)))
        self.assertIsNone(self.why_run(old, main_of("tell a", "tell b"), fuel=2))
        self.assertIsNone(self.why_run(old, main_of("tell a", "tell b"), fuel=3))

    def test_way(self):
        old = main_of("if = a 0", "tell a", "else", "tell b", "end")
        new = main_of("if = a 0", "tell a", "else", "tell b", "tell c", "end")
        self.assertIsNone(self.why_run(old, new))
        self.assertEqual(self.why_run(old, main_of("if = a 0", "tell a", "tell 1", "else", "tell b", "end")),
                         ("way", (2, 0, "on")))
        self.assertEqual(self.why_run(old, main_of("tell 1", *old.split("\n")[1:-1])), ("way", (0, 0, "on")))
        self.assertEqual(self.why(old, old.replace("if", "while").replace("\nelse\ntell b", ""), {}, {(1, 0, "no"): 1}),
                         ("way", (1, 0, "no")))

    def test_call(self):
        old = "def p\nend\ndef q\ntell a\nend\ndef main\ncall p\ncall q\nend"
        new = "def q\ntell a\nend\ndef p\nend\ndef main\ncall p\ncall q\nend"
        self.assertEqual(self.why(old, new, {(6, 0): 1}, {}), ("call", (6, 0)))
        self.assertIsNone(self.why(old, new, {(6, 0): 1}, {}, ((6, 0),)))
        self.assertEqual(self.why(old, new, {(6, 0): 2}, {}, ((6, 0),)), ("call", (6, 0)))
        self.assertIsNone(self.why(old, new, {(7, 0): 1}, {}, ((7, 0), (2, 0))))
        self.assertEqual(self.why(old, new, {(6, 0): 1}, {}, ((6, 0), (0, 0))), ("call", (6, 0)))

    def test_end(self):
        old = "def p\ntell a\nend\ndef main\ncall p\nend"
        new = "def q\ntell a\nend\ndef main\nend"
        self.assertEqual(self.why(old, new, {(2, 0): 1}, {}), ("end", (2, 0)))
        self.assertIsNone(self.why(old, old, {(2, 0): 1, (5, 0): 3}, {}))
        self.assertIsNone(self.why(old, new, {(5, 0): 1}, {}))

    def test_the_first_sort_and_the_least_of_several(self):
        old = "def p\ntell a\nend\ndef q\ntell b\nend\ndef main\ncall p\ncall q\nif = a b\ntell c\nend\nend"
        new = "def q\ntell b\nend\ndef p\ntell a\nend\ndef main\ntell 3\ncall p\ncall q\nif = a b\nend\nend"
        points, ways = Program(old).points(), Program(old).ways()
        chance = random.Random(6)
        sorts = set()
        for _ in range(400):
            met = {point: chance.randint(1, 3) for point in chance.sample(points, chance.randint(0, 4))}
            taken = {way: chance.randint(1, 3) for way in chance.sample(ways, chance.randint(0, 2))}
            ends = chance.choice([(), ((7, 0),), ((8, 0),), ((7, 0), (1, 0)), ((9, 0),)])
            for one, other in ((old, new), (old, old), (old, old.replace("def q", "def r").replace("call q", "stop"))):
                told = self.why(one, other, met, taken, ends)
                sorts.add(told and told[0])
        self.assertEqual(sorts, {None, "point", "way", "call", "end"})

    def test_of_runs_as_the_document_says(self):
        chance = random.Random(7)
        for old, new in some_pairs(8, PLAIN + some_programs(86, 50, 40, 5)):
            for fuel in (2, 9, 60, 500):
                self.why_run(old, new, some_inputs(chance), fuel)

    def test_met_and_taken_of_numbers_of_sixty_figures(self):
        told = self.why(LOOP, LOOP, {(1, 0): GREAT, (2, 0): GREAT}, {(1, 0, "yes"): GREAT, (2, 0, "on"): GREAT})
        self.assertIsNone(told)


class LedTest(unittest.TestCase):
    def check(self, old, new, inputs, fuel):
        """Where none is told why not, the run of the new edition goes the same way."""
        one, other = Program(old), Program(new)
        seen = run_program(one, inputs, fuel=fuel)
        counts = counts_in(one, [seen])
        why = why_otherwise(one, other, met=seen.met(), taken=seen.taken(), ends=seen.ends())
        before = copy.deepcopy(counts)
        if why is not None:
            with self.assertRaises(NotLed) as caught:
                led_counts(one, other, counts, seen.ends())
            self.assertEqual(caught.exception.why, why)
            self.assertEqual(counts, before)
            return False
        again = run_program(other, inputs, fuel=fuel)
        told = led_counts(one, other, counts, seen.ends())
        self.assertEqual([type(thing) for thing in told], [dict, tuple])
        self.assertEqual(told, (counts_in(other, [again]), again.ends()))
        self.assertEqual([image_of(one, other, point) for point in seen.points()], again.points())
        self.assertEqual((seen.told(), seen.asked(), seen.outcome()), (again.told(), again.asked(), again.outcome()))
        self.assertIsNone(sum_fault(other, told[0], [told[1]]))
        self.assertEqual(counts, before)
        return True

    def test_a_run_goes_the_same_way_wherever_none_is_told(self):
        chance = random.Random(9)
        many = {True: 0, False: 0}
        for old, new in some_pairs(10, PLAIN + some_programs(87, 80, 40, 5) + [great_program()]):
            for fuel in (1, 3, 9, 40, 500):
                many[self.check(old, new, some_inputs(chance), fuel)] += 1
        self.assertGreater(min(many.values()), 300)

    def test_into_the_same_program(self):
        for text in PLAIN + list(at_bounds()):
            for fuel in (1, 5, 60):
                self.assertTrue(self.check(text, text, [1, 2], fuel))

    def test_ways_that_are_not_taken_are_0(self):
        old = main_of("if = a 0", "tell a", "else", "tell b", "end")
        new = main_of("if = a 0", "tell a", "else", "stop", "end", "tell c")
        self.assertFalse(self.check(old, new, [], 500))
        self.assertTrue(self.check(old, new, [], 3))
        one, other = Program(old), Program(new)
        counts = counts_in(one, [run_program(one, [], fuel=3)])
        told = led_counts(one, other, counts, ((2, 0),))
        self.assertEqual(told, ({(0, 0, "on"): 1, (1, 0, "no"): 0, (1, 0, "yes"): 1, (2, 0, "on"): 0, (6, 0, "on"): 0},
                                ((2, 0),)))

    def test_the_ends_are_led_too(self):
        old = "def p\nask a\nend\ndef main\ncall p\nend"
        new = "def q\nend\ndef p\nask a\nend\ndef main\ncall p\ncall q\nend"
        one, other = Program(old), Program(new)
        seen = run_program(one, [])
        _, ends = led_counts(one, other, counts_in(one, [seen]), seen.ends())
        self.assertEqual((seen.ends(), ends), (((4, 0), (1, 0)), ((6, 0), (3, 0))))
        self.assertTrue(self.check(old, new, [], 500))

    def test_counts_then_ends_that_are_none(self):
        program = Program(LOOP)
        zeros = {way: 0 for way in program.ways()}
        for counts in list(bad_counts(program)) + NO_WHOLES:
            for ends in ((), None, [()], 0):
                self.assertRaises(NoCounts, led_counts, program, program, counts, ends)
        program = Program(CALLS)
        zeros = {way: 0 for way in program.ways()}
        for ends in [ends[0] for ends in bad_ends(program) if isinstance(ends, list) and ends[0] != ()] + [[], [()], None]:
            for new in (CALLS, LOOP):
                self.assertRaises(NoEnds, led_counts, program, Program(new), zeros, ends)

    def test_counts_of_the_other_program(self):
        one, other = Program(LOOP), Program(CALLS)
        self.assertRaises(NoCounts, led_counts, one, other, {way: 0 for way in other.ways()}, ())

    def test_why_is_what_why_otherwise_tells_by_counts_and_ends(self):
        chance = random.Random(11)
        for old, new in some_pairs(12, some_programs(88, 30, 24, 4)):
            one, other = Program(old), Program(new)
            seen = run_program(one, some_inputs(chance), fuel=30)
            counts = counts_in(one, [seen])
            meets = meets_in(old, counts, [seen.ends()])
            due = why_in(old, new, {point: many for point, many in meets.items() if many},
                         {way: many for way, many in counts.items() if many}, seen.ends())
            try:
                led_counts(one, other, counts, seen.ends())
            except NotLed as refusal:
                self.assertEqual(refusal.why, due)
            else:
                self.assertIsNone(due)

    def test_numbers_of_sixty_figures(self):
        old, new = Program(LOOP), Program("def w\nend\n" + LOOP)
        counts = {(0, 0, "on"): 1, (1, 0, "no"): 1, (1, 0, "yes"): GREAT, (2, 0, "on"): GREAT}
        told = led_counts(old, new, counts, ())
        self.assertEqual(told, ({(0, 0, "on"): 0, **{(way[0] + 2,) + way[1:]: counts[way] for way in counts}}, ()))

    def test_what_is_told_is_new(self):
        program = Program(LOOP)
        counts = counts_in(program, [run_program(program, [])])
        told, _ = led_counts(program, program, counts, ())
        told.clear()
        self.assertEqual(led_counts(program, program, counts, ()), (counts, ()))


class BoundsTest(unittest.TestCase):
    def test_each_answers_at_once(self):
        chance = random.Random(13)
        for text in at_bounds():
            other = changed_text(chance, text, 3)
            started = time.monotonic()
            old, new = Program(text), Program(other)
            for one, two in ((old, new), (new, old)):
                seen = run_program(one, [0, 1, 2, 3] * 50, fuel=5000)
                for point in one.points():
                    image_of(one, two, point)
                why = why_otherwise(one, two, met=seen.met(), taken=seen.taken(), ends=seen.ends())
                self.assertTrue(why is None or why[0] in ("begin", "point", "way"))
            self.assertLess(time.monotonic() - started, 10)


if __name__ == "__main__":
    unittest.main()
