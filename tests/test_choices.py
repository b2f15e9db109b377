import random
import time
import unittest

from tests.plain import all_parts, number_in, routines_of, statements_in, throughs_of
from tests.some import LOOP, great_program, some_inputs, some_programs
from tests.test_choosing import seen_of_values, shown_in
from tests.test_leading import SORTS, add_run, reported
from tests.test_marking import PLAIN
from tests.test_points import NO_POINTS
from tests.test_programs import main_of
from tests.test_reports import CROSS, NAMES, NO_NAMES, by_all, by_few, told
from tests.test_sums import CALLS
from tests.things import GREAT, NO_WHOLES
from whatran.choices import choice_words, seen_through
from whatran.errors import NoEdition, NoPoint
from whatran.leading import lead_over
from whatran.records import record_by_numbers
from whatran.reports import join_reports

# The first part is asked always, the second never shows, the third needs two runs.
ASKING = main_of("ask a", "ask b", "if or and = a 1 = a 1 = b 2", "tell a", "end")


def conditions_in(text):
    """The condition of each row that has one."""
    found = [one for routine in routines_of(text).values() for one in statements_in(routine.body)]
    return {one.row: one.condition for one in found if one.condition is not None}


def words_of(condition, seen):
    """For each part its word, read off the document."""
    words = []
    for part in range(len(all_parts(condition))):
        if shown_in(condition, part, sorted(set(seen))):
            words.append("shown")
        elif shown_in(condition, part, sorted(set(seen_of_values(condition)))) is None:
            words.append("never")
        else:
            words.append("open")
    return words


class ChoicesTest(unittest.TestCase):
    def check(self, report, edition, seen):
        """Of an edition whose runs that were told by numbers are these."""
        before = told(report)
        text = report.program(edition).text()
        for row, condition in conditions_in(text).items():
            numbers = {number for one in seen for at, number in one.through() if at == row}
            by_number = {number_in(condition, through): through for through in throughs_of(condition)}
            throughs = [by_number[number] for number in sorted(numbers)]
            answer = seen_through(report, edition, row)
            self.assertIs(type(answer), list)
            self.assertEqual(answer, throughs)
            words = choice_words(report, edition, row)
            self.assertIs(type(words), list)
            self.assertEqual(words, words_of(condition, throughs))
            yield from words
        self.assertEqual(told(report), before)

    def test_of_any_programs_and_runs(self):
        chance = random.Random(1)
        found = []
        for text in [CROSS, ASKING] + PLAIN + some_programs(401, 60, 40, 8) + [great_program()]:
            report = reported({"e": text, "other": text})
            seen = []
            for run in chance.sample(NAMES, chance.randint(0, 6)):
                sort = chance.choice(SORTS)
                one = add_run(report, "e", run, some_inputs(chance), 200, sort)
                if sort is record_by_numbers:
                    seen.append(one)
            # Runs of another edition tell nothing of this one.
            add_run(report, "other", "r", [1, 2, 3], 200)
            found += self.check(report, "e", seen)
        self.assertEqual(set(found), {"shown", "open", "never"})

    def words(self, report, row=3):
        return choice_words(report, "e", row)

    def test_no_runs_and_runs_by_marks_alone(self):
        report = reported({"e": ASKING, "f": ASKING})
        self.assertEqual(self.words(report), ["open", "never", "open"])
        self.assertEqual(seen_through(report, "e", 3), [])
        for number, inputs in enumerate([[1, 0], [0, 0], [0, 2]]):
            add_run(report, "e", f"r{number}", inputs, sort=by_few)
            add_run(report, "e", f"s{number}", inputs, sort=by_all)
            add_run(report, "f", f"r{number}", inputs)
        self.assertEqual(self.words(report), ["open", "never", "open"])
        self.assertEqual(seen_through(report, "e", 3), [])
        self.assertEqual(choice_words(report, "f", 3), ["shown", "never", "shown"])

    def test_throughs_of_unlike_runs_together(self):
        report = reported({"e": ASKING})
        add_run(report, "e", "r", [0, 2])
        self.assertEqual((seen_through(report, "e", 3), self.words(report)), ([(0, 2, 1)], ["open", "never", "open"]))
        add_run(report, "e", "q", [0, 1])
        self.assertEqual(seen_through(report, "e", 3), [(0, 2, 0), (0, 2, 1)])
        self.assertEqual(self.words(report), ["open", "never", "shown"])
        add_run(report, "e", "a", [1, 3])
        self.assertEqual(seen_through(report, "e", 3), [(0, 2, 0), (0, 2, 1), (1, 1, 2)])
        self.assertEqual(self.words(report), ["shown", "never", "shown"])
        add_run(report, "e", "b", [0, 2])
        self.assertEqual(len(seen_through(report, "e", 3)), 3)

    def test_throughs_of_one_run(self):
        report = reported({"e": LOOP})
        add_run(report, "e", "r")
        self.assertEqual((self.words(report, 1), seen_through(report, "e", 1)), (["shown"], [(0,), (1,)]))

    def test_shown_where_throughs_that_no_values_make_are_told(self):
        report = reported({"e": main_of("while and = a 1 = a 1", "end")})
        self.assertEqual(self.words(report, 1), ["open", "never"])
        report.add("e", "r", ("numbers", "ended", (), [(1, 1, 1), (1, 2, 1)]))
        self.assertEqual(self.words(report, 1), ["open", "shown"])

    def test_told_by_marks_and_then_by_numbers(self):
        report = reported({"e": LOOP})
        add_run(report, "e", "r", sort=by_few)
        self.assertEqual(self.words(report, 1), ["open"])
        add_run(report, "e", "r")
        self.assertEqual(self.words(report, 1), ["shown"])
        add_run(report, "e", "r", sort=by_few)
        self.assertEqual(self.words(report, 1), ["shown"])

    def test_joined(self):
        one, other = reported({"e": ASKING}), reported({"e": ASKING})
        add_run(one, "e", "r", [0, 2])
        add_run(other, "e", "s", [0, 0])
        add_run(other, "e", "r", [0, 2], sort=by_few)
        for report in (one, other):
            self.assertEqual(self.words(report), ["open", "never", "open"])
        for report in (join_reports(one, other), join_reports(other, one)):
            self.assertEqual(self.words(report), ["open", "never", "shown"])
            self.assertEqual(seen_through(report, "e", 3), [(0, 2, 0), (0, 2, 1)])

    def test_led_over(self):
        new = main_of("ask a", "tell 3", "ask b", "if or and = a 1 = a 1 = b 2", "tell a", "end")
        report = reported({"e": "def w\nend\n" + ASKING, "new": ASKING, "far": new})
        add_run(report, "e", "r", [0, 2])
        add_run(report, "e", "s", [0, 0])
        add_run(report, "e", "t", [1, 0], sort=by_few)
        led = lead_over(lead_over(report, "e", "new"), "e", "far")
        self.assertEqual(choice_words(led, "new", 3), ["open", "never", "shown"])
        self.assertEqual(seen_through(led, "new", 3), [(0, 2, 0), (0, 2, 1)])
        self.assertEqual(choice_words(led, "far", 4), ["open", "never", "open"])
        self.assertEqual(choice_words(report, "new", 3), ["open", "never", "open"])

    def test_of_the_row_that_is_asked_alone(self):
        report = reported({"e": main_of("ask a", "if = a 1", "end", "if = a 1", "end", "if = a 3", "stop", "end", "if < a 3", "end")})
        add_run(report, "e", "r", [3])
        self.assertEqual([seen_through(report, "e", row) for row in (2, 4, 6, 9)], [[(0,)], [(0,)], [(1,)], []])

    def test_new_lists_each_time(self):
        report = reported({"e": LOOP})
        add_run(report, "e", "r")
        choice_words(report, "e", 1).clear()
        seen_through(report, "e", 1).clear()
        self.assertEqual((self.words(report, 1), len(seen_through(report, "e", 1))), (["shown"], 2))

    def test_no_edition_then_no_point(self):
        report = reported({"e": LOOP, "f": CALLS})
        add_run(report, "e", "r")
        rows = NO_WHOLES + NO_POINTS + [0, 2, 3, 4, 5, 60, -1, -4, GREAT, "1", "1.0", (1, 0), [1]]
        for function in (choice_words, seen_through):
            for name in ["none", "E"] + NO_NAMES:
                for row in (1, 0, None, []):
                    with self.assertRaises(NoEdition) as caught:
                        function(report, name, row)
                    self.assertIs(caught.exception.name, name)
            for row in rows:
                self.assertRaises(NoPoint, function, report, "e", row)
            # A row of the one edition is none of the other.
            self.assertRaises(NoPoint, function, report, "e", 13)
            self.assertRaises(NoPoint, function, report, "f", 0)


class BoundsTest(unittest.TestCase):
    def test_thirty_parts_and_eight_runs_at_once(self):
        chance = random.Random(2)
        eight = "or and = a 1 < b 2 or and = c 3 not < a b and and = b c < c 2 or = a 0 = c 1"
        text = main_of(*["ask a", "ask b", "ask c"], *[f"if {eight}", "end"] * 3, "while or or = a 1 = b 2 or = c 3 and < a b and < b c < c a",
                       "ask a", "ask b", "ask c", "end")
        report = reported({"e": text})
        for number in range(8):
            add_run(report, "e", f"r{number}", [chance.randint(0, 3) for _ in range(100)], 300)
        started = time.monotonic()
        words = [word for row in conditions_in(text) for word in choice_words(report, "e", row)]
        self.assertLess(time.monotonic() - started, 3)
        self.assertEqual(len(words), 30)


if __name__ == "__main__":
    unittest.main()
