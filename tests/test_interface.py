import importlib
import inspect
import unittest

# What stands in the document's interface.
FUNCTIONS = {
    "wholes": ["is_whole(thing, low, high)"],
    "ratios": [
        "fraction(top, bottom=1)", "is_fraction(thing)", "plus(one, other)", "minus(one, other)",
        "times(one, other)", "shared(one, other)",
    ],
    "conditions": [
        "word_worth(word, values)", "is_condition(thing)", "condition_text(condition)",
        "read_condition(text)", "parts_of(condition)", "asked_parts(condition, values)",
        "is_held(condition, values)",
    ],
    "throughs": [
        "all_throughs(condition)", "part_worths(condition)", "number_of(condition, through)",
        "through_at(condition, number)",
    ],
    "runs": ["run_program(program, inputs, *, fuel=500)"],
    "sums": ["sum_fault(program, counts, ends)"],
    "marking": [
        "fewest_marks(program)", "best_marks(program, *, weights=None)", "hidden_change(program, marks)",
        "is_hidden(program, marks, change)",
    ],
    "records": [
        "record_by_marks(program, seen, marks)", "record_by_numbers(program, seen)", "counts_of(program, record)",
    ],
    "reports": ["join_reports(one, two)"],
    "editions": [
        "kept_rows(old, new)", "image_of(old, new, point)", "why_otherwise(old, new, *, met, taken, ends)",
        "led_counts(old, new, counts, ends)",
    ],
    "leading": ["lead_over(report, old, new)", "to_run(report, old, new)"],
    "fewruns": ["fewest_runs(report, edition)", "paper_fault(report, edition, many, paper)"],
    "reaching": [
        "next_stands(program, stand)", "all_stands(program)", "moat_fault(program, stands)",
        "reachable_points(program)", "inputs_to(program, point)",
    ],
    "choosing": ["shown_by(condition, part, seen)", "can_show(condition, part)"],
    "choices": ["choice_words(report, edition, row)", "seen_through(report, edition, row)"],
    "totals": [
        "total_rows(report, edition)", "share_met(report, edition)", "run_rows(report, edition)",
        "rarest_points(report, edition)",
    ],
    "texts": [
        "point_text(point)", "way_text(way)", "record_text(record)", "read_record(text)", "report_text(report)",
        "read_report(text)",
    ],
}
# The classes with what makes them, where callers make them, and with their methods.
CLASSES = {
    ("programs", "Program"): [
        "__init__(text)", "text()", "rows()", "routines()", "points()", "is_point(thing)", "word(row)", "routine(row)",
        "condition(row)", "called(row)", "begin(name)", "close(name)", "ways()", "leads(way)",
    ],
    ("runs", "Seen"): [
        "outcome()", "told()", "met()", "taken()", "through()", "ends()", "asked()", "points()", "last_values()",
    ],
    ("marking", "Reckoner"): ["__init__(program, marks)", "reckoned(numbers, ends)", "shares(way)"],
    ("reports", "Report"): [
        "__init__()", "add_edition(name, program)", "add(edition, run, record, *, watch=None)", "busy()", "editions()",
        "runs(edition)", "program(edition)", "counts(edition, run)", "outcome(edition, run)", "ends(edition, run)",
        "through(edition, run)", "met(edition, run)", "all_met(edition)", "all_taken(edition)", "who(edition, point)",
    ],
    ("desk", "Desk"): ["__init__()", "say(row)"],
}


class InterfaceTest(unittest.TestCase):
    def test_the_fuel_of_a_run_stands_in_its_file(self):
        self.assertEqual(importlib.import_module("whatran.runs").FUEL, 500)

    def test_each_function_stands_in_its_file_with_its_arguments(self):
        for name, listed in FUNCTIONS.items():
            module = importlib.import_module(f"whatran.{name}")
            for line in listed:
                with self.subTest(file=name, function=line):
                    word = line.partition("(")[0]
                    function = getattr(module, word)
                    self.assertTrue(inspect.isfunction(function))
                    self.assertEqual(word + str(inspect.signature(function)), line)
                    self.assertEqual(function.__module__, f"whatran.{name}")

    def test_each_class_stands_in_its_file_with_its_own_methods(self):
        for (name, word), listed in CLASSES.items():
            made = getattr(importlib.import_module(f"whatran.{name}"), word)
            self.assertEqual(made.__module__, f"whatran.{name}")
            for line in listed:
                with self.subTest(made=word, method=line):
                    method = vars(made)[line.partition("(")[0]]
                    self.assertTrue(inspect.isfunction(method))
                    told = str(inspect.signature(method)).replace("(self, ", "(").replace("(self)", "()")
                    self.assertEqual(method.__name__ + told, line)


if __name__ == "__main__":
    unittest.main()
