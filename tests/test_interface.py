import importlib
import inspect
import unittest

# What stands in the document's interface, of the files that there are by now.
FUNCTIONS = {
    "wholes": ["is_whole(thing, low, high)"],
    "ratios": [
        "fraction(top, bottom=1)", "is_fraction(thing)", "plus(one, other)", "minus(one, other)",
        "times(one, other)", "shared(one, other)",
    ],
    "conditions": [
        "word_worth(word, values)", "is_condition(thing)", "condition_text(condition)",
        "read_condition(text)", "parts_of(condition)", "asked_parts(condition, values)",
        "is_held(condition, values)",
    ],
}


class InterfaceTest(unittest.TestCase):
    def test_each_function_stands_in_its_file_with_its_arguments(self):
        for name, listed in FUNCTIONS.items():
            module = importlib.import_module(f"whatran.{name}")
            for line in listed:
                with self.subTest(file=name, function=line):
                    word = line.partition("(")[0]
                    function = getattr(module, word)
                    self.assertTrue(inspect.isfunction(function))
                    self.assertEqual(word + str(inspect.signature(function)), line)
                    self.assertEqual(function.__module__, f"whatran.{name}")


if __name__ == "__main__":
    unittest.main()
