import doctest
import re
import unittest
from pathlib import Path

README = Path(__file__).resolve().parent.parent / "README.md"


class ReadmeTest(unittest.TestCase):
    def test_the_examples_of_the_readme(self):
        text = README.read_text(encoding="ascii")
        self.assertGreater(text.count(">>> "), 80)
        test = doctest.DocTestParser().get_doctest(text, {}, "README.md", str(README), 0)
        told = []
        result = doctest.DocTestRunner(verbose=False).run(test, out=told.append)
        self.assertEqual(result.failed, 0, "".join(told))

    def test_each_stage_has_an_example(self):
        text = README.read_text(encoding="ascii")
        parts = re.split(r"^### ", text.partition("\n## Files")[0], flags=re.MULTILINE)[1:]
        self.assertEqual(len(parts), 13)
        for part in parts:
            self.assertIn("\n>>> ", part)


if __name__ == "__main__":
    unittest.main()
