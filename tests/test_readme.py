import doctest
import inspect
import pathlib
import unittest

from meanpairs import averages

README = pathlib.Path(__file__).resolve().parent.parent / "README.md"
OPERATIONS = ("apply_averages", "influence", "always_equalizes", "plan", "spread", "greedy_averaging")


class ReadmeTest(unittest.TestCase):
    def test_every_operation_is_told_with_its_arguments_and_an_example(self):
        text = README.read_text(encoding="utf-8")
        for name in OPERATIONS:
            with self.subTest(name):
                self.assertIn(f"### {name}{inspect.signature(getattr(averages, name))}\n", text)
                self.assertIn(f"    >>> {name}(", text)

    def test_examples_answer_what_is_told(self):
        outcome = doctest.testfile(str(README), module_relative=False, encoding="utf-8")
        self.assertGreaterEqual(outcome.attempted, 2 * len(OPERATIONS))
        self.assertEqual(outcome.failed, 0)


if __name__ == "__main__":
    unittest.main()
