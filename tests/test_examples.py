"""The examples of the interface, as they stand."""

import doctest
import pathlib
import re
import unittest

HERE = pathlib.Path(__file__).resolve().parent


def raised(match):
    """What is shown of an error, by its class and its attribute."""
    name, given = match.groups()
    return "Traceback (most recent call last):\n    ..\ntwoletters.errors." + name + (": " + given if given else "")


class ExamplesTest(unittest.TestCase):
    def check(self, path, least):
        text = re.sub(r"^raises (\w+)\((.*)\)$", raised, path.read_text().replace("```", ""), flags=re.MULTILINE)
        examples = doctest.DocTestParser().get_doctest(text, {}, path.name, str(path), 0)
        self.assertGreaterEqual(len(examples.examples), least)
        told = []
        runner = doctest.DocTestRunner(verbose=False)
        runner.run(examples, out=told.append)
        self.assertEqual(runner.failures, 0, "".join(told))

    def test_interface(self):
        self.check(HERE / "examples.txt", 100)

    def test_readme(self):
        self.check(HERE.parent / "README.md", 30)


if __name__ == "__main__":
    unittest.main()
