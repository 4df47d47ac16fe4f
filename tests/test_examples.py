"""The examples of the interface, as they stand."""

import doctest
import pathlib
import unittest

HERE = pathlib.Path(__file__).resolve().parent


class ExamplesTest(unittest.TestCase):
    def check(self, path, least):
        examples = doctest.DocTestParser().get_doctest(path.read_text().replace("```", ""), {}, path.name, str(path), 0)
        self.assertGreaterEqual(len(examples.examples), least)
        told = []
        runner = doctest.DocTestRunner(verbose=False)
        runner.run(examples, out=told.append)
        self.assertEqual(runner.failures, 0, "".join(told))

    def test_interface(self):
        self.check(HERE / "examples.txt", 30)

    def test_readme(self):
        self.check(HERE.parent / "README.md", 9)


if __name__ == "__main__":
    unittest.main()
