"""The examples of the interface, as they stand."""

import doctest
import pathlib
import unittest

TEXT = (pathlib.Path(__file__).resolve().parent / "examples.txt").read_text()


class ExamplesTest(unittest.TestCase):
    def test_all(self):
        examples = doctest.DocTestParser().get_doctest(TEXT, {}, "examples", "examples.txt", 0)
        self.assertGreaterEqual(len(examples.examples), 30)
        told = []
        runner = doctest.DocTestRunner(verbose=False)
        runner.run(examples, out=told.append)
        self.assertEqual(runner.failures, 0, "".join(told))


if __name__ == "__main__":
    unittest.main()
