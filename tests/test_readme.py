"""The examples of README.md."""

import doctest
import pathlib
import unittest

README = pathlib.Path(__file__).resolve().parent.parent / "README.md"


class Readme(unittest.TestCase):
    def test_its_examples(self):
        text = README.read_text("utf-8").replace("\n```", "\n")
        examples = doctest.DocTestParser().get_doctest(text, {}, "README.md", str(README), 0)
        found = []
        runner = doctest.DocTestRunner()
        runner.run(examples, out=found.append)
        self.assertGreater(len(examples.examples), 10)
        self.assertEqual(runner.summarize(verbose=False).failed, 0, "".join(found))


if __name__ == "__main__":
    unittest.main()
