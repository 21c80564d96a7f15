"""Tests of the examples in README.md."""

import doctest
import os
import unittest

README = os.path.join(os.path.dirname(os.path.dirname(os.path.abspath(__file__))), "README.md")


class Examples(unittest.TestCase):
    def test_each_section(self):
        with open(README, encoding="utf-8") as file:
            # Behind the last line of an example doctest takes everything for its result up to an empty line.
            sections = file.read().replace("```", "").split("\n### ")
        examples = 0
        for section in sections:
            name = section.split("\n")[0]
            test = doctest.DocTestParser().get_doctest(section, {}, name, README, 0)
            runner = doctest.DocTestRunner(verbose=False)
            told = []
            runner.run(test, out=told.append)
            self.assertEqual((runner.summarize(verbose=False).failed, "".join(told)), (0, ""), name)
            examples += len(test.examples)
        self.assertGreater(examples, 40)


if __name__ == "__main__":
    unittest.main()
