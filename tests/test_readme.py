"""The examples of README.md."""

import doctest
import os
import unittest

README = os.path.join(os.path.dirname(os.path.dirname(os.path.abspath(__file__))), "README.md")


class Examples(unittest.TestCase):
    def test_they_are_true(self):
        with open(README, encoding="utf-8") as file:
            text = file.read().replace("```", "")
        example = doctest.DocTestParser().get_doctest(text, {}, "README.md", README, 0)
        told = doctest.DocTestRunner().run(example)
        self.assertEqual(told.failed, 0)
        self.assertGreater(told.attempted, 5)


if __name__ == "__main__":
    unittest.main()
