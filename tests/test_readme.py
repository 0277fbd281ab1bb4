"""Tests that the examples of README.md give what they show."""

import doctest
import pathlib
import unittest

README = pathlib.Path(__file__).resolve().parent.parent / "README.md"


def blocks():
    """Return the blocks of examples; the fences are no part of an answer."""
    parts = README.read_text(encoding="utf-8").split("```")
    return [part for part in parts[1::2] if ">>>" in part]


class Examples(unittest.TestCase):
    def test_every_block(self):
        self.assertGreater(len(blocks()), 1)
        names = {}
        for k, block in enumerate(blocks()):
            test = doctest.DocTestParser().get_doctest(block, names, f"block {k}", "README.md", 0)
            told = []
            runner = doctest.DocTestRunner(verbose=False)
            runner.run(test, out=told.append, clear_globs=False)
            names = test.globs
            with self.subTest(block=k):
                self.assertGreater(runner.tries, 0)
                self.assertEqual(runner.failures, 0, "".join(told))


if __name__ == "__main__":
    unittest.main()
