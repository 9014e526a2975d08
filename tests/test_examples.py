"""The examples of the interface, as they stand, one behind another: names stand for what they were before."""

import doctest
import unittest

RATIOS = """
>>> from pairsfree.ratios import Ratio
>>> [Ratio(4, -6), str(Ratio(1, 2) + 3), Ratio(1, 3).is_below(Ratio(2, 5))]
[Ratio(-2, 3), '7/2', True]
"""

STEPS = """
>>> from pairsfree.steps import rank, steps, zeros
>>> [steps(2, [[0, 2], [0, 4]]) == [[Ratio(0), Ratio(1)]], rank(3, [[1, 0, 0], [1, 1, 0], [0, 1, 0]]), zeros(2, [[1, 2]]) == [[Ratio(1), Ratio(-1, 2)]], zeros(1, []), steps(0, [[], []])]
[True, 2, True, [[Ratio(1, 1)]], []]
"""

EXAMPLES = (("ratios", RATIOS), ("steps", STEPS))


class ExamplesTest(unittest.TestCase):

    def test_examples(self):
        names = {}
        for name, text in EXAMPLES:
            told = []
            test = doctest.DocTestParser().get_doctest(text, names, name, None, 0)
            found = doctest.DocTestRunner(verbose=False).run(test, out=told.append, clear_globs=False)
            names = test.globs
            self.assertGreater(found.attempted, 0)
            self.assertEqual(found.failed, 0, "".join(told))


if __name__ == "__main__":
    unittest.main()
