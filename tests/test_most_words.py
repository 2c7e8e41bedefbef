"""tt_most beside the document's words, written down once more in second.py, over many programs."""

import random
import unittest

from drawn import draw_how, draw_program
from hows import most, row
from second import told


class BesideTheWords(unittest.TestCase):
    def beside(self, seed, turns, **drawn):
        pick = random.Random(seed)
        answers = {}
        for turn in range(turns):
            how = draw_how(pick)
            parts = draw_program(pick, how, **drawn)
            answer = told(how, parts)
            self.assertEqual(most(row(*parts), **how), answer, (how, parts))
            answers[answer[1]] = True
        # Programs of which most are told the same would show little.
        self.assertGreater(len(answers), turns // 2)

    def test_small_programs(self):
        self.beside(51, 1500, others=8, largest=40)

    def test_larger_programs(self):
        self.beside(52, 500, others=40, largest=150)

    def test_data_in_many_lines(self):
        self.beside(53, 150, others=30, widest=60)

    def test_the_largest_programs(self):
        self.beside(54, 20, others=55, widest=20, largest=1023)


class Settling(unittest.TestCase):
    """Programs in which loops come to rest late: all in one set, one or two lines used by most steps."""

    def test_many_programs(self):
        pick = random.Random(55)
        for turn in range(500):
            how = dict(draw_how(pick), codeSets=1, dataSets=1, codeWays=pick.choice((3, 4, 8)),
                       dataWays=pick.choice((3, 4, 8)))
            parts = draw_program(pick, how, 25, often=(1, 2, 50), widest=3, largest=100)
            self.assertEqual(most(row(*parts), **how), told(how, parts), (how, parts))


if __name__ == "__main__":
    unittest.main()
