"""What the document says that holds of tt_most, beside all runs of small programs, which runs.py makes."""

import random
import unittest

from drawn import draw_how, draw_program, steps_alone
from hows import behind, either, loop, most, row, step
from runs import longest, longest_from_empty
from second import kind


def draw_cache(pick, cache):
    """A cache with something in it: lines that a program may use, and others."""
    line_size, sets, ways = cache
    return tuple(tuple(pick.sample([number + sets * k for k in range(16)], pick.randrange(ways + 1)))
                 for number in range(sets))


def draw_caches(pick, how):
    return draw_cache(pick, kind(how, "code")), draw_cache(pick, kind(how, "data"))


def draw_small(pick, how):
    return draw_program(pick, how, 8, often=(0, 1, 2, 3), widest=3, largest=41)


class NoRunTakesLonger(unittest.TestCase):
    def test_from_empty_caches(self):
        pick = random.Random(61)
        just_so = 0
        for turn in range(400):
            how = draw_how(pick)
            parts = draw_small(pick, how)
            at_most, longest_run = most(row(*parts), **how)[1], longest_from_empty(how, parts)
            self.assertLessEqual(longest_run, at_most, (how, parts))
            just_so += longest_run == at_most
        # Far above all runs would be no longer than any run too, but told to no use.
        self.assertGreater(just_so, 250)

    def test_whatever_the_caches_hold_at_first(self):
        pick = random.Random(62)
        for turn in range(400):
            how = draw_how(pick)
            parts = draw_small(pick, how)
            at_most = most(row(*parts), **how)[1]
            for caches in [draw_caches(pick, how) for again in range(3)]:
                self.assertLessEqual(longest(how, parts, *caches), at_most, (how, parts, caches))

    def test_corners(self):
        pick = random.Random(63)
        hit, far, near = step(0, 1, 0, 0), step(4, 1, 0, 11), step(8, 2, 4, 4)
        corners = (
            [hit, loop(0, 0), behind(1, 0)],
            [hit, loop(0, 1), behind(1, 0)],
            [hit, near, behind(0, 1), loop(2, 4)],
            [hit, far, near, behind(0, 1), behind(3, 2), loop(4, 4)],
            [hit, near, either(0, 1), loop(2, 5), behind(0, 3), behind(4, 1)],
            [hit, far, either(0, 1), loop(2, 3), behind(0, 3), loop(4, 3)],
            [far, far, behind(0, 1), behind(2, 0), behind(3, 0)],
        )
        for parts in corners:
            for turn in range(40):
                how = dict(draw_how(pick), codeLine=2, dataLine=2)
                at_most = most(row(*parts), **how)[1]
                self.assertLessEqual(longest_from_empty(how, parts), at_most, (how, parts))
                self.assertLessEqual(longest(how, parts, *draw_caches(pick, how)), at_most, (how, parts))


class ToldJustSo(unittest.TestCase):
    def test_steps_of_at_most_one_byte(self):
        pick = random.Random(64)
        for turn in range(500):
            how = draw_how(pick)
            parts = steps_alone(pick, how)
            self.assertEqual(most(row(*parts), **how)[1], longest_from_empty(how, parts), (how, parts))

    def test_a_part_used_at_many_places(self):
        pick = random.Random(65)
        for turn in range(30):
            how = draw_how(pick)
            parts = steps_alone(pick, how)[:1]
            parts += [[0, 4 * pick.randrange(20), 1, byte, byte] for byte in (0, 4, 8)]
            parts += [behind(0, 1), behind(2, 3), behind(4, 5), behind(6, 6), behind(7, 4), behind(8, 7), behind(9, 9)]
            parts += [behind(10, 10), behind(11, 6)]
            self.assertEqual(most(row(*parts), **how)[1], longest_from_empty(how, parts), (how, parts))


class ToldNoLonger(unittest.TestCase):
    def drawn(self, seed):
        pick = random.Random(seed)
        for turn in range(300):
            how = draw_how(pick)
            yield pick, how, draw_program(pick, how, 25, widest=4)

    def test_more_ways(self):
        shorter = 0
        for pick, how, parts in self.drawn(66):
            for name in ("codeWays", "dataWays"):
                told = [most(row(*parts), **dict(how, **{name: ways}))[1] for ways in range(1, 9)]
                self.assertEqual(told, sorted(told, reverse=True), (how, parts, name))
                shorter += told[0] > told[-1]
        self.assertGreater(shorter, 60)

    def test_shorter_misses(self):
        for pick, how, parts in self.drawn(67):
            for name in ("codeMiss", "dataMiss"):
                told = [most(row(*parts), **dict(how, **{name: miss}))[1] for miss in (0, 1, 2, 9, 1000, 65535)]
                self.assertEqual(told, sorted(told), (how, parts, name))


if __name__ == "__main__":
    unittest.main()
