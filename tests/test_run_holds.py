"""What the document says that holds of tt_run beside tt_most."""

import random
import unittest

from drawn import draw_choices, draw_how, draw_program, steps_alone
from hows import behind, either, loop, most, row, run, step
from runs import longest_from_empty


def all_choices(parts, n):
    """All choices of which a run of part n is made, of a small program."""
    kind, a, b, c, d = parts[n]
    if kind == 0:
        return [[byte] for byte in range(d - c + 1)] if c <= d else [[]]
    if kind == 1:
        return [first + then for first in all_choices(parts, a) for then in all_choices(parts, b)]
    if kind == 2:
        return [[0] + one for one in all_choices(parts, a)] + [[1] + one for one in all_choices(parts, b)]
    every, so_far = [], [[]]
    for times in range(b + 1):
        every += [[times] + one for one in so_far]
        so_far = [one + more for one in so_far for more in all_choices(parts, a)]
    return every


class NoRunTakesLonger(unittest.TestCase):
    def test_many_programs_and_choices(self):
        pick = random.Random(81)
        just_so = 0
        for turn in range(600):
            how = draw_how(pick)
            parts = draw_program(pick, how, 20, largest=100)
            at_most = most(row(*parts), **how)[1]
            took = [run(row(*parts), draw_choices(pick, parts), **how)[1] for again in range(10)]
            self.assertGreaterEqual(min(took), 0, (how, parts))
            self.assertLessEqual(max(took), at_most, (how, parts))
            just_so += max(took) == at_most
        # Runs that are all far shorter would show little.
        self.assertGreater(just_so, 100)

    def test_large_programs(self):
        pick = random.Random(82)
        longest = 0
        for turn in range(300):
            how = draw_how(pick)
            parts = draw_program(pick, how, 28, often=(1, 2, 9, 50), largest=1023)
            at_most = most(row(*parts), **how)[1]
            for choices in [draw_choices(pick, parts, 1000) for again in range(3)]:
                took = run(row(*parts), choices, **how)[1]
                self.assertIn(took, range(at_most + 1), (how, parts))
                longest = max(longest, len(choices))
        self.assertGreater(longest, 1000)

    def test_all_runs_of_small_programs(self):
        pick = random.Random(83)
        small = ([step(0, 1, 0, 1), step(4, 2, 3, 4), either(0, 1), loop(2, 2), behind(3, 0)],
                 [step(0, 1, 3, 4), loop(0, 3), behind(1, 0), step(8, 7), either(2, 3)],
                 [step(0), step(4, 2), either(0, 1), loop(2, 3), loop(3, 2)],
                 [step(0, 1, 0, 5), step(4), behind(0, 1), behind(2, 0), behind(3, 2)])
        for parts in small:
            every = all_choices(parts, len(parts) - 1)
            for turn in range(10):
                how = dict(draw_how(pick), codeLine=2, dataLine=2)
                took = [run(row(*parts), choices, **how)[1] for choices in every]
                self.assertGreaterEqual(min(took), 0, (how, parts))
                self.assertEqual(max(took), longest_from_empty(how, parts), (how, parts))
                self.assertLessEqual(max(took), most(row(*parts), **how)[1], (how, parts))


class ToldJustSo(unittest.TestCase):
    def just_so(self, how, parts, choices):
        took = run(row(*parts), choices, **how)
        self.assertGreaterEqual(took[1], 0, (how, parts))
        self.assertEqual(took, most(row(*parts), **how), (how, parts))

    def test_steps_of_at_most_one_byte(self):
        pick = random.Random(84)
        for turn in range(1000):
            how = draw_how(pick)
            parts = steps_alone(pick, how)
            self.just_so(how, parts, [0 for kind, a, b, c, d in parts if kind == 0 and c <= d])

    def test_a_part_used_at_many_places(self):
        pick = random.Random(85)
        for turn in range(100):
            how = draw_how(pick)
            steps = [step(4 * pick.randrange(20), pick.randrange(9), *pick.choice(((1, 0), (0, 0), (4, 4), (80, 80))))
                     for which in range(4)]
            parts = steps + [behind(0, 1), behind(2, 3), behind(4, 5), behind(6, 6), behind(7, 4), behind(8, 7),
                             behind(9, 9), behind(10, 10), behind(11, 6)]
            self.just_so(how, parts, draw_choices(pick, parts))

    def test_512_steps(self):
        pick = random.Random(86)
        for sets in (1, 16):
            for ways in (1, 8):
                how = dict(draw_how(pick), codeSets=sets, codeWays=ways, dataSets=sets, dataWays=ways)
                steps = [step(16 * k, 1, 40 * k, 40 * k) for k in range(16)]
                pairs = [behind(2 * k, 2 * k + 1) for k in range(15)]
                # 16 steps at place 30, doubled five times.
                parts = steps + pairs + [behind(30 + k, 30 + k) for k in range(5)]
                self.just_so(how, parts, [0] * 512)


if __name__ == "__main__":
    unittest.main()
