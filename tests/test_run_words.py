"""tt_run beside the document's words, written down once more in chosen.py, over many programs and choices."""

import random
import unittest

from chosen import answered, steps_made
from drawn import draw_choices, draw_how, draw_program, draw_step, spoil
from hows import behind, either, loop, row, run, step


class BesideTheWords(unittest.TestCase):
    def beside(self, seed, turns, enough=100, **drawn):
        """Of each program a run that is right, and three whose choices were spoilt."""
        pick = random.Random(seed)
        answers, refused = {}, 0
        for turn in range(turns):
            how = draw_how(pick)
            parts = draw_program(pick, how, **drawn)
            right = draw_choices(pick, parts, enough)
            for choices in (right, spoil(pick, right), spoil(pick, right), spoil(pick, right)):
                answer = answered(how, parts, choices)
                self.assertEqual(run(row(*parts), choices, **how), answer, (how, parts, choices))
                refused += answer == [0, -2]
                answers[answer[1]] = True
        # Runs of which most answer the same would show little.
        self.assertGreater(len(answers), turns // 2)
        self.assertGreater(refused, turns)
        self.assertLess(refused, 3 * turns)

    def test_small_programs(self):
        self.beside(71, 3000, others=8, largest=40)

    def test_larger_programs(self):
        self.beside(72, 1500, others=40, largest=150)

    def test_data_in_many_lines(self):
        self.beside(73, 500, others=30, widest=60)

    def test_the_largest_programs(self):
        self.beside(74, 200, enough=2000, others=55, widest=20, often=(0, 1, 2, 9, 50), largest=1023)


def draw_tail(pick, how):
    """Parts to be run behind many steps: some take choices, some don't, and some are made of both."""
    parts = [draw_step(pick, how, 2), step(4), step(8, 1, 0, 5), loop(1, 3), either(0, 1), loop(2, 3)]
    for turn in range(pick.randrange(8)):
        a, b = pick.randrange(len(parts)), pick.randrange(len(parts))
        parts.append(pick.choice((behind(a, b), behind(a, b), behind(b, a), either(a, b), loop(a, 3))))
    return parts


def moved(parts, by):
    """Parts that name parts, which are so many places further on."""
    return [[kind, a + by * (kind > 0), b + by * (kind in (1, 2)), c, d] for kind, a, b, c, d in parts]


def count_steps(parts, choices):
    return len(steps_made(parts, len(parts) - 1, list(reversed(choices))))


def draw_long(pick, how):
    """A program, and the choices of a run of it that makes 65,536 steps, or one or two more or less."""
    first, last = draw_tail(pick, how), draw_tail(pick, how)
    for_first, for_last = draw_choices(pick, first), draw_choices(pick, last)
    others = count_steps(first, for_first) + count_steps(last, for_last)
    choices = for_first + [16] + [4096] * 15 + [4096 - others + min(others, pick.randint(-2, 2))] + for_last
    n = len(first)
    parts = first + [step(12), loop(n, 4096), loop(n + 1, 16), behind(n - 1, n + 2)] + moved(last, n + 4)
    return parts + [behind(n + 3, len(parts) - 1)], choices


class ManySteps(unittest.TestCase):
    def test_about_65536_steps(self):
        pick = random.Random(75)
        seen = {-2: 0, -28: 0, 0: 0}
        for turn in range(40):
            how = draw_how(pick)
            parts, right = draw_long(pick, how)
            for choices in (right, spoil(pick, right)):
                answer = answered(how, parts, choices)
                self.assertEqual(run(row(*parts), choices, **how), answer, (how, parts, choices))
                seen[min(0, answer[1])] += 1
        self.assertGreater(min(seen.values()), 8, seen)

    def test_far_more_steps(self):
        pick = random.Random(76)
        seen = {-2: 0, -28: 0}
        for turn in range(20):
            how = draw_how(pick)
            tail = draw_tail(pick, how)
            n = len(tail)
            # Many steps, and then a loop of what takes choices and what takes none.
            parts = tail + [step(12), loop(n, 4096), loop(n + 1, 17), behind(n, n - 1), behind(n + 3, n)]
            parts += [loop(n + 4, 40), behind(n + 2, n + 5)]
            times = pick.randrange(41)
            right = [17] + [4096] * 17 + [times]
            for again in range(times):
                right += draw_choices(pick, tail, 10)
            for choices in (right, spoil(pick, right), right + [0], right[:-1], right[:17] + [4097] + right[18:]):
                answer = answered(how, parts, choices)
                self.assertEqual(run(row(*parts), choices, **how), answer, (how, parts, choices))
                seen[answer[1]] += 1
        self.assertGreater(min(seen.values()), 20, seen)


if __name__ == "__main__":
    unittest.main()
