"""The calls as they are called: names, answers, what they leave as it was, and how long they take."""

import contextlib
import inspect
import io
import time
import unittest

from hows import NAMES, RIGHT, TOP, USUAL, WRONG, ask, behind, either, loop, most, row, step
from longestrun.desk import tt_most, tt_right

GOOD = row(step(0, 1, 0, 63), step(4), either(0, 1), loop(2, 9), behind(3, 0))
BAD = row(step(0, 1, 0, 63), step(4), either(0, 1), loop(2, 9), behind(5, 0))
# The first time both miss; each of nine times one of the bytes does.
GOOD_MOST = [0, 31 + 8 * 21 + 31]
CALLS = ((tt_right, RIGHT), (tt_most, GOOD_MOST))
ASKS = ((ask, RIGHT), (most, GOOD_MOST))
MOMENTS = 1


class Untouchable(list):
    """A list that can't be changed, not for a while either."""

    def refuse(self, *given, **named):
        raise RuntimeError("what is handed in was changed")

    append = extend = insert = pop = remove = clear = sort = reverse = refuse
    __setitem__ = __delitem__ = __iadd__ = __imul__ = refuse


class Interface(unittest.TestCase):
    def test_names_in_their_order(self):
        for call, good in CALLS:
            self.assertEqual(list(inspect.signature(call).parameters), NAMES + ["part"])

    def test_called_by_name(self):
        for call, good in CALLS:
            self.assertEqual(call(part=GOOD, **USUAL), good)
            self.assertEqual(call(part=BAD, **USUAL), WRONG)

    def test_the_answer_is_a_list_of_two_whole_numbers(self):
        for call, good in ASKS:
            for part in (GOOD, BAD, [], row(step(), loop(0, 0))):
                answer = call(part)
                self.assertIs(type(answer), list)
                self.assertEqual([type(number) for number in answer], [int, int])

    def test_nothing_is_printed(self):
        out, err = io.StringIO(), io.StringIO()
        with contextlib.redirect_stdout(out), contextlib.redirect_stderr(err):
            for call, good in ASKS:
                call(GOOD)
                call(BAD)
        self.assertEqual((out.getvalue(), err.getvalue()), ("", ""))


class LeftAsItWas(unittest.TestCase):
    def test_the_list_is_the_same_afterwards(self):
        for call, good in ASKS:
            for part in (GOOD, BAD, [], step() * 80, [TOP] * 400):
                handed = list(part)
                call(handed)
                self.assertEqual(handed, part)

    def test_the_list_is_never_changed(self):
        for call, good in ASKS:
            self.assertEqual(call(Untouchable(GOOD)), good)
            self.assertEqual(call(Untouchable(BAD)), WRONG)
            self.assertEqual(call(Untouchable(step() * 80)), WRONG)

    def test_twice_the_same(self):
        for call, good in ASKS:
            for part, answer in ((GOOD, good), (BAD, WRONG), (GOOD, good), ([], WRONG), (GOOD, good)):
                self.assertEqual(call(part), answer)
                self.assertEqual(call(part), answer)

    def test_nothing_is_kept_between_hows_that_differ(self):
        # The same parts at once with other caches, and other parts with the same caches.
        part = row(step(0, 1, 0, 0), step(16, 1, 16, 16), behind(0, 1), loop(2, 2))
        for turn in range(2):
            self.assertEqual(most(part, codeSets=1, codeWays=1, dataLine=4), [0, 4 + 4 * 10 + 2 * 20])
            self.assertEqual(most(part, codeSets=1, codeWays=2, dataLine=4), [0, 4 + 2 * 10 + 2 * 20])
            self.assertEqual(most(part, codeSets=1, codeWays=1), [0, 4 + 4 * 10 + 20])
            self.assertEqual(most(part[:10] + behind(1, 0) + part[15:], codeMiss=0, dataMiss=0), [0, 4])
            self.assertEqual(most(step(b=3) + part[5:], codeSets=1, codeWays=1), [0, 8 + 4 * 10 + 20])

    def test_an_answer_is_its_own_list(self):
        for call, good in ASKS:
            first = call(GOOD)
            first.append(7)
            first[1] = 5
            self.assertEqual(call(GOOD), good)
            other = call(BAD)
            other.clear()
            self.assertEqual(call(BAD), WRONG)


def slow_loops():
    """Seven loops in one another, each with a set of data of its own that settles step by step."""
    parts = [step(0, 1, 6400, 6407), loop(0, 2)]
    for turn in range(6):
        last = len(parts) - 1
        parts += [step(0, 1, 448 + 8 * turn, 448 + 8 * turn), behind(last + 1, last),
                  step(0, 1, 6408 + 8 * turn, 6415 + 8 * turn), behind(last + 2, last + 3), loop(last + 4, 2)]
    return row(*parts)


class Largest(unittest.TestCase):
    def within_moments(self, answer, part, **changed):
        """The answer of tt_right is told; tt_most gives what isn't looked at here, or the same refusal."""
        start = time.perf_counter()
        self.assertEqual(ask(part, **changed), answer)
        self.assertEqual(min(0, most(part, **changed)[1]), answer[1])
        self.assertLess(time.perf_counter() - start, MOMENTS)

    def in_all_caches(self, part):
        for sets in (1, 2, 16):
            for ways in (1, 2, 8):
                self.within_moments(RIGHT, part, codeSets=sets, codeWays=ways, dataSets=sets, dataWays=ways)

    def test_all_numbers_the_largest(self):
        for count in (1, 64, 80):
            part = [TOP] * (5 * count)
            self.within_moments(WRONG, part)
            self.within_moments(WRONG, part, **{name: TOP for name in NAMES})
            for name in NAMES:
                self.within_moments(WRONG, part, **{name: TOP})

    def test_steps_with_the_largest_numbers(self):
        self.within_moments(RIGHT, step(TOP, 65535, TOP, TOP) * 64)
        self.within_moments(WRONG, step(TOP, TOP, TOP, TOP) * 64)
        self.within_moments(WRONG, step(TOP, 65535, TOP, TOP) * 80)

    def test_a_data_line_that_is_no_line(self):
        self.within_moments(WRONG, step(TOP, 65535, TOP - 1048575, TOP) * 64, dataLine=TOP)

    def test_64_parts_that_double_each(self):
        for make in (behind, either):
            self.within_moments(WRONG, row(step(), *[make(k, k) for k in range(63)]))
            self.within_moments(RIGHT, row(step(), *[make(k, k) for k in range(62)], step()))

    def test_63_loops_in_one_another(self):
        self.within_moments(WRONG, row(step(), *[loop(k, 4096) for k in range(63)]))
        self.within_moments(RIGHT, row(step(), *[loop(k, 4096) for k in range(62)], step()))

    def test_size_1023_of_steps_with_64_lines(self):
        for make in (behind, either, lambda a, b: loop(a, 2)):
            self.in_all_caches(row(step(0, 1, 0, 2047), *[make(k, k) for k in range(9)]))

    def test_64_parts_all_used(self):
        steps = [step(16 * k, 1, 32 * k, 32 * (k + k % 2 * 63)) for k in range(30)]
        pairs = [either(2 * k, 2 * k + 1) if k % 4 == 0 else behind(2 * k, 2 * k + 1) for k in range(29)]
        # 59 large, then 119, 239, 479, 959, and a step more.
        loops = [loop(58 + k, 100) for k in range(4)]
        self.in_all_caches(row(*steps, *pairs, *loops, behind(62, 0)))

    def test_loops_that_settle_slowly_in_one_another(self):
        self.in_all_caches(slow_loops())
        self.within_moments(RIGHT, slow_loops(), dataLine=2, dataSets=16, dataWays=8)

    def test_2_to_the_32_steps(self):
        steps = [step(16 * k, 65535, 32 * k, 32 * k + 2016) for k in range(16)]
        pairs = [behind(2 * k, 2 * k + 1) for k in range(15)]
        # 31 large, then 63, 127, 255, 511; 16 steps, 16 times 4,096 times 4,096 of them.
        loops = [loop(30, 16), loop(31, 4096), loop(32, 4096), loop(33, 1)]
        self.in_all_caches(row(*steps, *pairs, *loops))


if __name__ == "__main__":
    unittest.main()
