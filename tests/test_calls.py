"""The calls as they are called: names, answers, what they leave as it was, and how long they take."""

import contextlib
import inspect
import io
import random
import time
import unittest

from drawn import draw_choices
from hows import (NAMES, NO_CHOICE, RIGHT, TOO_MANY, TOP, USUAL, WRONG, ask, behind, either, loop, most, numbers, row,
                  run, step)
from longestrun.desk import tt_most, tt_right, tt_run

GOOD = row(step(0, 1, 0, 63), step(4), either(0, 1), loop(2, 9), behind(3, 0))
BAD = row(step(0, 1, 0, 63), step(4), either(0, 1), loop(2, 9), behind(5, 0))
# The first time both miss; each of nine times one of the bytes does.
GOOD_MOST = [0, 31 + 8 * 21 + 31]
# Three times: byte 63, where both miss; no byte; byte 0, where the data miss. Then byte 32, near 63.
CHOICE = [3, 0, 63, 1, 0, 0, 32]
GOOD_RUN = [0, 31 + 1 + 21 + 1]
CALLS = ((tt_right, {}, RIGHT), (tt_most, {}, GOOD_MOST), (tt_run, {"choice": CHOICE}, GOOD_RUN))
ASKS = ((ask, RIGHT), (most, GOOD_MOST), (lambda part: run(part, CHOICE), GOOD_RUN))
# 65,537 steps.
MANY = (row(step(), loop(0, 4096), loop(1, 16), behind(2, 0)), [16] + [4096] * 16)
MOMENTS = 1


class Untouchable(list):
    """A list that can't be changed, not for a while either."""

    def refuse(self, *given, **named):
        raise RuntimeError("what is handed in was changed")

    append = extend = insert = pop = remove = clear = sort = reverse = refuse
    __setitem__ = __delitem__ = __iadd__ = __imul__ = refuse


class Interface(unittest.TestCase):
    def test_names_in_their_order(self):
        for call, more, good in CALLS:
            self.assertEqual(list(inspect.signature(call).parameters), NAMES + ["part"] + list(more))

    def test_called_by_name(self):
        for call, more, good in CALLS:
            self.assertEqual(call(part=GOOD, **USUAL, **more), good)
            self.assertEqual(call(part=BAD, **USUAL, **more), WRONG)

    def test_called_in_order(self):
        for call, more, good in CALLS:
            self.assertEqual(call(*numbers({}), GOOD, *more.values()), good)

    def test_the_answer_is_a_list_of_two_whole_numbers(self):
        for call, good in ASKS:
            for part in (GOOD, BAD, [], row(step(), loop(0, 0))):
                answer = call(part)
                self.assertIs(type(answer), list)
                self.assertEqual([type(number) for number in answer], [int, int])
                self.assertEqual(answer[0], 0)

    def test_the_answer_of_a_run_whatever_the_choices(self):
        for part, choice in ((GOOD, CHOICE), (GOOD, []), (GOOD, [10]), (BAD, []), (row(step(b=0)), []), MANY):
            answer = run(part, choice)
            self.assertIs(type(answer), list)
            self.assertEqual([type(number) for number in answer], [int, int])
            self.assertEqual(answer[0], 0)

    def test_nothing_is_printed(self):
        out, err = io.StringIO(), io.StringIO()
        with contextlib.redirect_stdout(out), contextlib.redirect_stderr(err):
            for call, good in ASKS:
                call(GOOD)
                call(BAD)
            run(GOOD, [])
            run(*MANY)
        self.assertEqual((out.getvalue(), err.getvalue()), ("", ""))


class LeftAsItWas(unittest.TestCase):
    def test_the_list_is_the_same_afterwards(self):
        for call, good in ASKS:
            for part in (GOOD, BAD, [], step() * 80, [TOP] * 400):
                handed = list(part)
                call(handed)
                self.assertEqual(handed, part)

    def test_the_list_is_never_changed(self):
        for call, good in ASKS:
            self.assertEqual(call(Untouchable(GOOD)), good)
            self.assertEqual(call(Untouchable(BAD)), WRONG)
            self.assertEqual(call(Untouchable(step() * 80)), WRONG)

    def test_the_choices_are_the_same_afterwards(self):
        for part, choice in ((GOOD, CHOICE), (GOOD, CHOICE[:-1]), (GOOD, CHOICE + [1]), (GOOD, [9, 2]), (GOOD, []),
                             (BAD, CHOICE), MANY, (GOOD, [TOP] * 30000)):
            handed, parts = list(choice), list(part)
            run(parts, handed)
            self.assertEqual((parts, handed), (part, choice))

    def test_the_choices_are_never_changed(self):
        for choice, answer in ((CHOICE, GOOD_RUN), (CHOICE[:-1], NO_CHOICE), (CHOICE + [1], NO_CHOICE),
                               ([TOP] * 30000, NO_CHOICE)):
            self.assertEqual(run(Untouchable(GOOD), Untouchable(choice)), answer)
        self.assertEqual(run(Untouchable(BAD), Untouchable(CHOICE)), WRONG)
        self.assertEqual(run(Untouchable(MANY[0]), Untouchable(MANY[1])), TOO_MANY)

    def test_runs_twice_the_same(self):
        asked = ((GOOD, CHOICE, GOOD_RUN), (GOOD, CHOICE[:-1], NO_CHOICE), (BAD, CHOICE, WRONG), (*MANY, TOO_MANY),
                 (GOOD, [0, 5], [0, 31]), (GOOD, CHOICE, GOOD_RUN))
        for part, choice, answer in asked:
            self.assertEqual(run(part, choice), answer)
            self.assertEqual(run(part, choice), answer)

    def test_each_run_is_from_empty_caches(self):
        for turn in range(3):
            self.assertEqual(run(row(step(0, 1, 0, 0)), [0]), [0, 31])
            self.assertEqual(run(row(step(0, 1, 0, 0)), []), NO_CHOICE)
            self.assertEqual(run(row(step(0, 1, 0, 0)), [0], codeMiss=1), [0, 22])

    def test_twice_the_same(self):
        for call, good in ASKS:
            for part, answer in ((GOOD, good), (BAD, WRONG), (GOOD, good), ([], WRONG), (GOOD, good)):
                self.assertEqual(call(part), answer)
                self.assertEqual(call(part), answer)

    def test_nothing_is_kept_between_hows_that_differ(self):
        # The same parts at once with other caches, and other parts with the same caches.
        part = row(step(0, 1, 0, 0), step(16, 1, 16, 16), behind(0, 1), loop(2, 2))
        for turn in range(2):
            self.assertEqual(most(part, codeSets=1, codeWays=1, dataLine=4), [0, 4 + 4 * 10 + 2 * 20])
            self.assertEqual(most(part, codeSets=1, codeWays=2, dataLine=4), [0, 4 + 2 * 10 + 2 * 20])
            self.assertEqual(most(part, codeSets=1, codeWays=1), [0, 4 + 4 * 10 + 20])
            self.assertEqual(most(part[:10] + behind(1, 0) + part[15:], codeMiss=0, dataMiss=0), [0, 4])
            self.assertEqual(most(step(b=3) + part[5:], codeSets=1, codeWays=1), [0, 8 + 4 * 10 + 20])

    def test_an_answer_is_its_own_list(self):
        for call, good in ASKS:
            first = call(GOOD)
            first.append(7)
            first[1] = 5
            self.assertEqual(call(GOOD), good)
            other = call(BAD)
            other.clear()
            self.assertEqual(call(BAD), WRONG)


def slow_loops():
    """Seven loops in one another, each with a set of data of its own that settles step by step."""
    parts = [step(0, 1, 6400, 6407), loop(0, 2)]
    for turn in range(6):
        last = len(parts) - 1
        parts += [step(0, 1, 448 + 8 * turn, 448 + 8 * turn), behind(last + 1, last),
                  step(0, 1, 6408 + 8 * turn, 6415 + 8 * turn), behind(last + 2, last + 3), loop(last + 4, 2)]
    return row(*parts)


class Largest(unittest.TestCase):
    def within_moments(self, answer, part, **changed):
        """The answer of tt_right is told; the others give what isn't looked at here, or the same refusal."""
        start = time.process_time()
        self.assertEqual(ask(part, **changed), answer)
        self.assertEqual(min(0, most(part, **changed)[1]), answer[1])
        self.assertLess(time.process_time() - start, MOMENTS)
        for choice in ([], [0] * 30000, [1] * 30000, [TOP] * 30000):
            start = time.process_time()
            self.assertEqual(run(part, choice, **changed)[1] == -22, answer == WRONG)
            self.assertLess(time.process_time() - start, MOMENTS)

    def in_all_caches(self, part):
        for sets in (1, 2, 16):
            for ways in (1, 2, 8):
                self.within_moments(RIGHT, part, codeSets=sets, codeWays=ways, dataSets=sets, dataWays=ways)

    def test_all_numbers_the_largest(self):
        for count in (1, 64, 80):
            part = [TOP] * (5 * count)
            self.within_moments(WRONG, part)
            self.within_moments(WRONG, part, **{name: TOP for name in NAMES})
            for name in NAMES:
                self.within_moments(WRONG, part, **{name: TOP})

    def test_steps_with_the_largest_numbers(self):
        self.within_moments(RIGHT, step(TOP, 65535, TOP, TOP) * 64)
        self.within_moments(WRONG, step(TOP, TOP, TOP, TOP) * 64)
        self.within_moments(WRONG, step(TOP, 65535, TOP, TOP) * 80)

    def test_a_data_line_that_is_no_line(self):
        self.within_moments(WRONG, step(TOP, 65535, TOP - 1048575, TOP) * 64, dataLine=TOP)

    def test_64_parts_that_double_each(self):
        for make in (behind, either):
            self.within_moments(WRONG, row(step(), *[make(k, k) for k in range(63)]))
            self.within_moments(RIGHT, row(step(), *[make(k, k) for k in range(62)], step()))

    def test_63_loops_in_one_another(self):
        self.within_moments(WRONG, row(step(), *[loop(k, 4096) for k in range(63)]))
        self.within_moments(RIGHT, row(step(), *[loop(k, 4096) for k in range(62)], step()))

    def test_size_1023_of_steps_with_64_lines(self):
        for make in (behind, either, lambda a, b: loop(a, 2)):
            self.in_all_caches(row(step(0, 1, 0, 2047), *[make(k, k) for k in range(9)]))

    def test_64_parts_all_used(self):
        steps = [step(16 * k, 1, 32 * k, 32 * (k + k % 2 * 63)) for k in range(30)]
        pairs = [either(2 * k, 2 * k + 1) if k % 4 == 0 else behind(2 * k, 2 * k + 1) for k in range(29)]
        # 59 large, then 119, 239, 479, 959, and a step more.
        loops = [loop(58 + k, 100) for k in range(4)]
        self.in_all_caches(row(*steps, *pairs, *loops, behind(62, 0)))

    def test_loops_that_settle_slowly_in_one_another(self):
        self.in_all_caches(slow_loops())
        self.within_moments(RIGHT, slow_loops(), dataLine=2, dataSets=16, dataWays=8)

    def test_2_to_the_32_steps(self):
        steps = [step(16 * k, 65535, 32 * k, 32 * k + 2016) for k in range(16)]
        pairs = [behind(2 * k, 2 * k + 1) for k in range(15)]
        # 31 large, then 63, 127, 255, 511; 16 steps, 16 times 4,096 times 4,096 of them.
        loops = [loop(30, 16), loop(31, 4096), loop(32, 4096), loop(33, 1)]
        self.in_all_caches(row(*steps, *pairs, *loops))


def spine(body, depth):
    """Parts whose last is what the last of body does, with a step ahead of it or behind it, so many times over."""
    parts = list(body)
    for turn in range(depth):
        last = len(parts) - 1
        parts.append(behind(last, 0) if turn % 2 else behind(0, last))
    return parts


def nested(times):
    """The choices of loops in one another, from the outermost on, each gone through so often each time."""
    choice = []
    for often in reversed(times):
        choice = [often] + choice * often
    return choice


class LargestRuns(unittest.TestCase):
    """Runs with very many choices or steps, each answered alike in all caches."""

    def within_moments(self, answer, part, choice):
        self.assertLessEqual(len(choice), 30000)
        for sets, ways in ((1, 1), (1, 8), (16, 1), (16, 8)):
            start = time.process_time()
            told = run(part, choice, codeSets=sets, codeWays=ways, dataSets=sets, dataWays=ways)
            self.assertLess(time.process_time() - start, MOMENTS)
            self.assertEqual(min(told, [0, 0]), answer)

    def both(self, part, choice):
        """The choices are right, and make too many steps; with the last one wanting or wrong they aren't."""
        self.within_moments(TOO_MANY, part, choice)
        self.within_moments(NO_CHOICE, part, choice[:-1])
        self.within_moments(NO_CHOICE, part, choice[:-1] + [TOP])

    def test_65536_steps_of_one_choice(self):
        part = row(step(), *[behind(k, k) for k in range(8)], loop(8, 4096))
        self.within_moments(RIGHT, part, [256])
        self.both(part, [257])
        self.both(part, [4096])

    def test_loops_of_steps_without_choices(self):
        # 32 steps 256 times, 4,096 times, 7 times: some two hundred million.
        part = row(step(), *[behind(k, k) for k in range(5)], loop(5, 256), loop(6, 4096), loop(7, 128))
        self.both(part, [7] + ([4096] + [256] * 4096) * 7)

    def test_2_to_the_32_steps(self):
        part = row(step(), loop(0, 4096), loop(1, 4096), loop(2, 256))
        self.within_moments(NO_CHOICE, part, [256] + [4096] * 29999)
        self.both(part, [7] + [4096] * (7 + 7 * 4096))

    def test_loops_whose_body_makes_no_step(self):
        part = row(step(), loop(0, 0), loop(1, 4096), loop(2, 4096))
        self.within_moments(RIGHT, part, [7] + ([4096] + [0] * 4096) * 7)
        self.within_moments(NO_CHOICE, part, [4096] + [4096] + [0] * 29998)
        self.within_moments(NO_CHOICE, part, [4096] * 30000)
        self.within_moments(NO_CHOICE, part, [7] + ([4096] + [0] * 4096) * 6 + [4096] + [0] * 4095 + [1])

    def test_choices_far_within_steps_without_any(self):
        for body in ([step(), loop(0, 0)], [step(), step(4, 1, 0, 255)], [step(), either(0, 0)]):
            parts = spine(body, 26)
            last = len(parts) - 1
            part = row(*parts, loop(last, 4096), loop(last + 1, 9))
            self.both(part, [7] + ([4096] + [0] * 4096) * 7)

    def test_a_choice_among_128_steps_each_time(self):
        # 1, 2, 4, .. 64 steps at the places 0 to 6; a step with a byte, and all of them ahead of it.
        parts = [step(), *[behind(k, k) for k in range(6)], step(4, 1, 0, 31), *[behind(k, k + 7) for k in range(7)]]
        part = row(*parts, loop(14, 4096), loop(15, 7))
        self.both(part, [7] + ([4096] + [31] * 4096) * 7)

    def test_30000_steps_with_a_byte(self):
        part = row(step(0, 65535, 0, 2047), loop(0, 4096), loop(1, 8))
        choice = [8] + ([4096] + [k * 32 % 2048 for k in range(4096)]) * 7 + [1319] + list(range(1319))
        self.assertEqual(len(choice), 30000)
        self.within_moments(RIGHT, part, choice)
        self.within_moments(NO_CHOICE, part, choice[:-1] + [2048])

    def test_size_1023(self):
        pick = random.Random(91)
        for make in (behind, either):
            parts = [step(0, 1, 0, 2047), *[make(k, k) for k in range(8)], loop(8, 4096)]
            for turn in range(3):
                times = pick.randrange(100)
                each = [draw_choices(pick, parts[:-1]) for again in range(times)]
                self.within_moments(RIGHT, row(*parts), [times] + [number for one in each for number in one])

    def test_nine_loops_in_one_another(self):
        part = row(step(), *[loop(k, 9) for k in range(9)])
        self.within_moments(RIGHT, part, [1] * 9)
        self.within_moments(NO_CHOICE, part, [9] * 30000)
        # Nine times five times over is 59,049 steps.
        self.within_moments(RIGHT, part, nested([1, 1, 1, 1, 9, 9, 9, 9, 9]))
        self.both(part, nested([1, 1, 1, 2, 9, 9, 9, 9, 9]))

    def test_32_deep_and_64_parts(self):
        parts = [step(16 * k, 1, 32 * k, 32 * k + 2016) for k in range(32)]
        parts += [behind(0, 1)] + [either(k + 30, k) if k % 3 else behind(k + 30, k) for k in range(2, 31)]
        # The last of these is 31 deep.
        parts += [step(4), loop(len(parts) - 1, 4096)]
        self.assertEqual(len(parts), 64)
        # The way down to the first part takes 19 branches, and then 12 steps with a byte each.
        each = [0] * 31
        self.within_moments(RIGHT, row(*parts), [967] + each * 967)
        self.within_moments(NO_CHOICE, row(*parts), [968] + each * 967)
        self.within_moments(NO_CHOICE, row(*parts), [967] + each * 967 + [0])


if __name__ == "__main__":
    unittest.main()
