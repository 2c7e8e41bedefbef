"""tt_right as it is called: its names, its answer, what it leaves as it was, and how long it takes."""

import contextlib
import inspect
import io
import time
import unittest

from hows import NAMES, RIGHT, TOP, USUAL, WRONG, ask, behind, either, loop, row, step
from longestrun.desk import tt_right

GOOD = row(step(0, 1, 0, 63), step(4), either(0, 1), loop(2, 9), behind(3, 0))
BAD = row(step(0, 1, 0, 63), step(4), either(0, 1), loop(2, 9), behind(5, 0))
MOMENTS = 1


class Untouchable(list):
    """A list that can't be changed, not for a while either."""

    def refuse(self, *given, **named):
        raise RuntimeError("what is handed in was changed")

    append = extend = insert = pop = remove = clear = sort = reverse = refuse
    __setitem__ = __delitem__ = __iadd__ = __imul__ = refuse


class Interface(unittest.TestCase):
    def test_names_in_their_order(self):
        self.assertEqual(list(inspect.signature(tt_right).parameters), NAMES + ["part"])

    def test_called_by_name(self):
        self.assertEqual(tt_right(part=GOOD, **USUAL), RIGHT)
        self.assertEqual(tt_right(part=BAD, **USUAL), WRONG)

    def test_the_answer_is_a_list_of_two_whole_numbers(self):
        for part in (GOOD, BAD, []):
            answer = ask(part)
            self.assertIs(type(answer), list)
            self.assertEqual([type(number) for number in answer], [int, int])

    def test_nothing_is_printed(self):
        out, err = io.StringIO(), io.StringIO()
        with contextlib.redirect_stdout(out), contextlib.redirect_stderr(err):
            ask(GOOD)
            ask(BAD)
        self.assertEqual((out.getvalue(), err.getvalue()), ("", ""))


class LeftAsItWas(unittest.TestCase):
    def test_the_list_is_the_same_afterwards(self):
        for part in (GOOD, BAD, [], step() * 80, [TOP] * 400):
            handed = list(part)
            ask(handed)
            self.assertEqual(handed, part)

    def test_the_list_is_never_changed(self):
        self.assertEqual(ask(Untouchable(GOOD)), RIGHT)
        self.assertEqual(ask(Untouchable(BAD)), WRONG)
        self.assertEqual(ask(Untouchable(step() * 80)), WRONG)

    def test_twice_the_same(self):
        for part, answer in ((GOOD, RIGHT), (BAD, WRONG), (GOOD, RIGHT), ([], WRONG), (GOOD, RIGHT)):
            self.assertEqual(ask(part), answer)
            self.assertEqual(ask(part), answer)

    def test_an_answer_is_its_own_list(self):
        first = ask(GOOD)
        first.append(7)
        first[1] = 5
        self.assertEqual(ask(GOOD), RIGHT)
        other = ask(BAD)
        other.clear()
        self.assertEqual(ask(BAD), WRONG)


class Largest(unittest.TestCase):
    def within_moments(self, answer, part, **changed):
        start = time.perf_counter()
        self.assertEqual(ask(part, **changed), answer)
        self.assertLess(time.perf_counter() - start, MOMENTS)

    def test_all_numbers_the_largest(self):
        for count in (1, 64, 80):
            part = [TOP] * (5 * count)
            self.within_moments(WRONG, part)
            self.within_moments(WRONG, part, **{name: TOP for name in NAMES})
            for name in NAMES:
                self.within_moments(WRONG, part, **{name: TOP})

    def test_steps_with_the_largest_numbers(self):
        self.within_moments(RIGHT, step(TOP, 65535, TOP, TOP) * 64)
        self.within_moments(WRONG, step(TOP, TOP, TOP, TOP) * 64)
        self.within_moments(WRONG, step(TOP, 65535, TOP, TOP) * 80)

    def test_a_data_line_that_is_no_line(self):
        self.within_moments(WRONG, step(TOP, 65535, TOP - 1048575, TOP) * 64, dataLine=TOP)

    def test_64_parts_that_double_each(self):
        for make in (behind, either):
            self.within_moments(WRONG, row(step(), *[make(k, k) for k in range(63)]))
            self.within_moments(RIGHT, row(step(), *[make(k, k) for k in range(62)], step()))

    def test_63_loops_in_one_another(self):
        self.within_moments(WRONG, row(step(), *[loop(k, 4096) for k in range(63)]))
        self.within_moments(RIGHT, row(step(), *[loop(k, 4096) for k in range(62)], step()))


if __name__ == "__main__":
    unittest.main()
