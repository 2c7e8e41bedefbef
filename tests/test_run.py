"""tt_run: how long a run takes, worked out by hand, choice by choice."""

import unittest

from hows import (CODE, DATA, NAMES, NO_CHOICE, PLAIN, TOO_MANY, TOP, WRONG, at, behind, chain, either, loop, on, row,
                  run, step)


class Case(unittest.TestCase):
    def answers(self, answer, part, choice, changed):
        self.assertEqual(run(part, list(choice), **{**PLAIN, **changed}), answer, choice[:40])

    def took(self, long, part, *choice, **changed):
        self.answers([0, long], part, choice, changed)

    def no_choice(self, part, *choice, **changed):
        self.answers(NO_CHOICE, part, choice, changed)

    def too_many(self, part, *choice, **changed):
        self.answers(TOO_MANY, part, choice, changed)

    def just(self, long, part, *choice, **changed):
        """These choices are right, with any left out or one more they aren't."""
        self.took(long, part, *choice, **changed)
        for n in range(len(choice)):
            self.no_choice(part, *choice[:n], **changed)
        for more in (0, 1, 2, TOP):
            self.no_choice(part, *choice, more, **changed)


class NotRight(Case):
    def wrong(self, part, **changed):
        for choice in ([], [0], [1], [2], [TOP], [0] * 40, [TOP] * 30000):
            self.answers(WRONG, part, choice, changed)

    def test_a_how_that_is_not_right(self):
        for name in NAMES:
            self.wrong(row(step()), **{name: TOP})
        self.wrong(row(step()), codeLine=1)
        self.wrong(row(step()), dataSets=3)
        self.wrong(row(step()), codeWays=9)
        self.wrong(row(step()), dataMiss=65536)

    def test_parts_that_are_not_as_told(self):
        self.wrong([])
        self.wrong(step() * 65)
        self.wrong(row(step(b=65536)))
        self.wrong(row([4, 0, 0, 0, 0]))
        self.wrong(row(step(), behind(0, 1)))
        self.wrong(row(step(), either(1, 0)))
        self.wrong(row(step(), loop(1, 2)))
        self.wrong(row(step(), loop(0, 4097)))
        self.wrong(row(step(0, 1, 0, 1024)))

    def test_the_branch_that_would_not_be_gone_through(self):
        part = row(step(), step(b=65536), either(0, 1))
        self.wrong(part)

    def test_too_large_too_deep_too_many_steps(self):
        self.wrong(row(step(), *[behind(k, k) for k in range(10)]))
        self.wrong(row(step(), *[behind(k, 0) for k in range(32)]))
        self.wrong(row(step(), loop(0, 4096), loop(1, 4096), loop(2, 257)))

    def test_a_program_with_too_many_steps_at_most_where_few_would_be_made(self):
        part = row(step(), loop(0, 4096), loop(1, 4096), loop(2, 257))
        self.answers(WRONG, part, [0], {})
        self.answers(WRONG, part, [1, 1, 1], {})


class AStep(Case):
    def test_without_a_byte_no_choice_is_taken(self):
        for b in (0, 1, 7, 65535):
            self.just(b + CODE, row(at(0, b)))

    def test_without_a_byte_if_c_is_above_d(self):
        for c, d in ((1, 0), (2, 1), (TOP, 0), (TOP, TOP - 1)):
            self.just(7 + CODE, row(step(0, 7, c, d)))

    def test_with_one_byte(self):
        for byte in (0, 1, 40, TOP):
            part = row(step(0, 7, byte, byte))
            self.just(7 + CODE + DATA, part, 0)
            for choice in (1, 2, byte or 3, TOP):
                self.no_choice(part, choice)

    def test_with_several_bytes(self):
        part = row(step(0, 7, 40, 49))
        for choice in (0, 1, 5, 8, 9):
            self.just(7 + CODE + DATA, part, choice)
        for choice in (10, 11, 40, 49, 50, 4096, TOP):
            self.no_choice(part, choice)

    def test_which_of_several_bytes(self):
        # The bytes 40 to 49 are in the lines 2, up to 47, and 3.
        for choice in (0, 1, 6, 7):
            self.just(2 + CODE + DATA, chain(on(2), step(0, 1, 40, 49)), 3, choice)
            self.just(2 + CODE + 2 * DATA, chain(on(3), step(0, 1, 40, 49)), 3, choice)
        for choice in (8, 9):
            self.just(2 + CODE + 2 * DATA, chain(on(2), step(0, 1, 40, 49)), 3, choice)
            self.just(2 + CODE + DATA, chain(on(3), step(0, 1, 40, 49)), 3, choice)

    def test_only_the_byte_that_is_chosen_is_used(self):
        wide = on(0, 3)
        self.just(3 + CODE + 2 * DATA, chain(on(7), wide, on(7)), 0, 63, 0)
        self.just(3 + CODE + 2 * DATA, chain(on(7), wide, on(1)), 0, 16, 0)
        self.just(3 + CODE + 3 * DATA, chain(on(7), wide, on(1)), 0, 15, 0)
        self.just(3 + CODE + 3 * DATA, chain(on(7), wide, on(1)), 0, 32, 0)

    def test_in_64_lines(self):
        wide = step(0, 1, 0, 1023)
        self.just(2 + CODE + DATA, chain(wide, on(63)), 1023, 0)
        self.just(2 + CODE + DATA, chain(wide, on(0)), 0, 15)
        self.just(2 + CODE + 2 * DATA, chain(wide, on(0)), 1008, 15)
        self.no_choice(chain(wide, on(63)), 1024, 0)

    def test_what_a_miss_takes(self):
        part = row(step(0, 7, 0, 0))
        self.took(7, part, 0, codeMiss=0, dataMiss=0)
        self.took(8, part, 0, codeMiss=1, dataMiss=0)
        self.took(9, part, 0, codeMiss=0, dataMiss=2)
        self.took(7 + 65535, part, 0, codeMiss=65535, dataMiss=0)
        self.took(7 + 65535, part, 0, codeMiss=0, dataMiss=65535)
        self.took(3 * 65535, row(step(TOP, 65535, TOP, TOP)), 0, codeMiss=65535, dataMiss=65535)

    def test_the_last_part_is_the_program(self):
        self.just(3 + CODE, row(at(0, 1), on(1), behind(0, 1), at(2, 3)))


class HitsAndMisses(Case):
    def test_both_neither_and_either(self):
        first = step(0, 1, 0, 31)
        same, other = step(8, 2, 0, 31), step(16, 2, 0, 31)
        self.took(3 + CODE + DATA, chain(first, same), 0, 15)
        self.took(3 + CODE + 2 * DATA, chain(first, same), 0, 16)
        self.took(3 + 2 * CODE + DATA, chain(first, other), 0, 15)
        self.took(3 + 2 * CODE + 2 * DATA, chain(first, other), 0, 16)

    def test_code_and_data_are_two_caches(self):
        self.took(1 + CODE + DATA, row(step(0, 1, 0, 0)), 0)
        self.took(2 + CODE + DATA, chain(step(0), step(0, 1, 0, 0)), 0)
        self.took(4 + 2 * CODE + 2 * DATA,
                  chain(step(0, 1, 0, 0), step(16, 1, 16, 16), step(0, 1, 16, 16), step(16, 1, 0, 0)), 0, 0, 0, 0)
        # What one cache drops stays in the other.
        self.took(3 + CODE + 3 * DATA, chain(on(0), on(1), on(0)), 0, 0, 0, dataWays=1)
        self.took(3 + 3 * CODE + DATA, chain(*[step(16 * k, 1, 0, 0) for k in (0, 1, 0)]), 0, 0, 0, codeWays=1)

    def test_each_cache_is_of_its_own_kind(self):
        # Code and data at 0, 8, 16, 0.
        part = chain(*[step(byte, 1, byte, byte) for byte in (0, 8, 16, 0)])
        choice = (0, 0, 0, 0)
        self.took(4 + 2 * CODE + 2 * DATA, part, *choice)
        # Lines of 8 bytes: 0, 1, 2, 0. In one set of two places the last one misses, in two sets it doesn't.
        self.took(4 + 4 * CODE + 2 * DATA, part, *choice, codeLine=3)
        self.took(4 + 3 * CODE + 2 * DATA, part, *choice, codeLine=3, codeSets=2)
        self.took(4 + 2 * CODE + 4 * DATA, part, *choice, dataLine=3)
        self.took(4 + 2 * CODE + 3 * DATA, part, *choice, dataLine=3, dataSets=2)
        self.took(4 + 2 * CODE + 3 * DATA, part, *choice, dataLine=3, dataWays=3)
        self.took(4 + 3 * CODE + 2 * DATA, part, *choice, codeWays=1)
        self.took(4 + 2 * CODE + 3 * DATA, part, *choice, dataWays=1)

    def test_where_a_line_begins_and_ends(self):
        for line in range(2, 9):
            size = 1 << line
            code, data = {"codeLine": line}, {"dataLine": line}
            self.took(2 + CODE, chain(step(0), step(size - 1)), **code)
            self.took(2 + 2 * CODE, chain(step(size - 1), step(size)), **code)
            part = chain(step(0, 1, 0, size), step(0, 1, 0, size))
            self.took(2 + CODE + DATA, part, 0, size - 1, **data)
            self.took(2 + CODE + 2 * DATA, part, size - 1, size, **data)
            self.no_choice(part, 0, size + 1, **data)

    def test_the_last_byte_of_memory(self):
        for line in range(2, 9):
            first = TOP + 1 - (1 << line)
            code, data = {"codeLine": line}, {"dataLine": line}
            self.took(2 + CODE, chain(step(TOP), step(first)), **code)
            self.took(2 + 2 * CODE, chain(step(TOP), step(first - 1)), **code)
            part = chain(step(0, 1, TOP, TOP), step(0, 1, first - 1, TOP))
            self.took(2 + CODE + DATA, part, 0, 1, **data)
            self.took(2 + CODE + DATA, part, 0, 1 << line, **data)
            self.took(2 + CODE + 2 * DATA, part, 0, 0, **data)
            self.no_choice(part, 0, (1 << line) + 1, **data)
            self.no_choice(part, 1, 0, **data)

    def test_the_last_byte_is_in_the_last_set(self):
        # Of the last set is the line before the 16th, too; the first line of memory isn't.
        for ways, again in ((1, 3), (2, 2)):
            kind = {"Line": 4, "Sets": 16, "Ways": ways}
            code = {"code" + name: value for name, value in kind.items()}
            data = {"data" + name: value for name, value in kind.items()}
            self.took(3 + again * CODE, chain(step(TOP), step(240), step(TOP)), **code)
            self.took(3 + 2 * CODE, chain(step(TOP), step(0), step(TOP)), **code)
            self.took(3 + CODE + again * DATA,
                      chain(step(0, 1, TOP, TOP), step(0, 1, 240, 240), step(0, 1, TOP, TOP)), 0, 0, 0, **data)
            self.took(3 + CODE + 2 * DATA,
                      chain(step(0, 1, TOP, TOP), step(0, 1, 0, 0), step(0, 1, TOP, TOP)), 0, 0, 0, **data)


class OneBehindAnother(Case):
    """Steps alone, told line by line: a + for each that is a hit, else a -."""

    def step_by_step(self, hits, steps, choices, first, miss, changed):
        """The first step alone, the first two, and so on, so that it's seen which ones miss."""
        self.assertEqual(len(hits), len(steps))
        for n in range(1, len(steps) + 1):
            self.took(first + n + miss * hits[:n].count("-"), chain(*steps[:n]), *choices[:n], **changed)

    def both(self, hits, *lines, **changed):
        code = {"code" + name: value for name, value in changed.items()}
        data = {"data" + name: value for name, value in changed.items()}
        self.step_by_step(hits, [at(line) for line in lines], [], 0, CODE, code)
        self.step_by_step(hits, [on(line) for line in lines], [15] * len(lines), CODE, DATA, data)
        # Data anywhere in 64 lines: which one is used is told by the choices alone.
        low = min(lines)
        if max(lines) - low < 64:
            steps = [on(low, low + 63)] * len(lines)
            self.step_by_step(hits, steps, [16 * (line - low) + 5 for line in lines], CODE, DATA, data)

    def test_the_first_use_and_the_second(self):
        self.both("-+", 0, 0)
        self.both("-+++", 7, 7, 7, 7)
        self.both("--++", 0, 1, 0, 1)

    def test_the_line_used_longest_ago_goes(self):
        self.both("----", 0, 1, 2, 0)
        self.both("---+", 0, 1, 2, 1)
        self.both("---+", 0, 1, 2, 2)
        self.both("------", 0, 1, 2, 0, 1, 2)
        self.both("------+++", 0, 1, 2, 3, 4, 0, 2, 3, 4, Ways=4)

    def test_using_a_line_that_is_there_puts_it_first(self):
        self.both("--+-+", 0, 1, 0, 2, 0)
        self.both("--+--", 0, 1, 0, 2, 1)
        self.both("---+-++-", 0, 1, 2, 0, 3, 2, 0, 1, Ways=3)

    def test_the_others_keep_their_order(self):
        # From 3, 2, 1, 0: using 1 gives 1, 3, 2, 0; so 0 goes, then 2, then 3.
        self.both("----+--", 0, 1, 2, 3, 1, 4, 0, Ways=4)
        self.both("----+-+++", 0, 1, 2, 3, 1, 4, 2, 3, 1, Ways=4)
        self.both("----+---", 0, 1, 2, 3, 1, 4, 5, 2, Ways=4)
        self.both("----+---", 0, 1, 2, 3, 1, 4, 5, 0, Ways=4)
        self.both("----+--++", 0, 1, 2, 3, 1, 4, 5, 3, 1, Ways=4)
        self.both("----+----", 0, 1, 2, 3, 1, 4, 5, 6, 3, Ways=4)
        self.both("----+---+", 0, 1, 2, 3, 1, 4, 5, 6, 1, Ways=4)

    def test_the_first_and_the_last_used_again(self):
        self.both("---+-+", 0, 1, 2, 2, 3, 1, Ways=3)
        self.both("---+--", 0, 1, 2, 2, 3, 0, Ways=3)
        self.both("---+-+", 0, 1, 2, 0, 3, 0, Ways=3)
        self.both("---+--", 0, 1, 2, 0, 3, 1, Ways=3)

    def test_one_set_and_one_way(self):
        self.both("-+-+--", 0, 0, 1, 1, 0, 1, Ways=1)

    def test_each_number_of_ways(self):
        for ways in range(1, 9):
            fits = list(range(ways))
            self.both("-" * ways + "+" * ways, *fits, *fits, Ways=ways)
            self.both("-" * 2 * (ways + 1), *fits, ways, *fits, ways, Ways=ways)

    def test_a_line_of_another_set_puts_out_none(self):
        for sets in (2, 4, 8, 16):
            self.both("---+++", 0, sets, 1, 0, sets, 1, Sets=sets)
            self.both("---+", sets - 1, sets, 2 * sets, sets - 1, Sets=sets)
            self.both("-" * sets + "+" * sets, *range(sets), *range(sets), Sets=sets, Ways=1)

    def test_lines_of_the_same_set_do(self):
        for sets in (1, 2, 4, 8, 16):
            same = [0, sets, 3 * sets]
            self.both("------", *same, *same, Sets=sets)
            self.both("---+-", *same, sets, 0, Sets=sets)

    def test_16_sets_and_8_ways(self):
        first = [16 * k for k in range(8)]
        last = [16 * k + 15 for k in range(8)]
        self.both("-" * 8 + "+" * 8, *first, *first, Sets=16, Ways=8)
        self.both("-" * 18, *first, 128, *first, 128, Sets=16, Ways=8)
        self.both("-" * 9 + "+" * 7 + "-", *last, 143, *last[1:], 15, Sets=16, Ways=8)
        self.both("-" * 16 + "+" * 16, *first, *last, *first, *last, Sets=16, Ways=8)

    def test_16_sets_and_8_ways_full(self):
        # The lines 0 to 63, then 64 to 127, and all of them once more.
        part = row(on(0, 63), loop(0, 64), on(64, 127), loop(2, 64), behind(1, 3), loop(4, 2))
        full = {"dataSets": 16, "dataWays": 8}
        each = [64] + [16 * line for line in range(64)]
        self.took(256 + CODE + 128 * DATA, part, 2, *each, *each, *each, *each, **full)
        # One line more puts out the first of its set, which then puts out the next, and so on: all 8.
        part += on(128) + behind(4, 6) + behind(7, 4)
        self.took(257 + CODE + 137 * DATA, part, *each, *each, 0, *each, *each, **full)


class KindOne(Case):
    def test_the_first_parts_choices_come_first(self):
        part = row(step(0, 1, 0, 2), step(0, 2, 16, 25), behind(0, 1))
        self.just(3 + CODE + 2 * DATA, part, 2, 9)
        self.just(3 + CODE + 2 * DATA, part, 0, 3)
        self.no_choice(part, 3, 0)
        self.no_choice(part, 9, 2)
        other = row(step(0, 1, 0, 2), step(0, 2, 16, 25), behind(1, 0))
        self.just(3 + CODE + 2 * DATA, other, 9, 2)
        self.no_choice(other, 2, 9)

    def test_the_first_part_runs_first(self):
        # 0, then 1, then 0 in one place: if it ran the other way the last would be a hit.
        self.took(3 + 3 * CODE, row(at(0), at(1), behind(0, 1), behind(2, 0)), codeWays=1)
        self.took(3 + 2 * CODE, row(at(0), at(1), behind(0, 1), behind(2, 1)), codeWays=1)
        self.took(3 + 2 * CODE, row(at(0), at(1), behind(0, 1), behind(0, 2)), codeWays=1)

    def test_it_takes_no_choice_itself(self):
        self.just(2 + CODE, row(at(0), behind(0, 0)))
        self.just(4 + CODE, row(at(0), behind(0, 0), behind(1, 1)))

    def test_only_one_of_both_takes_choices(self):
        self.just(2 + CODE + DATA, row(at(0), on(0), behind(0, 1)), 15)
        self.just(2 + CODE + DATA, row(at(0), on(0), behind(1, 0)), 15)

    def test_within_one_another(self):
        parts = [step(0, 1, 0, last) for last in (0, 1, 2, 3)]
        left = row(*parts, behind(0, 1), behind(4, 2), behind(5, 3))
        right = row(*parts, behind(2, 3), behind(1, 4), behind(0, 5))
        pairs = row(*parts, behind(0, 1), behind(2, 3), behind(4, 5))
        for part in (left, right, pairs):
            self.just(4 + CODE + DATA, part, 0, 1, 2, 3)
            self.no_choice(part, 3, 2, 1, 0)
            self.no_choice(part, 0, 1, 3, 3)
            self.no_choice(part, 0, 2, 2, 3)
            self.no_choice(part, 1, 1, 2, 3)
            self.no_choice(part, 0, 1, 2, 4)


class KindTwo(Case):
    def test_0_and_1(self):
        part = row(at(0, 3), at(1, 50), either(0, 1))
        self.just(3 + CODE, part, 0)
        self.just(50 + CODE, part, 1)
        other = row(at(0, 3), at(1, 50), either(1, 0))
        self.just(50 + CODE, other, 0)
        self.just(3 + CODE, other, 1)

    def test_above_1(self):
        part = row(at(0, 3), at(1, 50), either(0, 1))
        for choice in (2, 3, 50, 4096, TOP):
            self.no_choice(part, choice)
            self.no_choice(part, choice, 0)

    def test_the_same_part_twice(self):
        part = row(at(0, 3), either(0, 0))
        self.just(3 + CODE, part, 0)
        self.just(3 + CODE, part, 1)
        self.no_choice(part, 2)

    def test_its_choice_is_ahead_of_its_parts(self):
        part = row(step(0, 1, 0, 9), step(0, 50, 0, 99), either(0, 1))
        self.just(1 + CODE + DATA, part, 0, 9)
        self.just(50 + CODE + DATA, part, 1, 99)
        self.no_choice(part, 0, 10)
        self.no_choice(part, 1, 100)
        self.no_choice(part, 9, 0)
        self.no_choice(part, 99, 1)

    def test_only_one_of_both_takes_choices(self):
        part = row(at(0, 3), step(0, 50, 0, 9), either(0, 1))
        self.just(3 + CODE, part, 0)
        self.just(50 + CODE + DATA, part, 1, 5)
        self.no_choice(part, 0, 5)
        self.no_choice(part, 1)

    def test_only_the_one_that_is_chosen_uses_lines(self):
        part = row(at(0), at(1), either(0, 1), behind(2, 0))
        self.just(2 + CODE, part, 0)
        self.just(2 + 2 * CODE, part, 1)
        data = row(on(0), on(1), either(0, 1), behind(2, 0))
        self.just(2 + CODE + DATA, data, 0, 0, 0)
        self.just(2 + CODE + 2 * DATA, data, 1, 0, 0)

    def test_a_branch_that_uses_another_line_of_the_same_set(self):
        part = row(at(0), at(4), at(1), either(1, 2), behind(0, 3), behind(4, 0))
        self.just(3 + 3 * CODE, part, 0, codeSets=4, codeWays=1)
        self.just(3 + 2 * CODE, part, 1, codeSets=4, codeWays=1)

    def test_within_one_another(self):
        part = row(*[at(0, 10 * k) for k in range(4)], either(0, 1), either(2, 3), either(4, 5))
        for first in (0, 1):
            for second in (0, 1):
                self.just(CODE + 20 * first + 10 * second, part, first, second)
            self.no_choice(part, first, 2)
        self.no_choice(part, 2, 0)


class KindThree(Case):
    def test_how_often(self):
        part = row(at(0, 7), loop(0, 5))
        self.just(0, part, 0)
        self.just(7 + CODE, part, 1)
        self.just(14 + CODE, part, 2)
        self.just(35 + CODE, part, 5)
        for choice in (6, 7, 10, 4096, TOP):
            self.no_choice(part, choice)

    def test_each_b(self):
        for b in (0, 1, 2, 9, 4095, 4096):
            part = row(at(0, 7), loop(0, b))
            self.just(7 * b + (CODE if b else 0), part, b)
            self.just(0, part, 0)
            self.no_choice(part, b + 1)

    def test_a_loop_of_none_takes_a_choice_too(self):
        part = row(at(0, 7), loop(0, 0))
        self.just(0, part, 0)
        self.no_choice(part, 1)
        # Its part's choices are none.
        self.just(0, row(on(0), loop(0, 0)), 0)
        self.just(7 + CODE, row(at(0, 7), loop(0, 0), behind(1, 0), behind(2, 1)), 0, 0)

    def test_none_leaves_the_caches_as_they_were(self):
        part = row(at(0), at(1), loop(1, 3), behind(0, 2), behind(3, 0))
        self.just(2 + CODE, part, 0, codeWays=1)
        self.just(3 + 3 * CODE, part, 1, codeWays=1)
        self.just(5 + 3 * CODE, part, 3, codeWays=1)

    def test_each_time_with_its_own_choices(self):
        part = row(step(0, 1, 0, 31), loop(0, 9))
        self.just(0, part, 0)
        self.just(1 + CODE + DATA, part, 1, 31)
        self.just(3 + CODE + DATA, part, 3, 31, 16, 20)
        self.just(3 + CODE + 2 * DATA, part, 3, 31, 0, 16)
        self.just(3 + CODE + 3 * DATA, part, 3, 31, 0, 16, dataWays=1)
        self.just(9 + CODE + DATA, part, 9, *range(9))
        self.no_choice(part, 3, 31, 32, 0)
        self.no_choice(part, 3, 31, 0, 32)
        self.no_choice(part, 10, *range(10))

    def test_its_choice_is_ahead_of_its_parts(self):
        part = row(step(0, 1, 0, 31), loop(0, 2))
        self.just(1 + CODE + DATA, part, 1, 2)
        self.no_choice(part, 31, 1)

    def test_a_body_whose_lines_just_fit(self):
        for ways in range(1, 9):
            body = chain(*[at(k) for k in range(ways)])
            fits = body + loop(len(body) // 5 - 1, 10)
            self.just(10 * ways + ways * CODE, fits, 10, codeWays=ways)
            if ways > 1:
                self.just(10 * ways + 10 * ways * CODE, fits, 10, codeWays=ways - 1)

    def test_loops_in_loops_each_time_with_its_own_choice(self):
        part = row(at(0), loop(0, 3), loop(1, 2))
        self.just(0, part, 0)
        self.just(0, part, 1, 0)
        self.just(0, part, 2, 0, 0)
        self.just(3 + CODE, part, 1, 3)
        self.just(4 + CODE, part, 2, 3, 1)
        self.just(4 + CODE, part, 2, 1, 3)
        self.just(6 + CODE, part, 2, 3, 3)
        self.no_choice(part, 2, 3, 4)
        self.no_choice(part, 2, 4, 3)
        self.no_choice(part, 3, 1, 1, 1)

    def test_three_loops(self):
        part = row(step(0, 1, 0, 9), loop(0, 3), loop(1, 2), loop(2, 2))
        self.just(4 + CODE + DATA, part, 2, 2, 1, 9, 0, 1, 3, 8, 8, 8)
        self.just(0, part, 2, 0, 1, 0)
        self.no_choice(part, 2, 2, 1, 9, 0, 1, 3, 8, 8, 10)

    def test_a_branch_in_a_loop(self):
        part = row(at(0, 1), at(1, 10), either(0, 1), loop(2, 4))
        self.just(22 + 2 * CODE, part, 4, 0, 1, 1, 0)
        self.just(22 + 3 * CODE, part, 4, 0, 1, 1, 0, codeWays=1)
        self.just(22 + 4 * CODE, part, 4, 0, 1, 0, 1, codeWays=1)
        self.no_choice(part, 4, 0, 1, 2, 0)

    def test_a_loop_in_a_branch(self):
        part = row(at(0, 1), loop(0, 4), at(1, 10), either(1, 2))
        self.just(4 + CODE, part, 0, 4)
        self.just(10 + CODE, part, 1)
        self.no_choice(part, 0, 5)

    def test_a_body_without_a_step(self):
        part = row(at(0), loop(0, 0), loop(1, 4096))
        self.just(0, part, 3, 0, 0, 0)
        self.took(0, part, 4096, *[0] * 4096)
        self.no_choice(part, 4096, *[0] * 4095)
        self.no_choice(part, 4096, *[0] * 4095, 1)
        self.no_choice(part, 4096, *[0] * 4097)


class Parts(Case):
    def test_a_part_used_at_many_places(self):
        part = row(step(0, 1, 0, 31), behind(0, 0), behind(1, 0), either(2, 0), behind(3, 1))
        self.just(5 + CODE + 2 * DATA, part, 0, 0, 31, 16, 15, 1)
        self.just(3 + CODE + DATA, part, 1, 31, 16, 17)
        self.just(3 + CODE + 3 * DATA, part, 1, 31, 0, 17, dataWays=1)

    def test_a_loop_used_at_many_places(self):
        part = row(at(0), loop(0, 5), behind(1, 1), behind(2, 1))
        self.just(6 + CODE, part, 1, 5, 0)
        self.just(15 + CODE, part, 5, 5, 5)
        self.no_choice(part, 1, 6, 0)

    def test_parts_that_are_not_used_take_no_choice(self):
        self.just(1 + CODE, row(on(0), loop(0, 3), either(0, 1), at(0)))

    def test_fields_that_are_not_named_are_not_looked_at(self):
        for c, d in ((0, 0), (0, TOP), (TOP, 0), (TOP, TOP), (5, 9)):
            self.just(2 + CODE, row(at(0), behind(0, 0, c, d)))
            self.just(1 + CODE, row(at(0), either(0, 0, c, d)), 1)
            self.just(3 + CODE, row(at(0), loop(0, 3, c, d)), 3)

    def test_a_byte_that_lies_in_two_steps_lines(self):
        part = chain(step(0, 1, 0, 20), step(0, 1, 12, 40))
        self.just(2 + CODE + DATA, part, 17, 4)
        self.just(2 + CODE + 2 * DATA, part, 15, 4)
        self.just(2 + CODE + DATA, part, 15, 3)

    def test_all_kinds_together(self):
        # A step on a byte, then up to four times one of two, then that step again.
        part = row(step(0, 2, 64, 95), step(20, 3), step(36, 5, 0, 9), either(1, 2), loop(3, 4), behind(0, 4),
                   behind(5, 0))
        # Line 4 of data and 0 of code; 1 of code; 2 of code and 0 of data; 0 of code again and 5 of data.
        self.just(2 + 3 + 5 + 2 + 4 * CODE + 3 * DATA, part, 15, 2, 0, 1, 9, 16)
        self.just(2 + 3 + 5 + 2 + 3 * CODE + 2 * DATA, part, 15, 2, 0, 1, 9, 0, codeWays=3)
        self.just(4 + CODE + DATA, part, 15, 0, 0)

    def test_1024_steps_one_behind_another(self):
        # 512 is as many as a program can have without a loop.
        part = row(at(0), *[behind(k, k) for k in range(9)])
        self.just(512 + CODE, part)
        part = row(step(0, 1, 0, 15), *[behind(k, k) for k in range(9)])
        self.took(512 + CODE + DATA, part, *[k % 16 for k in range(512)])
        self.no_choice(part, *[k % 16 for k in range(511)])
        self.no_choice(part, *[k % 16 for k in range(513)])
        part = row(at(0), *[behind(k, k) for k in range(8)], loop(8, 4))
        self.just(1024 + CODE, part, 4)


class TheChoices(Case):
    def test_none_at_all(self):
        for part in (row(on(0)), row(at(0), either(0, 0)), row(at(0), loop(0, 3)), row(at(0), loop(0, 0)),
                     row(on(0), at(0), behind(0, 1)), row(on(0), at(0), behind(1, 0))):
            self.no_choice(part)

    def test_left_over(self):
        self.no_choice(row(at(0)), 0)
        self.no_choice(row(on(0)), 0, 0)
        self.no_choice(row(at(0), loop(0, 3)), 3, 0, 0, 0)
        self.no_choice(row(at(0), either(0, 0)), 0, 0)
        self.no_choice(row(at(0)), *[0] * 30000)

    def test_the_largest_choice(self):
        self.no_choice(row(on(0)), TOP)
        self.no_choice(row(on(0)), TOP, TOP)
        self.no_choice(row(at(0), either(0, 0)), TOP)
        self.no_choice(row(at(0), loop(0, 4096)), TOP)

    def test_30000_choices(self):
        part = row(step(0, 1, 0, 15), loop(0, 4096), loop(1, 7), behind(2, 1))
        choices = [7] + ([4096] + [3] * 4096) * 7 + [1319] + [4] * 1319
        self.assertEqual(len(choices), 30000)
        self.took(7 * 4096 + 1319 + CODE + DATA, part, *choices)
        self.no_choice(part, *choices[:-1])
        self.no_choice(part, *choices[:-1], 16)


# The step of part 0 makes 4,096 times 16 steps, which is 65,536; a seventeenth time makes more.
MANY = row(at(0), loop(0, 4096), loop(1, 17))
JUST = [16] + [4096] * 16


class ManySteps(Case):
    def test_just_65536_steps(self):
        self.took(65536 + CODE, MANY, *JUST)
        self.took(65536 + CODE, MANY, 17, *[4096] * 15, 4095, 1)
        self.took(65535 + CODE, MANY, 17, *[4096] * 15, 4095, 0)
        self.took(65536 + CODE, MANY, 17, *[4096] * 16, 0)

    def test_one_more(self):
        self.too_many(MANY, 17, *[4096] * 16, 1)
        self.too_many(MANY, 17, 1, *[4096] * 16)
        self.too_many(MANY, 17, *[4096] * 17)

    def test_one_more_behind_it(self):
        part = MANY + behind(2, 0)
        self.too_many(part, *JUST)
        self.took(65536 + CODE, part, 16, *[4096] * 15, 4095)
        self.too_many(MANY + behind(0, 2), *JUST)
        self.took(65536 + CODE, MANY + behind(0, 2), 16, *[4096] * 15, 4095)

    def test_one_more_with_a_byte(self):
        part = MANY + on(0) + behind(2, 3)
        self.too_many(part, *JUST, 0)
        self.took(65536 + CODE + DATA, part, 16, *[4096] * 15, 4095, 15)

    def test_a_body_of_many_steps(self):
        # 16 steps 4,096 times, by one choice.
        part = row(at(0), *[behind(k, k) for k in range(4)], loop(4, 4096), behind(5, 0), behind(5, 1))
        self.just(65536 + CODE, part[:30], 4096)
        self.just(65521 + CODE, part[:35], 4095)
        self.too_many(part[:35], 4096)
        self.too_many(part, 4096)
        self.just(65522 + CODE, part, 4095)

    def test_the_steps_that_are_made_count_not_those_that_might_be(self):
        part = row(at(0), loop(0, 256), loop(1, 4096), loop(2, 4096))
        self.just(0, part, 0)
        self.just(2 + CODE, part, 1, 1, 2)
        self.took(65536 + CODE, part, 1, 256, *[256] * 256)
        self.too_many(part, 1, 257, *[256] * 256, 1)
        self.took(65536 + CODE, part, 1, 257, *[256] * 256, 0)

    def test_what_is_no_step_does_not_count(self):
        # Loops of none, and parts of kinds 1 and 2 that aren't steps themselves.
        part = row(at(0), loop(0, 0), loop(1, 4096), loop(0, 4096), loop(3, 16), behind(2, 4), behind(5, 2))
        self.took(65536 + CODE, part, 4096, *[0] * 4096, *JUST, 4096, *[0] * 4096)
        branch = row(at(0), either(0, 0), behind(0, 1), loop(2, 4096), loop(0, 4096), loop(4, 14), behind(3, 5))
        self.took(65536 + CODE, branch, 4096, *[0, 1] * 2048, 14, *[4096] * 14)

    def test_the_longest_that_a_run_can_take(self):
        part = row(step(0, 65535), step(16, 65535), behind(0, 1), loop(2, 4096), loop(3, 8))
        self.took(65536 * 2 * 65535, part, 8, *[4096] * 8, codeWays=1, codeMiss=65535)
        part = row(step(0, 65535, 0, 31), step(16, 65535, 0, 31), behind(0, 1), loop(2, 4096), loop(3, 4))
        each = [4096] + [0, 31] * 4096
        self.took(3 * 8192 * 3 * 65535, part, 3, *each, *each, *each,
                  codeWays=1, dataWays=1, codeMiss=65535, dataMiss=65535)


class BothRefusals(Case):
    def test_a_choice_that_is_none_ahead_of_the_many_steps(self):
        part = MANY + on(0) + behind(3, 2)
        self.too_many(part, 15, *JUST)
        self.no_choice(part, 16, *JUST)
        self.no_choice(part, TOP, 17, *[4096] * 17)

    def test_a_choice_that_is_none_in_the_midst_of_them(self):
        for n in range(17):
            self.no_choice(MANY, 17, *[4096] * n, 4097, *[4096] * (16 - n))
        self.no_choice(MANY, 18, *[4096] * 18)

    def test_a_choice_that_is_none_behind_them(self):
        part = MANY + on(0) + behind(2, 3)
        self.no_choice(part, *JUST, 16)
        self.no_choice(part, *JUST, TOP)
        self.no_choice(part, 17, *[4096] * 17, 16)
        self.too_many(part, 17, *[4096] * 17, 15)

    def test_choices_wanting(self):
        for n in range(17):
            self.no_choice(MANY, 17, *[4096] * n)
        part = MANY + on(0) + behind(2, 3)
        self.no_choice(part, *JUST)
        self.no_choice(part, 17, *[4096] * 17)
        self.no_choice(MANY + behind(2, 2), 17, *[4096] * 17)

    def test_choices_left_over(self):
        for more in (0, 1, 4096, TOP):
            self.no_choice(MANY, 17, *[4096] * 17, more)
            self.no_choice(MANY, *JUST, more)
            self.no_choice(MANY + behind(2, 0), *JUST, more)

    def test_at_the_last_step_that_may_be_made_and_the_next(self):
        # 65,535 steps, and then steps with a byte each.
        part = MANY + on(0) + loop(3, 3) + behind(2, 4)
        before = [16, *[4096] * 15, 4095]
        self.took(65536 + CODE + DATA, part, *before, 1, 15)
        self.too_many(part, *before, 2, 15, 15)
        for choices in ((1, 16), (2, 16, 15), (2, 15, 16), (2, 15), (1,), (3, 15, 15, 16), (3, 15, 15), (1, 15, 15),
                        (2, 15, 15, 15), (4, 15, 15, 15, 15), ()):
            self.no_choice(part, *before, *choices)


class BehindTooManySteps(Case):
    """What is run when too many steps were made: whatever takes a choice, wherever it stands, and nothing else."""

    def behind_them(self, parts, *choices):
        """The parts, from place 0 on, behind many steps; these are just the choices of the last one."""
        n = len(parts)
        part = row(*parts, at(0), loop(n, 4096), loop(n + 1, 17), behind(n + 2, n - 1))
        before = [17] + [4096] * 17
        self.too_many(part, *before, *choices)
        for k in range(len(choices)):
            self.no_choice(part, *before, *choices[:k])
            self.no_choice(part, *before, *choices[:k], TOP, *choices[k + 1:])
        for more in (0, 1, TOP):
            self.no_choice(part, *before, *choices, more)

    def test_steps(self):
        self.behind_them([at(0)])
        self.behind_them([on(0)], 15)

    def test_one_behind_another(self):
        self.behind_them([at(0), behind(0, 0)])
        self.behind_them([at(0), on(0), behind(0, 1)], 15)
        self.behind_them([at(0), on(0), behind(1, 0)], 15)
        self.behind_them([step(0, 1, 0, 3), on(0), behind(1, 0)], 15, 3)
        self.behind_them([step(0, 1, 0, 3), on(0), behind(0, 1)], 3, 15)

    def test_within_one_another(self):
        parts = [at(0), step(0, 1, 0, 3), step(0, 1, 0, 9), behind(1, 0), behind(0, 2), behind(3, 4)]
        self.behind_them(parts, 3, 9)
        self.behind_them(parts + [behind(0, 5), behind(6, 0)], 3, 9)
        self.behind_them(parts + [behind(5, 0), behind(6, 6), behind(0, 7)], 3, 9, 3, 9)
        self.behind_them(parts + [behind(0, 0), behind(6, 6), behind(7, 7)])

    def test_either_of_two(self):
        self.behind_them([at(0), either(0, 0)], 0)
        self.behind_them([at(0), either(0, 0)], 1)
        self.behind_them([at(0), on(0), either(0, 1)], 0)
        self.behind_them([at(0), on(0), either(0, 1)], 1, 15)
        self.behind_them([at(0), on(0), behind(0, 1), either(2, 0)], 0, 15)
        self.behind_them([at(0), on(0), behind(0, 1), either(2, 0)], 1)

    def test_loops(self):
        self.behind_them([at(0), loop(0, 3)], 0)
        self.behind_them([at(0), loop(0, 3)], 3)
        self.behind_them([at(0), loop(0, 0)], 0)
        self.behind_them([on(0), loop(0, 3)], 0)
        self.behind_them([on(0), loop(0, 3)], 3, 0, 15, 7)
        self.behind_them([at(0), on(0), behind(0, 1), loop(2, 3)], 3, 0, 15, 7)
        self.behind_them([at(0), loop(0, 3), loop(1, 3)], 2, 3, 0)
        self.behind_them([at(0), behind(0, 0), loop(1, 3), behind(0, 2), loop(3, 3)], 2, 3, 0)
        self.behind_them([at(0), loop(0, 0), loop(1, 3)], 3, 0, 0, 0)

    def test_all_together(self):
        parts = [at(0), on(0), behind(0, 1), either(0, 2), behind(3, 0), loop(4, 3), behind(0, 5), loop(6, 2)]
        self.behind_them(parts, 2, 3, 0, 1, 15, 0, 1, 1, 0)
        self.behind_them(parts, 2, 0, 0)


if __name__ == "__main__":
    unittest.main()
