"""tt_most: how long at most, worked out by hand, part by part."""

import unittest

from hows import CODE, DATA, PLAIN, TOP, WRONG, at, behind, chain, either, loop, most, on, row, step


class Case(unittest.TestCase):
    def told(self, long, part, **changed):
        how = dict(PLAIN)
        how.update(changed)
        self.assertEqual(most(part, **how), [0, long])

    def step_by_step(self, hits, steps, first, miss, changed):
        """Told of the first step alone, of the first two, and so on, so that it's seen which ones miss."""
        self.assertEqual(len(hits), len(steps))
        for n in range(1, len(steps) + 1):
            self.told(first + n + miss * hits[:n].count("-"), chain(*steps[:n]), **changed)

    def code(self, hits, *lines, **changed):
        """Steps at lines of code, one behind another: a + for each that is told to be a hit, else a -."""
        self.step_by_step(hits, [at(line) for line in lines], 0, CODE, changed)

    def data(self, hits, *lines, **changed):
        """Likewise on lines of data, each a line or a pair of the first and the last."""
        steps = [on(*line) if isinstance(line, tuple) else on(line) for line in lines]
        self.step_by_step(hits, steps, CODE, DATA, changed)

    def both(self, hits, *lines, **changed):
        self.code(hits, *lines, **{"code" + name: value for name, value in changed.items()})
        self.data(hits, *lines, **{"data" + name: value for name, value in changed.items()})


class AStep(Case):
    def test_how_long_it_takes(self):
        for b in (0, 1, 7, 65535):
            self.told(b + CODE, row(at(0, b)))

    def test_with_a_byte(self):
        self.told(7 + CODE + DATA, row(step(0, 7, 40, 40)))

    def test_with_bytes_in_many_lines_it_misses_once(self):
        self.told(7 + CODE + DATA, row(step(0, 7, 0, 255)))
        self.told(7 + CODE + DATA, row(step(0, 7, 0, 64 * 16 - 1)))
        self.told(7 + CODE + DATA, row(step(0, 7, 0, 64 * 16 - 1)), dataSets=16, dataWays=8)

    def test_without_a_byte_if_c_is_above_d(self):
        for c, d in ((1, 0), (2, 1), (TOP, 0), (TOP, TOP - 1)):
            self.told(7 + CODE, row(step(0, 7, c, d)))

    def test_what_a_miss_takes(self):
        part = row(step(0, 7, 0, 0))
        self.told(7, part, codeMiss=0, dataMiss=0)
        self.told(8, part, codeMiss=1, dataMiss=0)
        self.told(9, part, codeMiss=0, dataMiss=2)
        self.told(7 + 65535, part, codeMiss=65535, dataMiss=0)
        self.told(7 + 65535, part, codeMiss=0, dataMiss=65535)

    def test_the_longest(self):
        self.told(3 * 65535, row(step(TOP, 65535, TOP, TOP)), codeMiss=65535, dataMiss=65535)

    def test_the_last_part_is_the_program(self):
        self.told(3 + CODE, row(at(0, 1), at(1, 2), behind(0, 1), at(2, 3)))


class StepsAlone(Case):
    def test_the_first_use_and_the_second(self):
        self.both("-+", 0, 0)
        self.both("-+++", 0, 0, 0, 0)
        self.both("--++", 0, 1, 0, 1)

    def test_the_same_line_used_again_makes_no_other_older(self):
        self.both("--++++", 0, 1, 1, 1, 1, 0)
        self.both("-+-+", 0, 0, 1, 0)

    def test_a_line_too_many(self):
        self.both("---", 0, 1, 2)
        self.both("----", 0, 1, 2, 0)
        self.both("---+", 0, 1, 2, 1)
        self.both("------", 0, 1, 2, 0, 1, 2)

    def test_a_line_used_that_was_oldest_so_that_another_goes(self):
        self.both("--+-+", 0, 1, 0, 2, 0)
        self.both("--+--", 0, 1, 0, 2, 1)
        self.both("---+-++-", 0, 1, 2, 0, 3, 2, 0, 1, Ways=3)

    def test_only_those_before_it_are_older_when_it_is_used(self):
        # From 3, 2, 1, 0: 2 is used, 3 is older, 1 and 0 are as they were; a new line puts out 0 alone.
        self.both("----+-+++-", 0, 1, 2, 3, 2, 4, 1, 3, 2, 0, Ways=4)
        self.both("----+--", 0, 1, 2, 3, 2, 4, 0, Ways=4)

    def test_one_set_and_one_way(self):
        self.both("-+-+--", 0, 0, 1, 1, 0, 1, Ways=1)

    def test_each_number_of_ways(self):
        for ways in range(1, 9):
            fits = list(range(ways))
            self.both("-" * ways + "+" * ways, *fits, *fits, Ways=ways)
            self.both("-" * 2 * (ways + 1), *fits, ways, *fits, ways, Ways=ways)

    def test_sets(self):
        for sets in (1, 2, 4, 8, 16):
            # Lines of one set, and one line of the next.
            same = [0, sets, 5 * sets]
            self.both("------", *same, *same, Sets=sets)
            if sets > 1:
                self.both("---+++", 0, sets, 1, 0, sets, 1, Sets=sets)
                self.both("---+", sets - 1, sets, 2 * sets, sets - 1, Sets=sets)

    def test_16_sets_and_8_ways(self):
        first = [16 * k for k in range(8)]
        last = [16 * k + 15 for k in range(8)]
        self.both("-" * 8 + "+" * 8, *first, *first, Sets=16, Ways=8)
        self.both("-" * 18, *first, 128, *first, 128, Sets=16, Ways=8)
        self.both("-" * 16 + "+" * 8, *first, *last, *first, Sets=16, Ways=8)
        self.both("-" * 16 + "+" * 8, *last, *first, *last, Sets=16, Ways=8)
        self.both("-" * 16 + "+" * 15, *range(16), *range(15), Sets=16, Ways=1)

    def test_how_large_a_line_is(self):
        for line in range(2, 9):
            size = 1 << line
            code = {"codeLine": line}
            data = {"dataLine": line}
            self.told(2 + CODE, chain(step(0), step(size - 1)), **code)
            self.told(2 + 2 * CODE, chain(step(size - 1), step(size)), **code)
            self.told(2 + CODE + DATA, chain(step(0, 1, 0, 0), step(0, 1, size - 1, size - 1)), **data)
            self.told(2 + CODE + 2 * DATA, chain(step(0, 1, size - 1, size - 1), step(0, 1, size, size)), **data)

    def test_the_last_byte_of_memory(self):
        for line in range(2, 9):
            first = TOP + 1 - (1 << line)
            for sets in (1, 16):
                code = {"codeLine": line, "codeSets": sets}
                data = {"dataLine": line, "dataSets": sets}
                self.told(2 + CODE, chain(step(TOP), step(first)), **code)
                self.told(2 + 2 * CODE, chain(step(TOP), step(first - 1)), **code)
                self.told(2 + CODE + DATA, chain(step(0, 1, TOP, TOP), step(0, 1, first, TOP)), **data)
                self.told(2 + CODE + 2 * DATA, chain(step(0, 1, TOP, TOP), step(0, 1, first - 1, TOP)), **data)

    def test_the_first_and_the_last_line_share_a_set_if_there_is_one(self):
        self.told(3 + 3 * CODE, chain(step(0), step(TOP), step(0)), codeWays=1)
        self.told(3 + 2 * CODE, chain(step(0), step(TOP), step(0)), codeWays=1, codeSets=2)

    def test_the_two_caches_are_apart(self):
        # Code and data of the same bytes: neither makes the other's line known, or older.
        self.told(2 + CODE + DATA, chain(step(0), step(0, 1, 0, 0)))
        self.told(4 + 2 * CODE + 2 * DATA,
                  chain(step(0, 1, 0, 0), step(16, 1, 16, 16), step(0, 1, 16, 16), step(16, 1, 0, 0)))
        self.told(3 + CODE + 3 * DATA, chain(on(0), on(1), on(0)), dataWays=1)
        self.told(3 + 3 * CODE + DATA, chain(step(0, 1, 0, 0), step(16, 1, 0, 0), step(0, 1, 0, 0)), codeWays=1)

    def test_each_cache_has_its_own_kind(self):
        steps = [step(8 * k, 1, 8 * k, 8 * k) for k in (0, 1, 2, 0)]
        self.told(4 + 3 * CODE + 2 * DATA, chain(*steps), codeLine=3, codeSets=2, codeWays=2)
        self.told(4 + 2 * CODE + 4 * DATA, chain(*steps), dataLine=3, dataSets=1, dataWays=2)


class OneOfSomeBytes(Case):
    def test_it_makes_no_line_known(self):
        self.data("--", (0, 1), 0)
        self.data("--", (0, 1), 1)
        self.data("--", (0, 1), (0, 1))
        self.data("---", (0, 1), 0, 1, dataSets=2)
        self.data("--", (0, 1), (0, 1), dataSets=2)

    def test_bytes_of_one_line_make_it_known(self):
        self.told(2 + CODE + DATA, chain(step(0, 1, 3, 9), step(0, 1, 15, 15)))
        self.told(2 + CODE + DATA, chain(step(0, 1, 0, 15), step(0, 1, 0, 15)))
        self.told(2 + CODE + 2 * DATA, chain(step(0, 1, 15, 16), step(0, 1, 15, 15)))

    def test_it_is_a_hit_if_each_line_is_known(self):
        self.data("--", 0, (0, 1))
        self.data("--", 1, (0, 1))
        self.data("--+", 0, 1, (0, 1))
        self.data("---+", 0, 1, 2, (0, 2), dataWays=3)
        self.data("----", 0, 1, 2, (0, 2))
        self.data("----", 0, 1, 2, (0, 3), dataWays=4)
        self.data("--+", 0, 1, (0, 1), dataSets=2, dataWays=1)

    def test_a_hit_over_all_sets(self):
        self.data("-" * 24 + "+-", *range(24), (0, 23), (0, 24), dataSets=16)
        self.data("-" * 24 + "-+", *range(24), (0, 24), (0, 23), dataSets=16, dataWays=3)

    def test_others_of_the_set_are_older(self):
        self.data("--+", 0, (4, 5), 0)
        self.data("----", 0, (4, 5), (4, 5), 0)
        for ways in range(1, 9):
            self.data("-" * ways + "+", 0, *[(4, 5)] * (ways - 1), 0, dataWays=ways)
            self.data("-" * (ways + 2), 0, *[(4, 5)] * ways, 0, dataWays=ways)

    def test_those_of_another_set_are_not(self):
        self.data("-----+", 0, (1, 1), (3, 3), (5, 5), (7, 7), 0, dataSets=2)
        self.data("-----+", 1, (2, 3), (2, 3), (2, 3), (2, 3), 1, dataSets=4)

    def test_one_set_of_two(self):
        # 3 or 4: if 4, 0 goes and 2 is older; if 3, both are as before.
        self.data("---+-", 0, 2, (3, 4), 2, 0, dataSets=2)
        self.data("----", 0, 2, (3, 4), 0, dataSets=2)
        self.data("---++", 0, 2, 3, 2, 0, dataSets=2)
        # Twice so, and 2 is gone too.
        self.data("-----", 0, 2, (3, 4), (3, 4), 2, dataSets=2)

    def test_of_two_known_lines_either_may_be_the_older(self):
        self.data("--+++", 0, 1, (0, 1), 0, 1)
        self.data("--+++", 0, 1, (0, 1), 1, 0)
        self.data("--+--", 0, 1, (0, 1), 2, 0)
        self.data("--+--", 0, 1, (0, 1), 2, 1)
        self.data("---+", 0, 1, 2, 1)

    def test_a_line_of_its_own_may_be_the_one_that_is_not_used(self):
        self.data("--+", 0, (0, 1), 0)
        self.data("----", 0, (0, 1), (0, 1), 0)
        self.data("--+--", 0, (0, 1), 0, (0, 1), (0, 1))

    def test_older_up_to_the_age_of_the_oldest_that_may_be_used(self):
        # 0 and 1 have ages 2 and 1, 2 has 0: one of 0 and 1 used makes 2 no older than 2.
        self.data("---" + "+++++" + "+", 0, 1, 2, *[(0, 1)] * 5, 2, dataWays=3)
        # 3 is older than both and stays so.
        self.data("----" + "+++++" + "+", 3, 0, 1, 2, *[(0, 1)] * 5, 3, dataWays=4)
        self.data("----" + "+++++" + "-+", 3, 0, 1, 2, *[(0, 1)] * 5, 9, 2, dataWays=4)
        self.data("----" + "+++++" + "--", 3, 0, 1, 2, *[(0, 1)] * 5, 9, 3, dataWays=4)

    def test_a_byte_that_lies_in_two_steps_lines(self):
        first, second, third = step(0, 1, 0, 15), step(0, 1, 8, 23), step(0, 1, 8, 8)
        self.told(3 + CODE + 2 * DATA, chain(first, second, third))
        self.told(3 + CODE + 3 * DATA, chain(first, second, third), dataWays=1)
        self.told(3 + CODE + 2 * DATA, chain(first, second, third), dataWays=1, dataSets=2)
        self.told(3 + CODE + 2 * DATA, chain(second, first, third))

    def test_data_anywhere(self):
        anywhere = (0, 63)
        for sets in (1, 2, 4, 8, 16):
            self.data("-" * 8 + "+", 5, *[anywhere] * 7, 5, dataSets=sets, dataWays=8)
            self.data("-" * 10, 5, *[anywhere] * 8, 5, dataSets=sets, dataWays=8)
            self.data("-" * 8 + "+", 500, *[anywhere] * 7, 500, dataSets=sets, dataWays=8)
            self.data("-" * 10, 500, *[anywhere] * 8, 500, dataSets=sets, dataWays=8)

    def test_data_anywhere_at_the_end_of_memory(self):
        anywhere = step(0, 1, TOP - 1023, TOP)
        self.told(4 + CODE + 3 * DATA, chain(step(0, 1, TOP, TOP), anywhere, anywhere, step(0, 1, TOP, TOP)),
                  dataSets=16, dataWays=3)
        self.told(4 + CODE + 4 * DATA, chain(step(0, 1, TOP, TOP), anywhere, anywhere, step(0, 1, TOP, TOP)),
                  dataSets=16, dataWays=2)


class Behind(Case):
    def test_what_the_first_makes_known_is_known_to_the_second(self):
        self.told(2 + CODE, row(at(0), behind(0, 0)))
        self.told(12 + 2 * CODE, row(at(0, 5), at(1, 7), behind(0, 1)))

    def test_a_goes_first(self):
        parts = [at(0), at(1), at(2), behind(0, 1), behind(1, 2)]
        self.told(4 + 3 * CODE, row(*parts, behind(3, 4)))
        self.told(4 + 4 * CODE, row(*parts, behind(4, 3)))

    def test_it_does_not_matter_how_they_are_bound(self):
        steps = [at(0), at(1), at(0), at(2)]
        self.told(4 + 3 * CODE, row(*steps, behind(0, 1), behind(4, 2), behind(5, 3)))
        self.told(4 + 3 * CODE, row(*steps, behind(2, 3), behind(1, 4), behind(0, 5)))
        self.told(4 + 3 * CODE, row(*steps, behind(0, 1), behind(2, 3), behind(4, 5)))


class Either(Case):
    def test_the_more_of_both(self):
        for make in (lambda a, b: either(a, b), lambda a, b: either(b, a)):
            self.told(9 + CODE, row(at(0, 5), at(0, 9), make(0, 1)))
            self.told(5 + CODE + DATA, row(on(0, b=5), at(0, 9), make(0, 1)))

    def test_which_is_the_more_hangs_on_what_is_known(self):
        # Line 0 is known: 50 there against 5 and a miss; 150 there against 5 and a miss.
        self.told(1 + CODE + 5 + CODE, row(at(0), at(0, 50), at(1, 5), either(1, 2), behind(0, 3)))
        self.told(1 + CODE + 150, row(at(0), at(0, 150), at(1, 5), either(1, 2), behind(0, 3)))

    def test_the_other_one_is_joined_too(self):
        # The more of both leaves line 0 young; the other one doesn't, so line 2 puts it out.
        parts = [at(0), at(0, 500), at(1, 5), either(1, 2), behind(0, 3)]
        self.told(501 + CODE, row(*parts))
        self.told(502 + CODE, row(*parts, behind(4, 0)))
        self.told(502 + 2 * CODE, row(*parts, at(2), behind(4, 5)))
        self.told(503 + 3 * CODE, row(*parts, at(2), behind(4, 5), behind(6, 0)))
        swapped = [at(0), at(0, 500), at(1, 5), either(2, 1), behind(0, 3)]
        self.told(503 + 3 * CODE, row(*swapped, at(2), behind(4, 5), behind(6, 0)))

    def test_a_line_of_one_of_them_alone_is_not_known(self):
        self.told(2 + 2 * CODE, row(at(0), at(1), either(0, 1), behind(2, 0)))
        self.told(2 + 2 * CODE, row(at(0), at(1), either(0, 1), behind(2, 1)))
        self.told(3 + CODE + 2 * DATA, row(on(0), at(0), either(0, 1), behind(2, 0), behind(1, 3)))

    def test_a_line_of_both_is_known(self):
        parts = [at(0), at(1), behind(0, 1), behind(1, 0), either(2, 3)]
        for last in (2, 3):
            self.told(4 + 2 * CODE, row(*parts, behind(4, last)))
        # Either may be the older: a third line puts out both.
        for last in (0, 1):
            self.told(4 + 4 * CODE, row(*parts, at(2), behind(4, 5), behind(6, last)))

    def test_a_branch_that_uses_another_line_of_the_same_set(self):
        parts = row(at(0), at(1), either(0, 1), behind(0, 2), behind(3, 0))
        self.told(3 + 3 * CODE, parts, codeWays=1)
        self.told(3 + 2 * CODE, parts, codeWays=2)
        self.told(3 + 2 * CODE, parts, codeWays=1, codeSets=2)

    def test_the_same_in_the_cache_of_data(self):
        parts = row(on(0), on(1), either(0, 1), behind(0, 2), behind(3, 0))
        self.told(3 + CODE + 3 * DATA, parts, dataWays=1)
        self.told(3 + CODE + 2 * DATA, parts, dataWays=2)
        self.told(3 + CODE + 2 * DATA, parts, dataWays=1, dataSets=2)

    def test_either_of_the_same(self):
        self.told(2 + CODE, row(at(0), either(0, 0), behind(1, 1)))


class Loops(Case):
    def test_none(self):
        self.told(0, row(at(0), loop(0, 0)))
        self.told(0, row(on(0, 3, 65535), loop(0, 0), loop(1, 4096)))
        self.told(1 + CODE, row(at(0), loop(0, 0), behind(1, 0)))

    def test_none_leaves_what_is_known_as_before(self):
        # 0, then 1 not at all, or once at most; then 2; then 0 again.
        parts = [at(0), at(1), at(2)]
        ends = [behind(0, 3), behind(4, 2), behind(5, 0)]
        self.told(3 + 2 * CODE, row(*parts, loop(1, 0), *ends))
        self.told(4 + 4 * CODE, row(*parts, loop(1, 1), *ends))

    def test_one_time(self):
        self.told(1 + CODE, row(at(0), loop(0, 1)))
        self.told(3 + 3 * CODE, row(at(0), at(1), at(2), behind(0, 1), behind(3, 2), loop(4, 1)))

    def test_behind_a_loop_nothing_of_it_is_sure(self):
        for b in (1, 2, 4096):
            self.told(b + CODE + 1 + CODE, row(at(0), loop(0, b), behind(1, 0)))

    def test_many_times(self):
        for b in (1, 2, 3, 10, 4095, 4096):
            self.told(b + CODE, row(at(0), loop(0, b)))
            self.told(1 + CODE + b, row(at(0), loop(0, b), behind(0, 1)))

    def test_a_body_whose_lines_just_fit(self):
        for ways in range(1, 9):
            body = chain(*[at(k) for k in range(ways)])
            last = len(body) // 5 - 1
            self.told(ways * (CODE + 4096), body + loop(last, 4096), codeWays=ways)

    def test_a_body_whose_lines_do_not_fit(self):
        for ways in range(1, 9):
            body = chain(*[at(k) for k in range(ways + 1)])
            last = len(body) // 5 - 1
            self.told((ways + 1) * (CODE + 1) * 4096, body + loop(last, 4096), codeWays=ways)

    def test_lines_of_data_that_just_fit_and_do_not(self):
        # Lines 0, 4, 8 are of one set of four.
        body = chain(on(0), on(4), on(8))
        self.told(3 * 4096 + CODE + 3 * DATA, body + loop(4, 4096), dataSets=4, dataWays=3)
        self.told(3 * 4096 + CODE + 3 * DATA * 4096, body + loop(4, 4096), dataSets=4, dataWays=2)
        self.told(3 * 4096 + CODE + 3 * DATA, chain(on(0), on(1), on(2)) + loop(4, 4096), dataSets=4, dataWays=1)

    def test_either_of_two_again_and_again(self):
        # From nothing known neither ever is; from both known both stay so, if there is room for both.
        self.told(9 * (1 + CODE), row(at(0), at(1), either(0, 1), loop(2, 9)))
        parts = [at(0), at(1), behind(0, 1), either(0, 1), loop(3, 9), behind(2, 4)]
        self.told(2 + 2 * CODE + 9, row(*parts))
        self.told(2 + 2 * CODE + 9 * (1 + CODE), row(*parts), codeWays=1)

    def test_what_is_known_then_is_joined_with_what_was_known_before(self):
        # 0, then 0 and 1 up to three times: behind it 0 is known, but may be older; 1 isn't.
        parts = [at(0), at(1), behind(0, 1), loop(2, 3), behind(0, 3)]
        long = 7 + 2 * CODE
        self.told(long, row(*parts))
        self.told(long + 1, row(*parts, behind(4, 0)))
        self.told(long + 1 + CODE, row(*parts, behind(4, 1)))
        self.told(long + 2 + 2 * CODE, row(*parts, at(2), behind(4, 5), behind(6, 0)))
        self.told(long + 2 + CODE, row(*parts, at(2), behind(4, 5), behind(6, 0)), codeWays=3)

    def test_before_may_be_the_older_one(self):
        # 0 and 1, then 0 up to three times: 0 may be as old as before it.
        parts = [at(0), at(1), at(2), behind(0, 1), loop(0, 3), behind(3, 4), behind(5, 2)]
        self.told(6 + 3 * CODE, row(*parts))
        self.told(7 + 4 * CODE, row(*parts, behind(6, 0)))
        self.told(7 + 4 * CODE, row(*parts, behind(6, 1)))


class Settling(Case):
    """0 or no byte, behind one of the lines 4 and 5, again and again: each time 0 is one older."""

    parts = [on(0), on(4, 5), step(), either(0, 2), behind(1, 3)]

    def test_x_changes_as_often_as_there_are_ways(self):
        for ways in range(2, 9):
            for b in (1, 2, 3, 4096):
                first = 1 + CODE + DATA
                once = 2 + DATA
                again = 2 + 2 * DATA
                self.told(first + once + (b - 1) * again, row(*self.parts, loop(4, b), behind(0, 5)), dataWays=ways)

    def test_one_time_too_it_is_joined_till_it_is_no_other(self):
        for ways in range(2, 9):
            part = row(*self.parts, loop(4, 1), behind(0, 5), behind(6, 0))
            self.told(4 + CODE + 3 * DATA, part, dataWays=ways)

    def test_x_settles_before_all_is_gone(self):
        # 4 and 5 are known: 0 becomes as old as the older of them and no older.
        before = [on(4), on(5), behind(5, 6), behind(7, 0)]
        for ways in range(3, 9):
            part = row(*self.parts, *before, loop(4, 4096), behind(8, 9), behind(10, 0))
            self.told(4 + 2 * 4096 + CODE + 3 * DATA, part, dataWays=ways)
        # Then a new line puts them all out, if there were just three places.
        part = row(*self.parts, *before, loop(4, 4096), behind(8, 9), on(9), behind(10, 11), behind(12, 0))
        self.told(5 + 2 * 4096 + CODE + 5 * DATA, part, dataWays=3)
        self.told(5 + 2 * 4096 + CODE + 4 * DATA, part, dataWays=4)

    def test_x_keeps_the_greater_age_of_the_first_time(self):
        # 0, one of 4 and 5, 4, 5: from 4 and 5 known, 0 is younger behind it than it was at first, which was 3.
        parts = [on(0), on(4, 5), on(4), on(5), behind(0, 1), behind(4, 2), behind(5, 3), loop(6, 9), behind(0, 7)]
        long = 1 + 4 * 9 + CODE + 4 * DATA
        self.told(long, row(*parts), dataWays=4)
        self.told(long + 1, row(*parts, behind(8, 0)), dataWays=4)
        self.told(long + 2 + 2 * DATA, row(*parts, on(8, 9), behind(8, 9), behind(10, 0)), dataWays=4)
        self.told(long + 2 + DATA, row(*parts, on(8, 9), behind(8, 9), behind(10, 0)), dataWays=5)

    def test_what_once_was_not_known_stays_so(self):
        # 6, then 5 and 7 again and again, then 7; 5 was used before. Behind the first time 7 and 5 are known, behind
        # the second 7 and 6: so 7 alone.
        parts = [on(5), on(7), on(6), behind(0, 1), loop(3, 50), behind(4, 1), behind(2, 5)]
        first = 1 + 100 + 1 + 3 * DATA
        again = 1 + 100 + 1 + 2 * DATA
        for b in (1, 2, 3, 4096):
            long = 1 + CODE + DATA + first + (b - 1) * again
            self.told(long, row(*parts, loop(6, b), behind(0, 7)), dataWays=3)

    def test_the_code_settles_too(self):
        # Line 0 or 1, then 7 or nothing: each time 7 is one older.
        parts = [at(0), at(1), either(0, 1), at(7), loop(0, 0), either(3, 4), behind(2, 5)]
        for ways in range(2, 9):
            for b in (1, 2, 4096):
                long = 1 + CODE + 2 + CODE + (b - 1) * (2 + 2 * CODE)
                self.told(long, row(*parts, loop(6, b), behind(3, 7)), codeWays=ways)


class LoopsInLoops(Case):
    def test_from_nothing_known(self):
        # The inner one may be gone through not at all: behind it nothing is known.
        self.told(5 * (3 + CODE), row(at(0), loop(0, 3), loop(1, 5)))

    def test_from_its_line_known(self):
        self.told(1 + CODE + 15, row(at(0), loop(0, 3), loop(1, 5), behind(0, 2)))

    def test_a_step_and_a_loop_in_a_loop(self):
        # 0 stays known; of 1 nothing is known behind the inner loop.
        self.told(1 + CODE + 3 + CODE + 4 * (1 + 3 + CODE),
                  row(at(0), at(1), loop(1, 3), behind(0, 2), loop(3, 5)))
        self.told(5 * (1 + CODE + 3 + CODE),
                  row(at(0), at(1), loop(1, 3), behind(0, 2), loop(3, 5)), codeWays=1)

    def test_a_loop_of_none_in_a_loop(self):
        self.told(0, row(at(0), loop(0, 0), loop(1, 4096)))
        self.told(4096 + CODE, row(at(0), loop(0, 0), behind(0, 1), loop(2, 4096)))

    def test_nine_in_one_another_are_the_largest(self):
        loops = [loop(k, 2) for k in range(9)]
        self.told((2 + CODE) << 8, row(at(0), *loops))
        self.told(((2 + CODE) << 7) + 1 + CODE, row(at(0), *loops[:8], behind(8, 0)))
        self.told(WRONG[1], row(at(0), *loops, loop(9, 2)))

    def test_32_deep_with_the_loops_innermost(self):
        loops = [loop(k, 2) for k in range(8)]
        known_first = row(at(0), *loops, behind(0, 8), *[behind(k, 0) for k in range(9, 31)])
        self.told(1 + CODE + 256 + 22, known_first)
        unknown = row(at(0), *loops, *[behind(k, 0) for k in range(8, 31)])
        self.told(((2 + CODE) << 7) + CODE + 23, unknown)

    def test_32_deep_with_the_loops_outermost(self):
        steps = [behind(k, 0) for k in range(27)]
        loops = [loop(27 + k, 16) for k in range(4)]
        self.told((CODE + 28 * 16) * 16 ** 3, row(at(0), *steps, *loops))

    def test_32_deep_with_loops_all_the_way(self):
        # A step at line 0 is ahead of each loop but the innermost, so line 0 is always known there.
        parts = [at(0)]
        long = 1
        for turn in range(6):
            parts.append(loop(len(parts) - 1, 3))
            parts.append(behind(0, len(parts) - 1))
            long = 3 * long + 1
        while len(parts) < 32:
            parts.append(behind(0, len(parts) - 1))
            long += 1
        self.told(long + CODE, row(*parts))

    def test_2_to_the_32_steps(self):
        loops = [at(0), loop(0, 256), loop(1, 4096), loop(2, 4096)]
        self.told((CODE + 256) << 24, row(*loops))
        # One step is ahead of 65,535 times 65,537 others, and its line is known to them all.
        loops = [at(0), loop(0, 256), loop(1, 256), behind(2, 0), loop(3, 255), loop(4, 257), behind(0, 5)]
        self.told(CODE + 4294967296, row(*loops))

    def test_the_longest_of_all(self):
        far = [step(0, 65535, 0, 31), step(16, 65535, 0, 31)]
        part = row(*far, behind(0, 1), loop(2, 128), loop(3, 4096), loop(4, 4096))
        self.told(4294967296 * 3 * 65535, part, codeWays=1, codeMiss=65535, dataMiss=65535)


class Largest(Case):
    def test_512_steps(self):
        doubled = row(at(0), *[behind(k, k) for k in range(9)])
        self.told(512 + CODE, doubled)
        self.told(512 * (1 + CODE), row(at(0), at(1), behind(0, 1), *[behind(k, k) for k in range(2, 10)]), codeWays=1)
        self.told(WRONG[1], doubled + behind(9, 0))

    def test_512_steps_of_which_one_is_made(self):
        self.told(1 + CODE, row(at(0), *[either(k, k) for k in range(9)]))

    def test_64_parts_all_used(self):
        steps = [at(k) for k in range(32)]
        pairs = [behind(2 * k, 2 * k + 1) for k in range(31)]
        self.told(32 * (CODE + 7), row(*steps, *pairs, loop(62, 7)), codeSets=4, codeWays=8)
        self.told(32 * (CODE + 1) * 7, row(*steps, *pairs, loop(62, 7)), codeSets=4, codeWays=7)

    def test_a_part_used_at_many_places(self):
        # 0 and 1 are hits at the second place; behind 2 and 3 they aren't at the third.
        pair = [at(0), at(1), behind(0, 1), at(2), at(3), behind(3, 4)]
        self.told(8 + 6 * CODE, row(*pair, behind(2, 2), behind(6, 5), behind(7, 2)))
        self.told(8 + 4 * CODE, row(*pair, behind(2, 2), behind(6, 5), behind(7, 2)), codeWays=4)


class NotLookedAt(Case):
    def test_c_and_d_of_other_kinds_than_steps(self):
        for c, d in ((0, 0), (0, TOP), (TOP, 0), (TOP, TOP)):
            self.told(2 + CODE, row(at(0), behind(0, 0, c, d)))
            self.told(1 + CODE, row(at(0), either(0, 0, c, d)))
            self.told(3 + CODE, row(at(0), loop(0, 3, c, d)))

    def test_parts_that_are_not_used(self):
        self.told(3 + CODE, row(on(3), on(4, 9), at(0, 3)))
        too_large = [behind(k, k) for k in range(20)]
        self.told(3 + CODE, row(at(0), *too_large, at(0, 3)))


class NotRight(Case):
    def test_the_numbers(self):
        wrong = {"codeLine": (0, 1, 9, TOP), "codeSets": (0, 3, 32, TOP), "codeWays": (0, 9, TOP),
                 "codeNone": (1, TOP), "dataLine": (0, 1, 9, TOP), "dataSets": (0, 3, 32, TOP),
                 "dataWays": (0, 9, TOP), "dataNone": (1, TOP), "codeMiss": (65536, TOP),
                 "dataMiss": (65536, TOP), "none": (1, TOP)}
        for name, values in wrong.items():
            for value in values:
                with self.subTest(name=name, value=value):
                    self.told(-22, row(at(0), on(0), behind(0, 1)), **{name: value})
                    self.told(-22, row(at(0), loop(0, 0)), **{name: value})

    def test_the_parts(self):
        wrong = (step(b=65536), step(c=0, d=64 * 16), step(c=15, d=64 * 16), behind(1, 0), behind(0, 1),
                 either(1, 0), either(0, 1), loop(1, 1), loop(1, 0), loop(0, 4097), [4, 0, 0, 0, 0],
                 [TOP, 0, 0, 0, 0])
        for part in wrong:
            with self.subTest(part=part):
                self.told(-22, row(at(0), part))
                self.told(-22, row(at(0), part, at(0)))

    def test_how_many_parts(self):
        self.told(-22, [])
        self.told(1 + CODE, at(0) * 64)
        self.told(-22, at(0) * 65)
        self.told(-22, at(0) * 80)

    def test_how_large_how_deep_and_how_many_steps(self):
        self.told(-22, row(at(0), *[behind(k, k) for k in range(10)]))
        self.told(-22, row(at(0), *[loop(k, 0) for k in range(10)]))
        self.told(-22, row(at(0), *[behind(k, 0) for k in range(32)]))
        self.told(-22, row(at(0), *[either(0, k) for k in range(32)]))
        self.told(-22, row(at(0), loop(0, 257), loop(1, 4096), loop(2, 4096)))
        self.told(-22, row(at(0), loop(0, 256), loop(1, 4096), loop(2, 4096), behind(3, 0)))


if __name__ == "__main__":
    unittest.main()
