"""tt_right: ordinary programs, and each edge of being right from both sides; the others refuse the same."""

import unittest

from hows import RIGHT, TOP, WRONG, ask, behind, either, loop, most, row, run, step

SOME = row(step())


class Case(unittest.TestCase):
    def right(self, part, **changed):
        self.assertEqual(ask(part, **changed), RIGHT)
        self.assertGreaterEqual(most(part, **changed)[1], 0)
        self.assertNotEqual(run(part, [], **changed), WRONG)

    def wrong(self, part, **changed):
        self.assertEqual(ask(part, **changed), WRONG)
        self.assertEqual(most(part, **changed), WRONG)
        for choice in ([], [0], [TOP]):
            self.assertEqual(run(part, choice, **changed), WRONG)

    def edges(self, name, right, wrong):
        for value in right:
            with self.subTest(name=name, value=value):
                self.right(SOME, **{name: value})
        for value in wrong:
            with self.subTest(name=name, value=value):
                self.wrong(SOME, **{name: value})


class Ordinary(Case):
    def test_a_step(self):
        self.right(row(step(100, 5, 40, 47)))

    def test_steps_one_behind_another(self):
        self.right(row(step(0, 1), step(4, 2, 64, 64), behind(0, 1), step(8, 3), behind(2, 3)))

    def test_either_of_two(self):
        self.right(row(step(0, 1), step(4, 2), either(0, 1)))

    def test_a_loop(self):
        self.right(row(step(0, 1, 16, 31), loop(0, 10)))

    def test_all_kinds_together(self):
        self.right(row(step(0), step(4), either(0, 1), step(8, 2, 0, 255), behind(2, 3), loop(4, 100),
                       step(12), behind(5, 6)))

    def test_a_part_used_at_many_places(self):
        self.right(row(step(), behind(0, 0), either(1, 1), behind(2, 0), loop(3, 3), behind(4, 4)))

    def test_the_last_part_need_not_use_the_others(self):
        self.right(row(step(0), step(4), behind(0, 1), step(8)))


class Caches(Case):
    def test_line(self):
        for name in ("codeLine", "dataLine"):
            self.edges(name, range(2, 9), (0, 1, 9, 10, 32, 64, TOP))

    def test_sets(self):
        for name in ("codeSets", "dataSets"):
            self.edges(name, (1, 2, 4, 8, 16), (0, 3, 5, 6, 7, 9, 12, 15, 17, 24, 32, 64, TOP))

    def test_ways(self):
        for name in ("codeWays", "dataWays"):
            self.edges(name, range(1, 9), (0, 9, 16, TOP))

    def test_none_of_the_caches(self):
        for name in ("codeNone", "dataNone"):
            self.edges(name, (0,), (1, 2, TOP))

    def test_the_two_caches_may_differ(self):
        self.right(SOME, codeLine=2, codeSets=1, codeWays=1, dataLine=8, dataSets=16, dataWays=8)
        self.right(SOME, codeLine=8, codeSets=16, codeWays=8, dataLine=2, dataSets=1, dataWays=1)


class Numbers(Case):
    def test_misses(self):
        for name in ("codeMiss", "dataMiss"):
            self.edges(name, (0, 1, 65534, 65535), (65536, 65537, TOP))

    def test_both_misses_at_their_most(self):
        self.right(SOME, codeMiss=65535, dataMiss=65535)

    def test_none(self):
        self.edges("none", (0,), (1, 2, TOP))


class HowManyParts(Case):
    def test_no_part(self):
        self.wrong([])

    def test_up_to_64(self):
        for count in (1, 2, 63, 64):
            with self.subTest(count=count):
                self.right(step() * count)

    def test_more_than_64(self):
        for count in (65, 66, 79, 80):
            with self.subTest(count=count):
                self.wrong(step() * count)

    def test_64_parts_all_used(self):
        steps = [step(4 * k) for k in range(32)]
        pairs = [behind(2 * k, 2 * k + 1) for k in range(31)]
        self.right(row(*steps, *pairs, loop(62, 7)))


class Kinds(Case):
    def test_unknown_kinds(self):
        for kind in (4, 5, 255, 256, 65536, TOP):
            with self.subTest(kind=kind):
                self.wrong([kind, 0, 0, 0, 0])
                self.wrong(row(step(), [kind, 0, 0, 0, 0]))
                self.wrong(row(step(), [kind, 0, 0, 0, 0], step()))


class Steps(Case):
    def test_how_long(self):
        for b in (0, 1, 65534, 65535):
            with self.subTest(b=b):
                self.right(row(step(b=b)))
        for b in (65536, 65537, TOP):
            with self.subTest(b=b):
                self.wrong(row(step(b=b)))

    def test_where_its_instruction_stands(self):
        for a in (0, 1, 255, 65536, TOP - 1, TOP):
            with self.subTest(a=a):
                self.right(row(step(a=a)))

    def test_its_numbers_name_no_parts(self):
        self.right(row(step(TOP, 65535, 9, 8), step(1, 1), step(2, 3)))


class Bytes(Case):
    def both_sides(self, line, c, d):
        """d is the last byte that may be told; the next one is in a line too many."""
        with self.subTest(line=line, c=c, d=d):
            self.right(row(step(c=c, d=d)), dataLine=line)
            self.wrong(row(step(c=c, d=d + 1)), dataLine=line)

    def test_64_lines_and_65(self):
        for line in range(2, 9):
            size = 1 << line
            self.both_sides(line, 0, 64 * size - 1)
            self.both_sides(line, 1, 64 * size - 1)
            self.both_sides(line, 3 * size, 67 * size - 1)

    def test_from_just_at_a_lines_end(self):
        for line in range(2, 9):
            size = 1 << line
            self.both_sides(line, size - 1, 64 * size - 1)
            self.both_sides(line, 8 * size - 1, 71 * size - 1)

    def test_as_many_bytes_as_64_lines_have_but_across_65(self):
        for line in range(2, 9):
            size = 1 << line
            self.wrong(row(step(c=size - 1, d=size - 1 + 64 * size - 1)), dataLine=line)

    def test_one_line_and_one_byte(self):
        for line in range(2, 9):
            size = 1 << line
            self.right(row(step(c=size, d=2 * size - 1)), dataLine=line)
            self.right(row(step(c=size - 1, d=size)), dataLine=line)
            self.right(row(step(c=7, d=7)), dataLine=line)

    def test_as_many_as_may_be_handed_in(self):
        for line in range(2, 9):
            self.wrong(row(step(c=0, d=1048575)), dataLine=line)
            self.wrong(row(step(c=TOP - 1048575, d=TOP)), dataLine=line)

    def test_the_line_is_the_data_caches(self):
        self.right(row(step(c=0, d=64 * 256 - 1)), codeLine=2, dataLine=8)
        self.wrong(row(step(c=0, d=64 * 4)), codeLine=8, dataLine=2)

    def test_sets_and_ways_do_not_matter(self):
        self.right(row(step(c=0, d=64 * 4 - 1)), dataLine=2, dataSets=1, dataWays=1)
        self.wrong(row(step(c=0, d=64 * 4)), dataLine=2, dataSets=16, dataWays=8)

    def test_no_bytes_if_c_is_above_d(self):
        for c, d in ((1, 0), (TOP, 0), (TOP, TOP - 1), (65536, 0), (1048576, 1048575)):
            with self.subTest(c=c, d=d):
                self.right(row(step(c=c, d=d)), dataLine=2)

    def test_the_last_byte_of_memory(self):
        for line in range(2, 9):
            first = TOP + 1 - (64 << line)
            with self.subTest(line=line):
                self.right(row(step(a=TOP, c=TOP, d=TOP)), dataLine=line)
                self.right(row(step(c=first, d=TOP)), dataLine=line)
                self.wrong(row(step(c=first - 1, d=TOP)), dataLine=line)

    def test_each_step_by_itself(self):
        # Two steps together may be in more than 64 lines.
        wide = step(c=0, d=64 * 32 - 1)
        other = step(c=64 * 32, d=128 * 32 - 1)
        self.right(row(wide, other, behind(0, 1)))
        self.wrong(row(wide, step(c=64 * 32, d=128 * 32), behind(0, 1)))


class NamesOfParts(Case):
    def test_both_of_1_and_2_are_before_it(self):
        for make in (behind, either):
            for a, b in ((0, 0), (0, 1), (1, 0), (1, 1)):
                with self.subTest(make=make.__name__, a=a, b=b):
                    self.right(row(step(), step(), make(a, b)))

    def test_one_of_1_and_2_is_itself_or_behind_it(self):
        for make in (behind, either):
            for other in (2, 3, 4, 64, TOP):
                with self.subTest(make=make.__name__, other=other):
                    for a, b in ((other, 0), (0, other), (other, other)):
                        self.wrong(row(step(), step(), make(a, b)))
                        self.wrong(row(step(), step(), make(a, b), step(), step()))

    def test_the_one_of_3_is_before_it(self):
        for a in (0, 1):
            self.right(row(step(), step(), loop(a, 2)))

    def test_the_one_of_3_is_itself_or_behind_it(self):
        for a in (2, 3, 4, 64, TOP):
            for b in (0, 1, 4096):
                with self.subTest(a=a, b=b):
                    self.wrong(row(step(), step(), loop(a, b)))
                    self.wrong(row(step(), step(), loop(a, b), step(), step()))

    def test_the_first_part_is_a_step(self):
        for part in (behind(0, 0), either(0, 0), loop(0, 0), loop(0, 1)):
            with self.subTest(part=part):
                self.wrong(row(part))
                self.wrong(row(part, step()))

    def test_the_last_of_64_parts(self):
        before = step() * 63
        for make in (behind, either):
            self.right(before + make(62, 62))
            self.wrong(before + make(63, 62))
            self.wrong(before + make(62, 63))
        self.right(before + loop(62, 1))
        self.wrong(before + loop(63, 1))


class HowOften(Case):
    def test_a_loops_b(self):
        for b in (0, 1, 2, 4095, 4096):
            with self.subTest(b=b):
                self.right(row(step(), loop(0, b)))
        for b in (4097, 4098, 65535, TOP):
            with self.subTest(b=b):
                self.wrong(row(step(), loop(0, b)))


class HowLarge(Case):
    # A size is always odd, so 1,024 itself can't be had: 1,023 and 1,025 are beside it.
    def test_of_1_and_2(self):
        for make in (behind, either):
            doubled = row(step(), *[make(k, k) for k in range(9)])
            with self.subTest(make=make.__name__):
                self.right(doubled)
                self.wrong(doubled + make(9, 0))
                self.wrong(doubled + make(0, 9))
                self.wrong(doubled + make(9, 9))

    def test_of_3_it_is_twice_its_part(self):
        for b in (0, 1):
            loops = [loop(k, b) for k in range(9)]
            with self.subTest(b=b):
                self.right(row(step(), *loops))
                self.wrong(row(step(), *loops, loop(9, b)))

    def test_a_loop_just_over_it(self):
        # 511 is 255 + 255 + 1; 513 is 511 + 1 + 1.
        part = row(step(), *[either(k, k) for k in range(8)])
        self.right(part + loop(8, 1))
        self.wrong(part + either(8, 0) + loop(9, 1))

    def test_just_under_and_just_over_in_small_ones(self):
        # Sizes 3, 7, .. 511 are at places 1 to 8.
        part = row(step(), *[behind(k, k) for k in range(8)])
        chain = [behind(7, 6), behind(9, 5), behind(10, 4), behind(11, 3), behind(12, 2), behind(13, 1),
                 behind(14, 0)]
        # The chain's are 383, 447, 479, 495, 503, 507, 509. With 511 it's 1,021; each step more adds 2.
        part = part + row(*chain, behind(8, 15))
        self.right(part)
        self.right(part + behind(16, 0))
        self.wrong(part + behind(16, 0) + behind(17, 0))


class HowDeep(Case):
    def chain(self, make, depth):
        return row(step(), *[make(k, 0) for k in range(depth - 1)])

    def test_32_and_33(self):
        for make in (behind, either, lambda a, b: behind(b, a), lambda a, b: either(b, a)):
            self.right(self.chain(make, 31))
            self.right(self.chain(make, 32))
            self.wrong(self.chain(make, 33))
            self.wrong(self.chain(make, 64))

    def test_a_loop_is_one_deeper(self):
        for b in (0, 1, 2):
            self.right(self.chain(behind, 31) + loop(30, b))
            self.wrong(self.chain(behind, 32) + loop(31, b))

    def test_two_deep_ones_are_no_deeper(self):
        self.right(self.chain(behind, 31) + behind(30, 30))
        self.right(self.chain(either, 31) + either(30, 29))


class HowManySteps(Case):
    # 4,096 times 4,096 times 256 is 2^32.
    most = row(step(), loop(0, 256), loop(1, 4096), loop(2, 4096))

    def test_2_to_the_32(self):
        self.right(self.most)

    def test_one_more(self):
        self.wrong(self.most + behind(3, 0))
        self.wrong(self.most + behind(0, 3))

    def test_more(self):
        self.wrong(row(step(), loop(0, 257), loop(1, 4096), loop(2, 4096)))
        self.wrong(row(step(), *[loop(k, 4096) for k in range(3)]))
        self.wrong(row(step(), *[loop(k, 4096) for k in range(9)]))
        self.wrong(self.most + loop(3, 2))
        self.wrong(self.most + behind(3, 3))

    def test_one_less(self):
        # 2^32 - 1 is 65,535 times 65,537; a step more is 2^32, and two are above it.
        part = row(step(), loop(0, 255), loop(1, 257), loop(0, 256), loop(3, 256), behind(4, 0))
        self.right(row(step(), loop(0, 255), loop(1, 257)))
        body = part + row(loop(5, 255), loop(6, 257))
        self.right(body)
        self.right(body + behind(7, 0))
        self.wrong(body + behind(7, 0) + behind(8, 0))

    def test_of_2_the_more(self):
        self.right(self.most + either(3, 0))
        self.right(self.most + either(0, 3))
        self.right(self.most + either(3, 3))
        self.wrong(self.most + behind(3, 0) + either(4, 0))
        self.wrong(self.most + behind(3, 0) + either(0, 4))

    def test_a_loop_of_once(self):
        self.right(self.most + loop(3, 1))
        self.wrong(self.most + behind(3, 0) + loop(4, 1))

    def test_a_loop_of_none_over_many(self):
        many = row(step(), *[loop(k, 4096) for k in range(8)])
        self.wrong(many)
        self.right(many + loop(8, 0))
        self.right(row(step(), *[loop(k, 4096) for k in range(7)], loop(7, 0), behind(8, 0)))
        self.wrong(many + loop(8, 1))

    def test_a_loop_of_none_within_many(self):
        self.right(row(step(), loop(0, 0), *[loop(k, 4096) for k in range(1, 9)]))

    def test_a_loop_of_none_is_as_large_and_as_deep(self):
        self.wrong(row(step(), *[behind(k, 0) for k in range(31)]) + loop(31, 0))
        self.wrong(row(step(), *[behind(k, k) for k in range(9)]) + loop(9, 0))


class NotLookedAt(Case):
    def test_c_and_d_of_other_kinds_than_steps(self):
        for c, d in ((0, TOP), (TOP, 0), (TOP, TOP), (0, 65536)):
            with self.subTest(c=c, d=d):
                self.right(row(step(), behind(0, 0, c, d)))
                self.right(row(step(), either(0, 0, c, d)))
                self.right(row(step(), loop(0, 3, c, d)))

    def test_a_loops_b_names_no_part(self):
        self.right(row(step(), loop(0, 1)))
        self.right(row(step(), loop(0, 4000)))


class NotUsed(Case):
    def test_it_still_has_to_be_as_told(self):
        wrong = (step(b=65536), step(c=0, d=64 * 32), behind(1, 0), behind(0, 1), behind(2, 0), either(1, 0),
                 either(0, 1), either(0, 2), loop(1, 1), loop(2, 1), loop(0, 4097), [4, 0, 0, 0, 0])
        for part in wrong:
            with self.subTest(part=part):
                self.wrong(row(step(), part, step()))
                self.wrong(row(step(), part))

    def test_it_may_be_too_large(self):
        part = row(step(), *[behind(k, k) for k in range(12)])
        self.wrong(part)
        self.right(part + step())

    def test_it_may_be_too_deep(self):
        part = row(step(), *[behind(k, 0) for k in range(40)])
        self.wrong(part)
        self.right(part + step())
        self.right(part + behind(31 - 1, 0))

    def test_it_may_have_too_many_steps(self):
        part = row(step(), *[loop(k, 4096) for k in range(5)])
        self.wrong(part)
        self.right(part + loop(2, 256))


if __name__ == "__main__":
    unittest.main()
