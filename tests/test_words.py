"""tt_right beside the document's words, written down once more as they stand, over many programs."""

import random
import unittest

from hows import NAMES, RIGHT, TOP, USUAL, WRONG, ask


def size(parts, n):
    kind, a, b = parts[n][:3]
    if kind == 0:
        return 1
    return 2 * size(parts, a) + 1 if kind == 3 else size(parts, a) + size(parts, b) + 1


def depth(parts, n):
    kind, a, b = parts[n][:3]
    if kind == 0:
        return 1
    return 1 + max(depth(parts, p) for p in ([a] if kind == 3 else [a, b]))


def steps(parts, n):
    kind, a, b = parts[n][:3]
    if kind == 0:
        return 1
    if kind == 3:
        return sum([steps(parts, a)] * b)
    pair = [steps(parts, a), steps(parts, b)]
    return sum(pair) if kind == 1 else max(pair)


def lines(how, c, d):
    return len({byte // 2 ** how["dataLine"] for byte in range(c, d + 1)})


def part_as_told(how, parts, n):
    kind, a, b, c, d = parts[n]
    before = range(n)
    if kind == 0:
        return b <= 65535 and lines(how, c, d) <= 64
    if kind in (1, 2):
        return a in before and b in before
    return kind == 3 and a in before and b <= 4096


def cache(how, name):
    return (how[name + "Line"] in range(2, 9) and how[name + "Sets"] in {2 ** k for k in range(5)}
            and how[name + "Ways"] in range(1, 9) and how[name + "None"] == 0)


def told(how, parts):
    if not (cache(how, "code") and cache(how, "data") and how["none"] == 0):
        return WRONG
    if how["codeMiss"] > 65535 or how["dataMiss"] > 65535 or len(parts) not in range(1, 65):
        return WRONG
    if not all(part_as_told(how, parts, n) for n in range(len(parts))):
        return WRONG
    last = len(parts) - 1
    fits = size(parts, last) <= 1024 and depth(parts, last) <= 32 and steps(parts, last) <= 2 ** 32
    return RIGHT if fits else WRONG


def some_step(pick):
    c = pick.choice((0, 3, 31, 32, 1000, TOP - 3000))
    d = min(TOP, max(0, c + pick.choice((-1, 0, 1, 5, 255, 256, 500, 2016, 2047, 2048))))
    return [0, pick.randrange(TOP + 1), pick.choice((0, 1, 9, 65535)), c, d]


def some_part(pick, n):
    kind = pick.choice((0, 1, 1, 2, 3)) if n else 0
    if kind == 0:
        return some_step(pick)
    near = pick.choice((1, 2, n))
    a, b = (pick.randrange(max(0, n - near), n) for which in "ab")
    if kind == 3:
        b = pick.choice((0, 1, 1, 2, 16, 255, 256, 4096))
    return [kind, a, b, pick.randrange(TOP + 1), pick.randrange(TOP + 1)]


def some_how(pick):
    how = dict(USUAL, codeLine=pick.randrange(2, 9), dataLine=pick.randrange(2, 9))
    if pick.random() < 0.1:
        how[pick.choice(NAMES)] = pick.choice((0, 1, 2, 3, 8, 9, 16, 65535, 65536, TOP))
    return how


def some_program(pick):
    parts = [some_part(pick, n) for n in range(pick.randrange(1, 15))]
    if pick.random() < 0.1:
        n = pick.randrange(len(parts))
        # Not c or d: of a step they might then be further apart than any that is handed in.
        parts[n][pick.randrange(3)] = pick.choice((n, n + 1, 4, 4096, 4097, 65535, 65536, TOP))
    return parts


class BesideTheWords(unittest.TestCase):
    def test_many_programs(self):
        pick = random.Random(22)
        seen = {0: 0, -22: 0}
        for turn in range(2000):
            how, parts = some_how(pick), some_program(pick)
            answer = told(how, parts)
            seen[answer[1]] += 1
            self.assertEqual(ask([number for part in parts for number in part], **how), answer, (how, parts))
        self.assertGreater(min(seen.values()), 300)


if __name__ == "__main__":
    unittest.main()
