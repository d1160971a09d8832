import time
import unittest
from itertools import product

from knotcharts.symmetries import kind
from tests.helper import (COLOURS, DOC_CHARTS, PINWHEEL, PUSHED_ON, REFUSED_TEXTS, WITHOUT_STEPS, Watched,
                          coloured_anew, drawn, in_ring, repeated, small_charts, text, told, turn)

# Of each kind: a chart's width, its height, the motions that it has.
DRAWN = {
    1: [(3, 3, []), (10, 10, [(0, 3, 1)]), (12, 12, [(0, 2, 2), (0, 3, -3)])],
    2: [(4, 3, [(6, 0, 0)]), (4, 3, [(6, 0, 1)]), (3, 4, [(4, 1, 0)]), (4, 4, [(0, 2, 2), (7, 0, 0)]),
        (4, 4, [(0, 2, 2), (5, 0, 0)]), (4, 4, [(0, 2, 2), (7, 1, -1)]), (4, 4, [(0, 2, 2), (5, 1, 1)])],
    3: [(4, 3, [(6, 2, 0)]), (3, 4, [(4, 0, 2)]), (4, 3, [(6, 2, 1)]), (12, 12, [(0, 3, 3), (0, 2, -2), (7, 3, 0)]),
        (12, 12, [(0, 2, 2), (0, 3, -3), (7, 1, 1)]), (12, 12, [(0, 3, 3), (0, 2, -2), (5, 1, -1)])],
    4: [(3, 3, [(7, 0, 0)]), (3, 3, [(5, 0, 0)]), (3, 3, [(7, 1, -1)]), (4, 4, [(7, 0, 0)]), (4, 4, [(7, 1, -1)]),
        (4, 4, [(5, 1, 1)]), (4, 6, [(0, 2, 3), (4, 0, 0)]), (6, 4, [(0, 3, 2), (4, 1, 0)]),
        (4, 6, [(0, 2, 3), (6, 0, 1)]), (24, 24, [(0, 1, 5), (0, 5, 1), (5, 1, 1)])],
    5: [(3, 3, [(2, 0, 0)]), (4, 3, [(2, 1, 1)]), (10, 10, [(0, 3, 1), (2, 0, 0)]),
        (12, 12, [(0, 2, 2), (0, 3, -3), (2, 0, 1)])],
    6: [(4, 6, [(4, 0, 0), (6, 0, 0)]), (4, 6, [(4, 1, 0), (6, 0, 3)]),
        (12, 12, [(0, 2, 2), (0, 3, -3), (5, 0, 0), (7, 0, 0)])],
    7: [(4, 6, [(4, 0, 0), (6, 2, 0)]), (4, 6, [(4, 0, 3), (6, 0, 0)]), (4, 6, [(4, 1, 0), (6, 2, 1)]),
        (12, 12, [(0, 2, 2), (0, 3, -3), (5, 0, 0), (7, 1, 1)]),
        (10, 10, [(0, 1, 1), (0, 5, -5), (7, 1, 0)])],
    8: [(4, 6, [(4, 2, 3), (6, 2, 3)]), (6, 4, [(4, 3, 2), (6, 3, 2)]),
        (8, 8, [(0, 4, 4), (0, 4, -4), (7, 4, 0), (5, 4, 0)]),
        (24, 24, [(0, 4, 4), (0, 6, -6), (7, 5, -1), (5, 5, -1)])],
    9: [(4, 6, [(0, 2, 3), (4, 0, 0), (6, 0, 0)]), (4, 6, [(0, 2, 3), (4, 1, 0), (6, 0, 1)]),
        (5, 5, [(5, 0, 0), (7, 0, 0)]), (6, 6, [(5, 0, 0), (7, 0, 0)]), (6, 6, [(5, 1, 1), (7, 2, -2)])],
    10: [(5, 5, [(1, 0, 0)]), (6, 6, [(1, 0, 0)]), (6, 6, [(1, 1, 0)]), (10, 10, [(0, 3, 1), (1, 0, 0)])],
    11: [(5, 5, [(1, 0, 0), (7, 0, 0)]), (6, 6, [(1, 0, 0), (4, 0, 0)]), (6, 6, [(0, 3, 3), (1, 0, 0), (4, 0, 0)]),
         (4, 4, [(1, 0, 0), (7, 2, 2)])],
    12: [(6, 6, [(1, 0, 0), (7, 3, 3)]), (6, 6, [(4, 0, 3), (7, 0, 0)]), (6, 6, [(1, 1, 0), (7, 3, 3)]),
         (8, 8, [(4, 0, 4), (1, 0, 0)])],
}

# Of each kind a small chart of two colours.
OF_TWO_COLOURS = {
    1: "aaba/aaaa/aabb/", 2: "aab/abb/", 3: "aabb/abab/bbaa/", 4: "aba/aaa/abb/", 5: "aba/aab/abb/", 6: "aab/",
    7: "aaab/aaba/", 8: "baab/aabb/bbaa/abba/", 9: "aaab/abaa/", 10: "baaa/aaab/bbab/babb/", 11: "aa/ab/",
    12: "baaa/aaab/abaa/aaba/"}

# Of how many m there are symmetries, and of how many mirrors.
NUMBERS = {1: (1, 0), 2: (2, 1), 3: (2, 0), 4: (2, 1), 5: (2, 0), 6: (4, 2),
           7: (4, 1), 8: (4, 0), 9: (4, 2), 10: (4, 0), 11: (8, 4), 12: (8, 2)}


def drawn_charts():
    """Give pairs of a kind and a chart of it."""
    return [(number, drawn(*chart)) for number, charts in DRAWN.items() for chart in charts]


def field_kind(written):
    """Give what kind answers by the document's words alone."""
    width, height = written.index("/"), written.count("/")
    all_near = [(m, a + i * width, b + j * height)
                for m, a, b in told(written) for i in range(-2, 3) for j in range(-2, 3)]
    steps = {(a, b) for m, a, b in all_near if m == 0}
    turns = {m for m, a, b in all_near}
    mirrors, glides = set(), set()
    for m, a, b in all_near:
        if m >= 4:
            x, y = turn(m, a, b)
            twice = (x + a, y + b)
            if twice == (0, 0):
                mirrors.add(m)
            elif twice[0] % 2 or twice[1] % 2 or (twice[0] // 2 % width, twice[1] // 2 % height) not in steps:
                glides.add(m)
    if {1, 3} & turns:
        number = 10 if max(turns) < 4 else 11 if len(mirrors) == 4 else 12
    elif 2 in turns:
        if max(turns) < 4:
            number = 5
        else:
            number = {0: 8, 1: 7, 2: 9 if glides else 6}[len(mirrors)]
    elif max(turns) < 4:
        number = 1
    else:
        number = 4 if mirrors and glides else 2 if mirrors else 3
    return [number, len(turns), len(mirrors)]


class KindTest(unittest.TestCase):
    def is_kind(self, written, number):
        answer = kind(text(written))
        self.assertEqual(answer, [number, *NUMBERS[number]], written)
        self.assertEqual([type(number) for number in answer], [int] * 3, written)

    def test_runs_of_the_document(self):
        self.assertEqual(kind(text("ab/ba/")), [11, 8, 4])
        self.assertEqual(kind(text("aab/")), [6, 4, 2])
        self.assertEqual(kind(text("aabc/")), [2, 2, 1])
        self.assertEqual(kind(text("ab/cd/")), [6, 4, 2])
        self.assertEqual(kind(text("abc/bca/cab/")), [4, 2, 1])

    def test_each_kind(self):
        for number, written in drawn_charts():
            self.is_kind(written, number)
        self.assertEqual(sorted(DRAWN), list(range(1, 13)))

    def test_drawn_charts_by_the_words(self):
        for number, written in drawn_charts():
            if len(written) <= 110:
                self.assertEqual(field_kind(written), [number, *NUMBERS[number]], written)

    def test_each_kind_of_two_colours(self):
        for number, written in OF_TWO_COLOURS.items():
            self.is_kind(written, number)
            self.assertEqual(field_kind(written), [number, *NUMBERS[number]], written)
        self.assertEqual(sorted(OF_TWO_COLOURS), list(range(1, 13)))

    def test_small_charts(self):
        for written in small_charts():
            self.assertEqual(kind(text(written)), field_kind(written), written)

    def test_charts_of_eight_and_nine(self):
        for width, height in [(4, 2), (2, 4), (3, 3)]:
            for knots in product("ab", repeat=width * height):
                written = "".join("".join(knots[y * width:(y + 1) * width]) + "/" for y in range(height))
                self.assertEqual(kind(text(written)), field_kind(written), written)

    def test_other_charts_by_the_words(self):
        for written in DOC_CHARTS + WITHOUT_STEPS + [PINWHEEL, PUSHED_ON, repeated(PINWHEEL, 2, 1)]:
            self.assertEqual(kind(text(written)), field_kind(written), written)

    def test_mirrors_alone_or_glides_too(self):
        # The same mirror upright and lying, without and with the step to the middle.
        for number, step in [(2, []), (4, [(0, 2, 3)])]:
            self.is_kind(drawn(4, 6, step + [(4, 0, 0)]), number)
            self.is_kind(drawn(4, 6, step + [(4, 1, 0)]), number)
            self.is_kind(drawn(4, 6, step + [(6, 0, 0)]), number)
            self.is_kind(drawn(4, 6, step + [(6, 0, 5)]), number)
        for number, step in [(6, []), (9, [(0, 2, 3)])]:
            self.is_kind(drawn(4, 6, step + [(4, 0, 0), (6, 0, 0)]), number)
            self.is_kind(drawn(4, 6, step + [(4, 3, 0), (6, 0, 1)]), number)

    def test_mirrors_along_diagonals(self):
        for m, a, b in [(7, 0, 0), (7, 1, -1), (7, 3, 1), (5, 0, 0), (5, 2, 2), (5, 3, 3)]:
            self.is_kind(drawn(4, 4, [(m, a, b)]), 4)
            self.is_kind(drawn(4, 4, [(0, 2, 2), (m, a, b)]), 2)

    def test_half_of_a_glide_is_no_whole_step(self):
        # (7, 3, 0) done twice is the step (3, 3), (5, 3, 0) the step (3, -3).
        self.is_kind(drawn(12, 12, [(0, 2, -2), (7, 3, 0)]), 3)
        self.is_kind(drawn(12, 12, [(0, 2, 2), (5, 3, 0)]), 3)

    def test_mirrors_and_glides_that_are_not_told(self):
        # One symmetry with m 7 is told: (7, 1, 3), a glide. The mirror is (7, 1, -1).
        not_told_mirror = drawn(4, 4, [(7, 1, -1)])
        self.assertEqual([each for each in told(not_told_mirror) if each[0] > 0], [(7, 1, 3)])
        self.is_kind(not_told_mirror, 4)
        # One is told: (7, 0, 0), a mirror. A glide is (7, 4, 0).
        not_told_glide = drawn(4, 4, [(7, 0, 0)])
        self.assertEqual([each for each in told(not_told_glide) if each[0] > 0], [(7, 0, 0)])
        self.is_kind(not_told_glide, 4)
        # One is told: (5, 0, 0), a mirror. A glide is (5, 4, 0), or (5, 0, -4).
        not_told_glide = drawn(4, 4, [(5, 0, 0)])
        self.assertEqual([each for each in told(not_told_glide) if each[0] > 0], [(5, 0, 0)])
        self.is_kind(not_told_glide, 4)
        # Two are told: (7, 1, 3) and (7, 3, 1). Both are mirrors further on; none is a glide.
        no_glide = drawn(4, 4, [(0, 2, 2), (7, 1, -1)])
        self.assertEqual([each for each in told(no_glide) if each[0] > 0], [(7, 3, 1), (7, 1, 3)])
        self.is_kind(no_glide, 2)

    def test_not_as_high_as_wide(self):
        for number, written in drawn_charts():
            for across, down in [(2, 1), (1, 2), (3, 2)]:
                if len(repeated(written, across, down)) <= 600:
                    self.is_kind(repeated(written, across, down), number)
        self.is_kind("abab/baba/", 11)
        self.is_kind("ab/ba/ab/ba/ab/ba/", 11)
        self.is_kind("abcabc/bcabca/cabcab/", 4)
        self.is_kind(repeated("aa/ab/", 2, 3), 11)
        self.is_kind(repeated("aab/aba/baa/", 1, 3), 9)
        self.is_kind(repeated(PINWHEEL, 2, 1), 10)
        self.is_kind(repeated("baaa/aaab/abaa/aaba/", 1, 2), 12)
        self.is_kind(repeated("baaa/aaab/abaa/aaba/", 3, 2), 12)

    def test_one_row_and_one_column(self):
        for row, number in [("a/", 11), ("aaaa/", 11), ("ab/", 6), ("aab/", 6), ("abcb/", 6), ("abc/", 2),
                            ("aabc/", 2), ("abcabc/", 2)]:
            self.is_kind(row, number)
            self.is_kind("".join(knot + "/" for knot in row[:-1]), number)

    def test_one_knot_of_each_colour(self):
        for colour in COLOURS:
            self.assertEqual(kind([colour, 10]), [11, 8, 4])

    def test_all_colours_are_told_apart(self):
        self.assertEqual(kind(list(COLOURS) + [10]), [2, 2, 1])
        self.assertEqual(kind([byte for colour in COLOURS for byte in (colour, 10)]), [2, 2, 1])

    def test_name_of_the_argument(self):
        self.assertEqual(kind(t=text("ab/ba/")), [11, 8, 4])


class SameKindTest(unittest.TestCase):
    def same(self, one, other):
        self.assertEqual(kind(text(other)), kind(text(one)), (one, other))

    def charts(self):
        return DOC_CHARTS + list(OF_TWO_COLOURS.values()) + [
            drawn(*chart) for charts in DRAWN.values() for chart in charts if chart[0] <= 6]

    def test_moved_on_in_a_ring(self):
        for written in self.charts():
            for right, down in product(range(written.index("/")), range(written.count("/"))):
                self.same(written, in_ring(written, right, down))

    def test_coloured_anew(self):
        for written in self.charts():
            for on in (1, 26, 45, 61):
                self.same(written, coloured_anew(written, on))
            knots = sorted(set(written) - {"/"})
            backwards = dict(zip(knots + ["/"], knots[::-1] + ["/"]))
            self.same(written, "".join(backwards[knot] for knot in written))

    def test_repeated(self):
        for written in self.charts():
            for across, down in [(2, 1), (1, 2), (2, 2), (3, 1), (2, 3), (1, 5)]:
                self.same(written, repeated(written, across, down))

    def test_all_at_once(self):
        for written in self.charts():
            self.same(written, coloured_anew(in_ring(repeated(written, 2, 3), 3, 5), 17))

    def test_turned_and_mirrored(self):
        for written in self.charts():
            rows = written.split("/")[:-1]
            self.same(written, "".join(row[::-1] + "/" for row in rows))
            self.same(written, "".join(row + "/" for row in rows[::-1]))
            self.same(written, "".join("".join(column) + "/" for column in zip(*rows)))
            self.same(written, "".join("".join(column) + "/" for column in zip(*rows[::-1])))


class LongTest(unittest.TestCase):
    def test_long_charts(self):
        for t, answer in [
                (text("a" * 24 + "/") * 23, [11, 8, 4]),
                (text("a" * 23 + "/") * 24, [11, 8, 4]),
                (text("a" * 24 + "/") * 24, [11, 8, 4]),
                (text("a/") * 300, [11, 8, 4]),
                (text("a" * 512 + "/"), [11, 8, 4]),
                (text("a" * 298 + "/") * 2, [11, 8, 4]),
                (text("a" * 24 + "/") * 22 + text("a" * 23 + "b/"), [6, 4, 2]),
                (text("a" * 24 + "/") * 23 + text("a" * 23 + "b/"), [11, 8, 4]),
                (text("a/") * 299 + text("b/"), [6, 4, 2]),
                (text("a" * 511 + "b/"), [6, 4, 2]),
                (text("a" * 24 + "/") * 22 + text("a" * 21 + "bac/"), [2, 2, 1]),
                (text("ab" * 12 + "/" + "ba" * 12 + "/") * 12, [11, 8, 4])]:
            started = time.process_time()
            self.assertEqual(kind(t), answer)
            self.assertLess(time.process_time() - started, 2)


class RefusalTest(unittest.TestCase):
    def test_texts_that_are_no_charts(self):
        for refusal, what, t in REFUSED_TEXTS:
            self.assertEqual(kind(t), [refusal], what)


class HandedInTest(unittest.TestCase):
    def test_text_stays_as_it_was(self):
        for given in [text("ab/ba/"), text("abab/baba/"), text("aab/a/"), [], [97] * 66049]:
            watched = Watched(given)
            kind(watched)
            self.assertEqual(list(watched), given)

    def test_each_call_is_by_itself(self):
        t = text("aab/")
        kind(t).append(5)
        kind(text("ab/ba/"))
        kind([])
        self.assertEqual(kind(t), [6, 4, 2])
        t[0] = 99
        self.assertEqual(kind(t), [2, 2, 1])


if __name__ == "__main__":
    unittest.main()
