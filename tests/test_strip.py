import time
import unittest
from itertools import product

from knotcharts.symmetries import has, least, strip
from tests.helper import (BY_THREE, BY_TWO, COLOURS, DOC_CHARTS, PINWHEEL, PUSHED_ON, REFUSED_TEXTS, WITHOUT_STEPS,
                          Watched, coloured_anew, drawn, in_ring, repeated, small_charts, text)

# Of each kind: a chart's width, its height, and the motions that it has: with b 0 when m is 0 or 4,
# with b h - 1 when m is 2 or 6, so that no knot leaves the strip.
DRAWN = {
    1: [(3, 2, []), (4, 3, []), (3, 3, []), (6, 2, [(0, 3, 0)])],
    2: [(3, 2, [(6, 0, 1)]), (3, 3, [(6, 0, 2)]), (6, 3, [(0, 3, 0), (6, 3, 2)]), (4, 1, [])],
    3: [(4, 2, [(4, 0, 0)]), (3, 2, [(4, 1, 0)]), (1, 3, []), (6, 4, [(0, 3, 0), (4, 1, 0)])],
    4: [(4, 2, [(6, 2, 1)]), (6, 3, [(6, 3, 2)]), (8, 3, [(0, 4, 0), (6, 2, 2)])],
    5: [(3, 2, [(2, 0, 1)]), (4, 3, [(2, 1, 2)]), (4, 4, [(2, 2, 3)]), (6, 3, [(0, 3, 0), (2, 1, 2)])],
    6: [(4, 2, [(4, 0, 0), (6, 2, 1)]), (4, 4, [(4, 3, 0), (2, 1, 3)]), (8, 2, [(0, 4, 0), (4, 1, 0), (6, 2, 1)])],
    7: [(4, 3, [(4, 0, 0), (6, 0, 2)]), (4, 4, [(4, 3, 0), (2, 3, 3)]), (3, 1, [(4, 0, 0)]), (1, 1, []),
        (6, 2, [(0, 3, 0), (4, 1, 0), (6, 3, 1)])],
}

# For how many m there are symmetries.
TURNS = {1: 1, 2: 2, 3: 2, 4: 2, 5: 2, 6: 4, 7: 4}


def border_moves(written):
    """Give all (m, a) with a from 0 to w - 1, knot by knot as the document tells them."""
    rows = written.split("/")[:-1]
    width, height = len(rows[0]), len(rows)
    found = []
    for m, a in product((0, 2, 4, 6), range(width)):
        moved = [(x, y, {0: (x + a, y), 2: (a - x, height - 1 - y), 4: (a - x, y), 6: (x + a, height - 1 - y)}[m])
                 for x in range(width) for y in range(height)]
        if all(rows[place[1]][place[0] % width] == rows[y][x] for x, y, place in moved):
            found.append((m, a))
    return found


def border(written):
    """Give what strip answers by the document's words alone."""
    width = written.index("/")
    moves = border_moves(written)
    u = any(m == 4 for m, a in moves)
    t = any(m == 2 for m, a in moves)
    f = any(m == 6 and (0, a) in moves for m, a in moves)
    g = any(m == 6 for m, a in moves) and not f
    kinds = [number for number, holds in [
        (1, not (u or t or f or g)), (2, f and not u), (3, u and not (f or g or t)), (4, g and not u),
        (5, t and not (u or f or g)), (6, u and g), (7, u and f)] if holds]
    assert len(kinds) == 1, (written, kinds)
    step = min(a for a in range(1, width + 1) if (0, a % width) in moves)
    return [kinds[0], step, len(moves)]


class StripTest(unittest.TestCase):
    def agree(self, written):
        answer = strip(text(written))
        self.assertEqual(answer, border(written), written)
        self.assertEqual([type(number) for number in answer], [int] * 3, written)

    def answers(self, expected):
        for written, number, step, moves in expected:
            self.assertEqual(strip(text(written)), [number, step, moves], written)
            self.agree(written)

    def test_runs_of_the_document(self):
        self.assertEqual(strip(text("ab/ba/")), [6, 2, 4])
        self.assertEqual(strip(text("ab/")), [7, 2, 4])
        for written in DOC_CHARTS:
            self.agree(written)

    def test_each_kind(self):
        for number, charts in DRAWN.items():
            for chart in charts:
                written = drawn(*chart)
                answer = strip(text(written))
                self.assertEqual(answer[0], number, (chart, written))
                self.assertEqual(answer[2], TURNS[number] * len(written.split("/")[0]) // answer[1], written)
                self.agree(written)
        self.assertEqual(sorted(DRAWN), list(range(1, 8)))

    def test_each_kind_told_by_hand(self):
        self.answers([("abc/def/", 1, 3, 1), ("aab/abb/", 1, 3, 1), ("aabc/", 2, 4, 2), ("aabc/ddde/aabc/", 2, 4, 2),
                      ("aab/bbb/", 3, 3, 2), ("aabc/bcaa/", 4, 4, 2), ("aab/baa/", 5, 3, 2), ("abc/ddd/cba/", 5, 3, 2),
                      ("aabb/bbaa/", 6, 4, 4), ("aaab/abaa/", 6, 4, 4), ("aab/", 7, 3, 4),
                      ("aab/bbb/aab/", 7, 3, 4)])

    def test_small_charts(self):
        for written in small_charts():
            self.agree(written)

    def test_charts_of_eight_and_nine(self):
        for width, height in [(4, 2), (2, 4), (3, 3)]:
            for knots in product("ab", repeat=width * height):
                self.agree("".join("".join(knots[y * width:(y + 1) * width]) + "/" for y in range(height)))

    def test_charts_of_three_colours(self):
        for width, height in [(3, 2), (6, 1), (2, 3)]:
            for knots in product("abc", repeat=width * height):
                self.agree("".join("".join(knots[y * width:(y + 1) * width]) + "/" for y in range(height)))

    def test_larger_charts(self):
        for written in WITHOUT_STEPS + [PUSHED_ON, BY_TWO, BY_THREE, PINWHEEL, repeated(PINWHEEL, 2, 1)]:
            self.agree(written)

    def test_not_over_the_upper_or_lower_edge(self):
        # As a field each has the motion told here, which as a border is none.
        for written, m, a, b, answer in [
                ("ab/cd/", 6, 0, 0, [3, 2, 2]), ("ab/cd/", 2, 0, 0, [3, 2, 2]), ("a/b/", 6, 0, 0, [3, 1, 2]),
                ("ab/ab/cd/", 2, 0, 1, [3, 2, 2]), ("ab/ba/cc/", 6, 1, 1, [3, 2, 2]),
                ("abc/def/def/", 6, 0, 0, [1, 3, 1]), ("abc/abc/ddd/", 6, 0, 1, [1, 3, 1]),
                ("abc/cba/ddd/", 2, 2, 1, [1, 3, 1]), ("aabc/bcaa/dddd/", 6, 2, 1, [1, 4, 1]),
                ("abc/bca/cab/", 0, 2, 1, [1, 3, 1]), ("abc/bca/cab/", 7, 0, 0, [1, 3, 1])]:
            self.assertEqual(has(m, a, b, text(written)), [1], written)
            self.assertEqual(strip(text(written)), answer, written)
            self.agree(written)

    def test_upside_down_as_it_is_or_with_a_step(self):
        # (6, 2) with the step (0, 2), and (6, 0) too: F. (6, 1) without the step (0, 1): G.
        self.answers([("abab/cdcd/abab/", 7, 2, 8), ("abcabc/abcabc/", 2, 3, 4), ("aaaa/bbbb/aaaa/", 7, 1, 16),
                      ("abab/baba/", 6, 2, 8), ("abcdabcd/cdabcdab/", 4, 4, 4), ("aabbaabb/bbaabbaa/", 6, 4, 8)])
        self.assertIn((6, 3), border_moves("abcabc/abcabc/"))
        self.assertIn((0, 3), border_moves("abcabc/abcabc/"))
        self.assertNotIn((6, 0), border_moves("abcdabcd/cdabcdab/"))

    def test_half_turns_alone(self):
        self.answers([("aab/baa/", 5, 3, 2), ("abc/cba/", 5, 3, 2), ("abc/ddd/cba/", 5, 3, 2),
                      ("abc/dad/acb/", 1, 3, 1), ("abc/dad/cba/", 5, 3, 2), ("abcabc/cbacba/", 5, 3, 4)])

    def test_one_row(self):
        self.answers([("a/", 7, 1, 4), ("aaa/", 7, 1, 12), ("ab/", 7, 2, 4), ("aab/", 7, 3, 4), ("abcb/", 7, 4, 4),
                      ("abc/", 2, 3, 2), ("aabc/", 2, 4, 2), ("abcabc/", 2, 3, 4)])

    def test_one_column(self):
        self.answers([("a/", 7, 1, 4), ("a/a/", 7, 1, 4), ("a/b/", 3, 1, 2), ("a/b/a/", 7, 1, 4), ("a/a/b/", 3, 1, 2),
                      ("a/b/a/b/", 3, 1, 2), ("a/b/b/a/", 7, 1, 4)])

    def test_one_knot_of_each_colour(self):
        for colour in COLOURS:
            self.assertEqual(strip([colour, 10]), [7, 1, 4])

    def test_least_steps(self):
        for written, step in [("abab/", 2), ("ababa/", 5), ("abab/aabb/", 4), ("ababab/abcabc/", 6), ("aaaa/aaab/", 4),
                              ("abab/cccc/", 2), ("aabaab/abbabb/", 3), ("aabaab/abbabc/", 6), ("aaaaaa/bbbbbb/", 1),
                              ("abcabcabc/", 3), ("aaaaaaab/", 8), ("ab/ba/", 2), ("abcd/cdab/", 4)]:
            self.assertEqual(strip(text(written))[1], step, written)
            self.assertEqual(least(text(written))[1], step, written)
            self.agree(written)

    def test_as_many_as_has_finds(self):
        for written in DOC_CHARTS + WITHOUT_STEPS + [PUSHED_ON, BY_TWO, PINWHEEL, "abab/baba/"]:
            last = written.count("/") - 1
            found = [has(m, a, b, text(written)) for m, b in ((0, 0), (2, last), (4, 0), (6, last))
                     for a in range(written.index("/"))]
            self.assertEqual(strip(text(written))[2], found.count([1]), written)

    def test_all_colours_are_told_apart(self):
        self.assertEqual(strip(list(COLOURS) + [10]), [2, 62, 2])
        self.assertEqual(strip([byte for colour in COLOURS for byte in (colour, 10)]), [3, 1, 2])

    def test_name_of_the_argument(self):
        self.assertEqual(strip(t=text("ab/ba/")), [6, 2, 4])


class SameBorderTest(unittest.TestCase):
    def charts(self):
        return DOC_CHARTS + WITHOUT_STEPS + [PUSHED_ON] + [
            drawn(*chart) for charts in DRAWN.values() for chart in charts]

    def test_moved_on_to_the_side(self):
        for written in self.charts():
            for right in range(1, written.index("/")):
                self.assertEqual(strip(text(in_ring(written, right, 0))), strip(text(written)), (written, right))

    def test_coloured_anew(self):
        for written in self.charts():
            for on in (1, 26, 45, 61):
                self.assertEqual(strip(text(coloured_anew(written, on))), strip(text(written)), (written, on))

    def test_repeated_to_the_side(self):
        for written in self.charts():
            number, step, moves = strip(text(written))
            for across in (2, 3, 5):
                self.assertEqual(strip(text(repeated(written, across, 1))), [number, step, moves * across], written)

    def test_all_at_once(self):
        for written in self.charts():
            number, step, moves = strip(text(written))
            other = coloured_anew(in_ring(repeated(written, 3, 1), 2, 0), 17)
            self.assertEqual(strip(text(other)), [number, step, moves * 3], written)

    def test_mirrored_or_upside_down(self):
        for written in self.charts():
            rows = written.split("/")[:-1]
            for other in ("".join(row[::-1] + "/" for row in rows), "".join(row + "/" for row in rows[::-1])):
                self.assertEqual(strip(text(other)), strip(text(written)), written)

    def test_moved_on_downwards_is_another_border(self):
        self.assertEqual(strip(text("aab/bbb/aab/")), [7, 3, 4])
        self.assertEqual(strip(text(in_ring("aab/bbb/aab/", 0, 1))), [3, 3, 2])


class LongTest(unittest.TestCase):
    def test_long_charts(self):
        for t, answer in [
                (text("a" * 24 + "/") * 23, [7, 1, 96]),
                (text("a" * 23 + "/") * 24, [7, 1, 92]),
                (text("a" * 24 + "/") * 24, [7, 1, 96]),
                (text("a/") * 300, [7, 1, 4]),
                (text("a" * 512 + "/"), [7, 1, 2048]),
                (text("a" * 298 + "/") * 2, [7, 1, 1192]),
                (text("a" * 24 + "/") * 22 + text("a" * 23 + "b/"), [3, 24, 2]),
                (text("a/") * 299 + text("b/"), [3, 1, 2]),
                (text("a" * 511 + "b/"), [7, 512, 4]),
                (text("a" * 510 + "bc/"), [2, 512, 2]),
                (text("ab" * 12 + "/" + "ba" * 12 + "/") * 12, [6, 2, 48])]:
            started = time.process_time()
            self.assertEqual(strip(t), answer)
            self.assertLess(time.process_time() - started, 2)


class RefusalTest(unittest.TestCase):
    def test_texts_that_are_no_charts(self):
        for refusal, what, t in REFUSED_TEXTS:
            self.assertEqual(strip(t), [refusal], what)


class HandedInTest(unittest.TestCase):
    def test_text_stays_as_it_was(self):
        for given in [text("ab/ba/"), text("abab/baba/"), text("aab/a/"), [], [97] * 66049]:
            watched = Watched(given)
            strip(watched)
            self.assertEqual(list(watched), given)

    def test_each_call_is_by_itself(self):
        t = text("aab/")
        strip(t).append(5)
        strip(text("ab/ba/"))
        strip([])
        self.assertEqual(strip(t), [7, 3, 4])
        t[0] = 99
        self.assertEqual(strip(t), [2, 3, 2])


if __name__ == "__main__":
    unittest.main()
