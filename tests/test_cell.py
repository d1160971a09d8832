import time
import unittest
from itertools import product

from knotcharts.symmetries import cell, kind, least
from tests.helper import (BY_THREE, BY_TWO, COLOURS, DOC_CHARTS, PINWHEEL, PUSHED_ON, REFUSED_TEXTS, WITHOUT_STEPS,
                          Watched, coloured_anew, least_repeat, repeated, small_charts, text)


def least_chart(written):
    """Give the chart of the least repeat by the document's words alone."""
    rows = written.split("/")[:-1]
    p, q, r = least_repeat(written)
    return "".join("".join(rows[y][x] for x in range(p)) + "/" for y in range(r))


class CellTest(unittest.TestCase):
    def gives(self, written, expected):
        answer = cell(text(written))
        self.assertEqual(answer, [len(expected)] + text(expected), written)
        self.assertEqual({type(number) for number in answer}, {int}, written)

    def test_runs_of_the_document(self):
        self.assertEqual(cell(text("ab/ba/")), [3, 97, 98, 10])
        self.assertEqual(cell(text("aab/")), [4, 97, 97, 98, 10])
        self.assertEqual(cell(text("ab/cd/")), [6, 97, 98, 10, 99, 100, 10])
        for written, expected in [("aabc/", "aabc/"), ("abc/bca/cab/", "abc/"), ("ab/", "ab/")]:
            self.gives(written, expected)

    def test_small_charts(self):
        for written in small_charts():
            self.gives(written, least_chart(written))

    def test_square_charts_of_three(self):
        for knots in product("ab", repeat=9):
            written = "".join("".join(knots[y:y + 3]) + "/" for y in (0, 3, 6))
            self.gives(written, least_chart(written))

    def test_charts_that_are_their_own_least_repeat(self):
        for written in WITHOUT_STEPS + ["a/", "aab/", "a/a/b/", "ababa/", "a/b/a/b/a/", "aba/cbc/"]:
            self.gives(written, written)

    def test_repeated_to_the_side_and_down(self):
        for written in WITHOUT_STEPS:
            for across, down in [(2, 1), (5, 1), (1, 2), (1, 5), (2, 2), (3, 2), (2, 3)]:
                self.gives(repeated(written, across, down), written)

    def test_pushed_to_the_side_downwards(self):
        for written, expected in [("ab/ba/", "ab/"), (PUSHED_ON, "aabb/abbb/"), (BY_TWO, "aaabbc/"),
                                  (BY_THREE, "abcde/"), (PINWHEEL, "baaaa/"), ("abcabc/bcabca/cabcab/", "abc/")]:
            self.assertGreater(least(text(written))[2], 0)
            for across, down in [(1, 1), (2, 1), (1, 2), (2, 2), (3, 4)]:
                self.gives(repeated(written, across, down), expected)

    def test_one_knot(self):
        for colour in COLOURS:
            self.assertEqual(cell([colour, 10]), [2, colour, 10])

    def test_all_alike(self):
        for width, height in [(2, 1), (1, 2), (3, 2), (7, 5)]:
            self.gives(("Q" * width + "/") * height, "Q/")

    def test_nearly_a_repeat(self):
        for written in ["ababababc/", "abab/abab/abac/", "ab/ab/ab/bb/", "aab/aab/aab/aaa/", "ababa/ababa/"]:
            self.gives(written, least_chart(written))
        self.gives("ababa/ababa/", "ababa/")
        self.gives("ab/ab/ab/bb/", "ab/ab/ab/bb/")

    def test_first_knots_of_the_field(self):
        # The same field begun elsewhere: the chart begins at the place (0, 0).
        for written, expected in [("ba/ab/", "ba/"), ("bcabca/", "bca/"), ("cd/ab/cd/ab/", "cd/ab/"),
                                  ("dc/ba/dc/ba/", "dc/ba/")]:
            self.gives(written, expected)

    def test_bytes_and_how_many(self):
        for written in DOC_CHARTS + WITHOUT_STEPS + [PUSHED_ON, BY_TWO, repeated(PUSHED_ON, 2, 3)]:
            answer = cell(text(written))
            refusal, p, q, r = least(text(written))
            self.assertEqual(answer[0], len(answer) - 1, written)
            self.assertEqual(answer[0], (p + 1) * r, written)
            self.assertEqual([place for place, byte in enumerate(answer[1:]) if byte == 10],
                             [p + row * (p + 1) for row in range(r)], written)

    def test_all_colours_are_told_apart(self):
        row = list(COLOURS) + [10]
        self.assertEqual(cell(row), [63] + row)
        column = [byte for colour in COLOURS for byte in (colour, 10)]
        self.assertEqual(cell(column), [124] + column)

    def test_coloured_anew(self):
        for written in DOC_CHARTS + [PUSHED_ON, BY_THREE]:
            for on in (1, 26, 40, 61):
                self.gives(coloured_anew(written, on), coloured_anew(least_chart(written), on))

    def test_cell_of_the_cell(self):
        # The chart of the least repeat may itself repeat to another field, but where q is 0 it's the same.
        for written in small_charts():
            if least(text(written))[2] == 0:
                again = cell(text(written))[1:]
                self.assertEqual(cell(again)[1:], again, written)
                self.assertEqual(kind(again), kind(text(written)), written)

    def test_field_again(self):
        for written in list(small_charts()) + DOC_CHARTS + WITHOUT_STEPS + [PUSHED_ON, BY_TWO, BY_THREE, PINWHEEL]:
            rows = written.split("/")[:-1]
            width, height = len(rows[0]), len(rows)
            refusal, p, q, r = least(text(written))
            knots = bytes(cell(text(written))[1:]).decode().split("\n")
            for x, y in product(range(-width, 2 * width), range(-height, 2 * height)):
                times, low = divmod(y, r)
                self.assertEqual(knots[low][(x - times * q) % p], rows[y % height][x % width], (written, x, y))

    def test_name_of_the_argument(self):
        self.assertEqual(cell(t=text("ab/ba/")), [3, 97, 98, 10])


class LongTest(unittest.TestCase):
    def test_long_charts(self):
        for t, chart in [
                (text("a" * 24 + "/") * 23, "a/"),
                (text("a" * 23 + "/") * 24, "a/"),
                (text("a" * 24 + "/") * 24, "a/"),
                (text("a/") * 300, "a/"),
                (text("a" * 512 + "/"), "a/"),
                (text("a" * 298 + "/") * 2, "a/"),
                (text("a" * 24 + "/") * 22 + text("a" * 23 + "b/"), ("a" * 24 + "/") * 22 + "a" * 23 + "b/"),
                (text("a" * 24 + "/") * 23 + text("a" * 23 + "b/"), ("a" * 24 + "/") * 23 + "a" * 23 + "b/"),
                (text("a/") * 299 + text("b/"), "a/" * 299 + "b/"),
                (text("a" * 511 + "b/"), "a" * 511 + "b/"),
                (text("ab" * 12 + "/" + "ba" * 12 + "/") * 12, "ab/")]:
            started = time.process_time()
            self.assertEqual(cell(t), [len(chart)] + text(chart))
            self.assertLess(time.process_time() - started, 2)


class RefusalTest(unittest.TestCase):
    def test_texts_that_are_no_charts(self):
        for refusal, what, t in REFUSED_TEXTS:
            self.assertEqual(cell(t), [refusal], what)


class HandedInTest(unittest.TestCase):
    def test_text_stays_as_it_was(self):
        for given in [text("ab/ba/"), text("abab/baba/"), text("abcd/"), text("aab/a/"), [], [97] * 66049]:
            watched = Watched(given)
            cell(watched)
            self.assertEqual(list(watched), given)

    def test_each_call_is_by_itself(self):
        t = text("abab/")
        cell(t).append(5)
        cell(text("aab/"))
        cell([])
        self.assertEqual(cell(t), [3, 97, 98, 10])
        t[0] = 99
        self.assertEqual(cell(t), [5, 99, 98, 97, 98, 10])
        cell(t).clear()
        self.assertEqual(t, [99, 98, 97, 98, 10])


if __name__ == "__main__":
    unittest.main()
