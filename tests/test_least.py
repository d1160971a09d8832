import time
import unittest
from itertools import product

from knotcharts.symmetries import count, has, least
from tests.helper import (BY_THREE, BY_TWO, COLOURS, DOC_CHARTS, PINWHEEL, PUSHED_ON, REFUSED_TEXTS, WITHOUT_STEPS,
                          Watched, is_step, least_repeat, repeated, small_charts, text)


class LeastTest(unittest.TestCase):
    def agree(self, written):
        answer = least(text(written))
        self.assertEqual(answer, [0, *least_repeat(written)], written)
        self.assertEqual([type(number) for number in answer], [int] * 4, written)

    def answers(self, expected):
        for written, p, q, r in expected:
            self.assertEqual(least(text(written)), [0, p, q, r], written)
            self.agree(written)

    def test_runs_of_the_document(self):
        self.answers([("ab/ba/", 2, 1, 1), ("aab/", 3, 0, 1), ("abc/bca/cab/", 3, 2, 1),
                      ("aabc/", 4, 0, 1), ("ab/cd/", 2, 0, 2), ("ab/", 2, 0, 1)])

    def test_small_charts(self):
        for written in small_charts():
            self.agree(written)

    def test_square_charts_of_three(self):
        for knots in product("ab", repeat=9):
            self.agree("".join("".join(knots[y:y + 3]) + "/" for y in (0, 3, 6)))

    def test_slanted_charts(self):
        # Every row is the row above pushed on; the last goes over into the first.
        for row, on in product(["aabb", "abcd", "aabbcc", "abcabc", "abab", "aaaabb", "aaab"], range(6)):
            for height in range(1, 7):
                if on * height % len(row) == 0:
                    rows = [row[-on * y % len(row):] + row[:-on * y % len(row)] for y in range(height)]
                    written = "".join(each + "/" for each in rows)
                    self.agree(written)
                    self.assertEqual(least(text(written))[3], 1, written)

    def test_no_step_straight_down(self):
        self.answers([("ab/ba/", 2, 1, 1), (PUSHED_ON, 4, 2, 2), (BY_TWO, 6, 2, 1), (BY_THREE, 5, 3, 1),
                      (PINWHEEL, 5, 3, 1)])
        for written in ["ab/ba/", PUSHED_ON, BY_TWO, BY_THREE, PINWHEEL]:
            answer = least(text(written))
            self.assertFalse(is_step(written, 0, answer[3]))

    def test_steps_straight_down(self):
        self.answers([("ab/ab/", 2, 0, 1), ("ab/cd/ab/cd/", 2, 0, 2), ("abab/cdcd/", 2, 0, 2),
                      ("aaa/bbb/aaa/bbb/", 1, 0, 2), ("aabc/aabc/", 4, 0, 1)])

    def test_the_least_q(self):
        self.answers([("abab/baba/", 2, 1, 1), ("abcabc/bcabca/cabcab/", 3, 2, 1), ("abcabc/cabcab/bcabca/", 3, 1, 1),
                      ("aaaa/aaaa/", 1, 0, 1), (repeated(PUSHED_ON, 3, 1), 4, 2, 2)])

    def test_repeated_several_times(self):
        for written in DOC_CHARTS + WITHOUT_STEPS + [PINWHEEL, PUSHED_ON, BY_TWO, BY_THREE]:
            for across, down in [(1, 2), (2, 1), (2, 2), (3, 2), (1, 5), (4, 1)]:
                self.assertEqual(least(text(repeated(written, across, down))), least(text(written)), written)

    def test_no_steps_but_by_width_and_height(self):
        for written in WITHOUT_STEPS:
            width, height = written.index("/"), written.count("/")
            steps = [(a, b) for a in range(width) for b in range(height) if is_step(written, a, b)]
            self.assertEqual(steps, [(0, 0)], written)
            self.assertEqual(least(text(written)), [0, width, 0, height], written)

    def test_one_knot(self):
        self.answers([("a/", 1, 0, 1), ("9/", 1, 0, 1), ("Z/", 1, 0, 1)])

    def test_one_row(self):
        self.answers([("aaaa/", 1, 0, 1), ("abab/", 2, 0, 1), ("aabaab/", 3, 0, 1), ("ababa/", 5, 0, 1),
                      ("aabaaa/", 6, 0, 1)])

    def test_one_column(self):
        self.answers([("a/a/a/a/", 1, 0, 1), ("a/b/a/b/", 1, 0, 2), ("a/a/b/a/a/b/", 1, 0, 3),
                      ("a/b/a/b/a/", 1, 0, 5), ("a/a/b/a/a/a/", 1, 0, 6)])

    def test_all_colours_are_told_apart(self):
        self.assertEqual(least(list(COLOURS) + [10]), [0, 62, 0, 1])
        self.assertEqual(least([byte for colour in COLOURS for byte in (colour, 10)]), [0, 1, 0, 62])

    def test_name_of_the_argument(self):
        self.assertEqual(least(t=text("ab/ba/")), [0, 2, 1, 1])


class FieldAgainTest(unittest.TestCase):
    """The least repeat gives the field again, and it's the least that does."""

    def charts(self):
        return list(small_charts()) + DOC_CHARTS + WITHOUT_STEPS + [PINWHEEL, PUSHED_ON, BY_TWO, BY_THREE]

    def test_the_field_again(self):
        for written in self.charts():
            rows = written.split("/")[:-1]
            width, height = len(rows[0]), len(rows)
            refusal, p, q, r = least(text(written))
            self.assertEqual(refusal, 0)
            for x, y in product(range(-width, 2 * width), range(-height, 2 * height)):
                times, low = divmod(y, r)
                self.assertEqual(rows[low % height][(x - times * q) % p % width],
                                 rows[y % height][x % width], (written, x, y))

    def test_steps_are_as_many_as_least_repeats(self):
        for written in self.charts():
            width, height = written.index("/"), written.count("/")
            refusal, p, q, r = least(text(written))
            steps = [(a, b) for a in range(width) for b in range(height) if has(0, a, b, text(written)) == [1]]
            self.assertEqual(len(steps) * p * r, width * height, written)
            turns = [m for m in range(8) if any(has(m, a, b, text(written)) == [1]
                                                for a in range(width) for b in range(height))]
            self.assertEqual(count(text(written)), [len(steps) * len(turns)], written)


class LongTest(unittest.TestCase):
    def test_long_charts(self):
        for t, answer in [
                (text("a" * 24 + "/") * 23, [0, 1, 0, 1]),
                (text("a" * 23 + "/") * 24, [0, 1, 0, 1]),
                (text("a" * 24 + "/") * 24, [0, 1, 0, 1]),
                (text("a/") * 300, [0, 1, 0, 1]),
                (text("a" * 512 + "/"), [0, 1, 0, 1]),
                (text("a" * 298 + "/") * 2, [0, 1, 0, 1]),
                (text("a" * 24 + "/") * 22 + text("a" * 23 + "b/"), [0, 24, 0, 23]),
                (text("a/") * 299 + text("b/"), [0, 1, 0, 300]),
                (text("a" * 511 + "b/"), [0, 512, 0, 1]),
                (text("ab" * 12 + "/" + "ba" * 12 + "/") * 12, [0, 2, 1, 1])]:
            started = time.process_time()
            self.assertEqual(least(t), answer)
            self.assertLess(time.process_time() - started, 2)


class RefusalTest(unittest.TestCase):
    def test_texts_that_are_no_charts(self):
        for refusal, what, t in REFUSED_TEXTS:
            self.assertEqual(least(t), [refusal], what)


class HandedInTest(unittest.TestCase):
    def test_text_stays_as_it_was(self):
        for given in [text("ab/ba/"), text("abab/baba/"), text("aab/a/"), [], [97] * 66049]:
            watched = Watched(given)
            least(watched)
            self.assertEqual(list(watched), given)

    def test_each_call_is_by_itself(self):
        t = text("abab/")
        least(t).append(5)
        least(text("aab/"))
        least([])
        self.assertEqual(least(t), [0, 2, 0, 1])
        t[0] = 99
        self.assertEqual(least(t), [0, 4, 0, 1])


if __name__ == "__main__":
    unittest.main()
