import unittest

from knotcharts.symmetries import has
from tests.helper import (COLOURS, DOC_CHARTS, PINWHEEL, REFUSED_TEXTS, Watched, is_symmetry,
                          small_charts, text)

FAR_OUT = [-2147483648, -2147483647, -2147483646, -7, -1, 2147483645, 2147483646, 2147483647]
NO_MOTIONS = [8, 9, 15, 255, 2147483648, 4294967295]


class SymmetryTest(unittest.TestCase):
    def agree(self, written, m, a, b):
        answer = has(m, a, b, text(written))
        expected = [1] if is_symmetry(written, m, a, b) else [0]
        self.assertEqual(answer, expected, (written, m, a, b))
        self.assertIs(type(answer[0]), int)

    def test_runs_of_the_document(self):
        for m, a, b, written, answer in [
                (0, 0, 0, "ab/ba/", 1), (0, 1, 1, "ab/ba/", 1), (0, 1, 0, "ab/ba/", 0),
                (0, 0, 1, "ab/ba/", 0), (1, 0, 0, "ab/ba/", 1), (7, 1, 1, "ab/ba/", 1),
                (1, 0, 1, "ab/ba/", 0),
                (4, 1, 0, "aab/", 1), (4, 0, 0, "aab/", 0), (2, 1, 0, "aab/", 1),
                (1, 0, 0, "aab/", 0), (6, 0, 0, "aabc/", 1), (2, 0, 0, "aabc/", 0),
                (7, 0, 0, "abc/bca/cab/", 1), (7, 1, 2, "abc/bca/cab/", 1),
                (7, 1, 0, "abc/bca/cab/", 0), (5, 0, 0, "abc/bca/cab/", 0)]:
            self.assertEqual(has(m, a, b, text(written)), [answer], (m, a, b, written))

    def test_every_motion_of_the_documents_charts(self):
        for written in DOC_CHARTS:
            for m in range(8):
                for a in range(-4, 5):
                    for b in range(-4, 5):
                        self.agree(written, m, a, b)

    def test_every_motion_of_small_charts(self):
        for written in small_charts():
            for m in range(8):
                for a in range(written.index("/")):
                    for b in range(written.count("/")):
                        self.agree(written, m, a, b)

    def test_quarter_turns_one_way_are_not_those_the_other_way(self):
        written = "aba/aaa/aaa/"
        self.assertEqual([has(1, 1, 2, text(written)), has(1, 1, 1, text(written))], [[1], [0]])
        self.assertEqual([has(3, 1, 1, text(written)), has(3, 1, 2, text(written))], [[1], [0]])

    def test_quarter_turns_of_a_chart_wider_than_high(self):
        for m, a, b, written, answer in [
                (1, 0, 0, "abab/baba/", 1), (3, 3, 1, "abab/baba/", 1), (5, 1, 1, "abab/baba/", 1),
                (7, 2, 0, "abab/baba/", 1), (7, 1, 0, "abab/baba/", 0), (1, 5, 7, "aaa/aaa/", 1)]:
            self.assertEqual(has(m, a, b, text(written)), [answer], (m, a, b, written))

    def test_pinwheel_beside_itself(self):
        twice = "".join(row * 2 + "/" for row in PINWHEEL.split("/")[:-1])
        for m in range(8):
            for a, b in [(0, 0), (1, 2), (6, 2), (9, 3), (-1, -2), (2, 1)]:
                self.agree(twice, m, a, b)
        self.assertEqual(has(1, 6, 2, text(twice)), [1])
        self.assertEqual(has(7, 0, 0, text(twice)), [0])

    def test_turns_that_fit_within_the_edges_alone(self):
        for m, a, b, written in [(1, 0, 0, "aa/ab/aa/"), (7, 0, 0, "ab/ba/ab/"), (5, 1, 1, "ab/aa/ab/"),
                                 (3, 0, 2, "ab/bb/ab/")]:
            self.assertEqual(has(m, a, b, text(written)), [0], written)
            self.agree(written, m, a, b)

    def test_one_knot(self):
        for m in range(8):
            for a, b in [(0, 0), (-1, 5), (-2147483648, 2147483647)]:
                self.assertEqual(has(m, a, b, text("Z/")), [1])

    def test_one_row_and_one_column(self):
        for written in ["aab/", "aabc/", "abcabc/", "a/a/b/", "a/b/c/b/", "a/b/a/b/", "aaaa/", "a/a/a/"]:
            for m in range(8):
                for a in range(-3, 7):
                    for b in range(-3, 7):
                        self.agree(written, m, a, b)

    def test_far_out(self):
        for written in ["aab/", "a/a/b/", "ab/ba/", "abcab/bcabc/", "aab/aab/aab/", "abab/baba/", "aba/aaa/aaa/"]:
            for m in range(8):
                for a in FAR_OUT:
                    for b in FAR_OUT:
                        self.agree(written, m, a, b)

    def test_far_out_told_by_hand(self):
        self.assertEqual(has(0, -2147483648, 0, text("ab/")), [1])
        self.assertEqual(has(0, 2147483647, 0, text("ab/")), [0])
        self.assertEqual(has(0, 2147483646, 0, text("aab/")), [1])
        self.assertEqual(has(0, -2147483648, 0, text("aab/")), [0])
        self.assertEqual(has(0, 0, -2147483648, text("a/b/")), [1])
        self.assertEqual(has(0, -2147483648, 2147483647, text("ab/ba/")), [0])

    def test_all_colours_are_told_apart(self):
        row = list(COLOURS) + [10]
        self.assertEqual(has(0, 62, 0, row), [1])
        for a in range(1, 62):
            self.assertEqual(has(0, a, 0, row), [0])

    def test_widest_and_highest(self):
        self.assertEqual(has(0, 511, 0, [97] * 512 + [10]), [1])
        self.assertEqual(has(0, 512, 0, [97] * 511 + [98, 10]), [1])
        self.assertEqual(has(0, 511, 0, [97] * 511 + [98, 10]), [0])
        self.assertEqual(has(7, 0, 299, [97, 10] * 300), [1])
        self.assertEqual(has(6, 0, 299, [98, 10] + [97, 10] * 299), [0])


class RefusalTest(unittest.TestCase):
    def test_texts_that_are_no_charts(self):
        for refusal, what, t in REFUSED_TEXTS:
            for m in list(range(8)) + NO_MOTIONS:
                self.assertEqual(has(m, 0, 0, t), [refusal], (what, m))

    def test_motions_above_7(self):
        for m in NO_MOTIONS:
            for written in ["a/", "ab/ba/", "aab/"]:
                self.assertEqual(has(m, 0, 0, text(written)), [-1])
                self.assertEqual(has(m, -2147483648, 2147483647, text(written)), [-1])
        self.assertEqual(has(7, 0, 0, text("a/")), [1])


class HandedInTest(unittest.TestCase):
    def test_text_stays_as_it_was(self):
        for given in [text("ab/ba/"), text("abab/baba/"), text("aab/a/"), [], [97] * 66049]:
            for m in [0, 1, 4, 7, 8]:
                watched = Watched(given)
                has(m, 1, -1, watched)
                self.assertEqual(list(watched), given)

    def test_each_call_is_by_itself(self):
        t = text("aab/")
        first = has(4, 1, 0, t)
        first.append(5)
        has(1, 0, 0, text("ab/ba/"))
        has(9, 0, 0, [])
        self.assertEqual(has(4, 1, 0, t), [1])
        t[0] = 98
        t[1] = 99
        self.assertEqual(has(4, 1, 0, t), [0])


if __name__ == "__main__":
    unittest.main()
