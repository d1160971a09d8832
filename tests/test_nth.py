import time
import unittest

from knotcharts.symmetries import count, has, nth
from tests.helper import COLOURS, DOC_CHARTS, PINWHEEL, REFUSED_TEXTS, Watched, repeated, small_charts, text, told

SLANTED = "abcabc/bcabca/cabcab/"


def all_told(written):
    """Ask nth from 0 on until it refuses; give the answers, and the refusal."""
    answers = []
    while True:
        answer = nth(len(answers), text(written))
        if answer[0] != 0:
            return answers, answer
        answers.append(answer)


class ToldTest(unittest.TestCase):
    def agree(self, written):
        answers, refusal = all_told(written)
        self.assertEqual(answers, [[0, m, a, b] for m, a, b in told(written)], written)
        self.assertEqual(refusal, [-4], written)
        for answer in answers:
            self.assertEqual([type(number) for number in answer], [int] * 4, written)

    def test_runs_of_the_document(self):
        for written in DOC_CHARTS:
            self.agree(written)

    def test_small_charts(self):
        for written in small_charts():
            self.agree(written)

    def test_larger_charts(self):
        for written in [PINWHEEL, repeated(PINWHEEL, 2, 1), SLANTED, "abab/baba/abab/",
                        "aabb/abbb/bbaa/bbab/", "abcd/efgh/ijkl/", "aaaa/aaaa/aaaa/"]:
            self.agree(written)

    def test_each_is_one_and_none_is_left_out(self):
        for written in DOC_CHARTS + [PINWHEEL, SLANTED]:
            answers = all_told(written)[0]
            self.assertEqual([len(answers)], count(text(written)))
            for answer in answers:
                self.assertEqual(has(answer[1], answer[2], answer[3], text(written)), [1], (written, answer))


class OrderTest(unittest.TestCase):
    def test_b_ahead_of_a(self):
        # Three knots to the side: the step (2, 1) stands ahead of (1, 2).
        t = text("abc/bca/cab/")
        self.assertEqual([nth(k, t) for k in range(6)],
                         [[0, 0, 0, 0], [0, 0, 2, 1], [0, 0, 1, 2],
                          [0, 7, 0, 0], [0, 7, 2, 1], [0, 7, 1, 2]])

    def test_a_within_b(self):
        t = text("aa/aa/")
        self.assertEqual([nth(k, t) for k in range(5)],
                         [[0, 0, 0, 0], [0, 0, 1, 0], [0, 0, 0, 1], [0, 0, 1, 1], [0, 1, 0, 0]])

    def test_m_ahead_of_both(self):
        t = text("ab/ba/")
        self.assertEqual([nth(k, t) for k in (0, 1, 2, 3, 14, 15)],
                         [[0, 0, 0, 0], [0, 0, 1, 1], [0, 1, 0, 0], [0, 1, 1, 1], [0, 7, 0, 0], [0, 7, 1, 1]])

    def test_mirrors_moved_on(self):
        t = text("aab/")
        self.assertEqual([nth(k, t) for k in range(4)], [[0, 0, 0, 0], [0, 2, 1, 0], [0, 4, 1, 0], [0, 6, 0, 0]])


class EdgeTest(unittest.TestCase):
    def test_first_last_and_none(self):
        for written, last in [("a/", [0, 7, 0, 0]), ("aab/", [0, 6, 0, 0]), ("aabc/", [0, 6, 0, 0]),
                              ("ab/ba/", [0, 7, 1, 1]), ("ab/cd/", [0, 6, 0, 0]), ("ab/", [0, 6, 0, 0]),
                              ("abc/bca/cab/", [0, 7, 1, 2]), ("abcd/efgh/ijkl/", [0, 0, 0, 0]),
                              ("a/a/a/", [0, 7, 0, 2]), ("aaa/", [0, 7, 2, 0])]:
            t = text(written)
            number = count(t)[0]
            self.assertEqual(nth(0, t), [0, 0, 0, 0], written)
            self.assertEqual(nth(number - 1, t), last, written)
            for k in (number, number + 1, 2147483648, 4294967294, 4294967295):
                self.assertEqual(nth(k, t), [-4], (written, k))

    def test_one_knot(self):
        for m in range(8):
            self.assertEqual(nth(m, text("Z/")), [0, m, 0, 0])
        self.assertEqual(nth(8, text("Z/")), [-4])

    def test_all_colours_are_told_apart(self):
        row = list(COLOURS) + [10]
        self.assertEqual([nth(k, row) for k in range(3)], [[0, 0, 0, 0], [0, 6, 0, 0], [-4]])

    def test_names_of_the_arguments(self):
        self.assertEqual(nth(k=1, t=text("ab/ba/")), [0, 0, 1, 1])

    def test_all_alike(self):
        for width, height in [(24, 23), (23, 24), (24, 24), (1, 300), (512, 1)]:
            t = text(("a" * width + "/") * height)
            number = 8 * width * height
            started = time.process_time()
            self.assertEqual(nth(number - 1, t), [0, 7, width - 1, height - 1])
            self.assertLess(time.process_time() - started, 2, (width, height))
            self.assertEqual(nth(number, t), [-4])
            self.assertEqual(nth(width, t), [0, 0, 0, 1] if height > 1 else [0, 1, 0, 0])
            self.assertEqual(nth(width * height, t), [0, 1, 0, 0])


class RefusalTest(unittest.TestCase):
    def test_texts_that_are_no_charts(self):
        for refusal, what, t in REFUSED_TEXTS:
            for k in (0, 1, 600, 4294967295):
                self.assertEqual(nth(k, t), [refusal], (what, k))


class HandedInTest(unittest.TestCase):
    def test_text_stays_as_it_was(self):
        for given in [text("ab/ba/"), text("abab/baba/"), text("aab/a/"), [], [97] * 66049]:
            for k in (0, 1, 15, 4294967295):
                watched = Watched(given)
                nth(k, watched)
                self.assertEqual(list(watched), given)

    def test_each_call_is_by_itself(self):
        t = text("aab/")
        nth(1, t).append(5)
        nth(15, text("ab/ba/"))
        nth(0, [])
        self.assertEqual(nth(1, t), [0, 2, 1, 0])
        t[0] = 99
        self.assertEqual(nth(1, t), [0, 6, 0, 0])


if __name__ == "__main__":
    unittest.main()
