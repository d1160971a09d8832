import time
import unittest

from knotcharts.symmetries import count, has
from tests.helper import (COLOURS, DOC_CHARTS, PINWHEEL, REFUSED_TEXTS, Watched, repeated,
                          small_charts, text, told)


class CountTest(unittest.TestCase):
    def test_runs_of_the_document(self):
        self.assertEqual([count(text(written)) for written in DOC_CHARTS], [[16], [4], [2], [4], [6], [4]])

    def test_small_charts(self):
        for written in small_charts():
            answer = count(text(written))
            self.assertEqual(answer, [len(told(written))], written)
            self.assertIs(type(answer[0]), int)

    def test_as_many_as_has_finds(self):
        for written in DOC_CHARTS + [PINWHEEL, "abcabc/bcabca/", "abab/baba/"]:
            t = text(written)
            found = [has(m, a, b, t) for m in range(8) for b in range(written.count("/"))
                     for a in range(written.index("/"))]
            self.assertEqual(count(t), [found.count([1])])

    def test_steps_times_turns(self):
        for written, turns in [("ab/ba/", 8), ("aab/", 4), ("aabc/", 2), ("ab/cd/", 4), ("abc/def/ghi/", 1),
                               (PINWHEEL, 4), ("abc/bca/cab/", 2), ("a/", 8)]:
            steps = count(text(written))[0] // turns
            self.assertEqual(count(text(written)), [steps * turns])
            for across, down in [(1, 2), (2, 1), (3, 2), (2, 3)]:
                larger = repeated(written, across, down)
                self.assertEqual(count(text(larger)), [steps * turns * across * down], larger)

    def test_pinwheel_has_quarter_turns_and_no_mirrors(self):
        self.assertEqual(count(text(PINWHEEL)), [20])
        self.assertEqual(count(text(repeated(PINWHEEL, 2, 1))), [40])

    def test_one_knot(self):
        self.assertEqual(count(text("a/")), [8])
        self.assertEqual(count(text("9/")), [8])

    def test_one_row_and_one_column(self):
        for across, down, answer in [("aaaa/", "a/a/a/a/", 32), ("abab/", "a/b/a/b/", 8),
                                     ("aabc/", "a/a/b/c/", 2), ("aab/", "a/a/b/", 4)]:
            self.assertEqual([count(text(across)), count(text(down))], [[answer], [answer]])

    def test_not_as_high_as_wide(self):
        for written, answer in [("abab/baba/", 32), ("ab/ba/ab/ba/", 32), ("aaa/aaa/", 48), ("ab/ba/ab/", 4),
                                ("aa/ab/aa/", 4), ("aabb/bbaa/", 8), ("abcd/efgh/", 2), ("abcd/efgh/ijkl/", 1)]:
            self.assertEqual(count(text(written)), [answer], written)

    def test_alike_or_nearly(self):
        started = time.process_time()
        self.assertEqual(count(text("a" * 24 + "/") * 23), [8 * 24 * 23])
        self.assertEqual(count(text("a" * 24 + "/") * 24), [8 * 24 * 24])
        self.assertEqual(count(text("a/") * 300), [8 * 300])
        self.assertEqual(count(text("a" * 512 + "/")), [8 * 512])
        self.assertEqual(count(text("a" * 23 + "b/") + text("a" * 24 + "/") * 22), [4])
        self.assertEqual(count(text("a" * 24 + "/") * 23 + text("a" * 23 + "b/")), [8])
        self.assertEqual(count(text("a/") * 299 + text("b/")), [4])
        # Eight charts, a second or so each.
        self.assertLess(time.process_time() - started, 8)

    def test_all_colours_are_told_apart(self):
        self.assertEqual(count(list(COLOURS) + [10]), [2])


class RefusalTest(unittest.TestCase):
    def test_texts_that_are_no_charts(self):
        for refusal, what, t in REFUSED_TEXTS:
            self.assertEqual(count(t), [refusal], what)

    def test_bytes_that_are_colours(self):
        for byte in range(256):
            if byte != 10:
                self.assertEqual(count([byte, 10]), [8] if byte in COLOURS else [-6], byte)

    def test_bytes_next_to_the_colours(self):
        for byte in [96, 123, 64, 91, 47, 58]:
            self.assertEqual(count([97, byte, 10]), [-6], byte)
            self.assertEqual(has(0, 0, 0, [97, byte, 10]), [-6], byte)
        for byte in [122, 65, 90, 48, 57]:
            self.assertEqual(count([97, byte, 10]), [4], byte)
            self.assertEqual(has(0, 0, 0, [97, byte, 10]), [1], byte)

    def test_widest(self):
        self.assertEqual(count([97] * 511 + [98, 10]), [4])
        self.assertEqual(count([97] * 512 + [98, 10]), [-6])


class HandedInTest(unittest.TestCase):
    def test_text_stays_as_it_was(self):
        for given in [text("ab/ba/"), text("abab/baba/"), text("aab/a/"), [], [97] * 66049]:
            watched = Watched(given)
            count(watched)
            self.assertEqual(list(watched), given)

    def test_each_call_is_by_itself(self):
        t = text("aab/")
        count(t).append(5)
        count(text("ab/ba/"))
        count([])
        self.assertEqual(count(t), [4])
        t[0] = 99
        self.assertEqual(count(t), [2])


if __name__ == "__main__":
    unittest.main()
