import unittest

from knotcharts.symmetries import text_refusal


class SizeTest(unittest.TestCase):
    """Sizes of a chart that stand in the document, though texts so long are not handed in."""

    def refusals(self, *sizes):
        return [text_refusal(([97] * width + [10]) * height) for width, height in sizes]

    def test_at_the_most(self):
        self.assertEqual(self.refusals((512, 1), (1, 512), (512, 128), (128, 512), (256, 256)), [0] * 5)

    def test_too_wide_or_too_high(self):
        self.assertEqual(self.refusals((513, 1), (1, 513), (513, 127), (127, 513)), [-6] * 4)

    def test_too_many_knots(self):
        self.assertEqual(self.refusals((511, 129), (257, 256)), [-6] * 2)

    def test_longest_text(self):
        self.assertEqual(text_refusal([0] * 66048), -6)
        self.assertEqual(text_refusal([0] * 66049), -2)


if __name__ == "__main__":
    unittest.main()
