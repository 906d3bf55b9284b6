import random
import unittest

from ropeline.hills import Line, least_tall
from tests.asking import BEST, TALLEST, Words, ask, begins, check


def tallest(*line):
    return ask(begins(*line), TALLEST)[1]


class Tallest(unittest.TestCase):
    def test_0_where_no_support_is_needed(self):
        self.assertEqual(tallest(4, 4, 1, 1, [0, 0, 0]), [0])
        self.assertEqual(tallest(4, 4, 1, 1, [9, 0, 0, 9]), [0])
        self.assertEqual(tallest(4, 4, 1, 1, [0, 9]), [0])

    def test_1_where_nothing_is_to_be_clear_of(self):
        self.assertEqual(tallest(0, 4, 1, 1, [0, 1, 0]), [1])

    def test_1_to_4(self):
        for clear in (1, 2, 3, 4):
            with self.subTest(clear=clear):
                self.assertEqual(tallest(clear, 4, 1, 1, [0, 1, 0]), [clear])
                self.assertEqual(tallest(clear, 4, 1, 1, [0, 9, 0, 9, 9, 0, 0, 1]), [clear])

    def test_does_not_depend_on_the_height_told(self):
        for tall in range(5):
            with self.subTest(tall=tall):
                self.assertEqual(tallest(3, tall, 1, 1, [0, 5, 0]), [3])

    def test_does_not_change_the_height_told(self):
        low = begins(3, 2, 1, 1, [0, 5, 0])
        self.assertEqual(ask(low, TALLEST, BEST, check(3), TALLEST), [[0], [3], [-6], [-1], [3]])
        high = begins(3, 4, 1, 1, [0, 5, 0])
        self.assertEqual(ask(high, TALLEST, check(4), check(3)), [[0], [3], [5, 1], [4, 1]])

    def test_refused_where_no_height_up_to_the_most_does(self):
        # With 4 as the most some plan is always right: one as tall as the rope must be
        # clear (or 1), on the humps alone. So the refusal shows with a lower most only.
        line = Line()
        line.clearance = 3
        line.ground = [0, 5, 0]
        self.assertEqual([least_tall(line, most) for most in range(5)], [-6, -6, -6, 3, 3])

    def test_many_lines_as_the_words_say(self):
        source = random.Random(22)
        for turn in range(300):
            ground = [source.randrange(source.choice((2, 4, 10))) for point in range(source.randrange(2, 7))]
            line = (source.randrange(5), source.randrange(5), 1, 1, ground)
            with self.subTest(line=line):
                self.assertEqual(tallest(*line), Words(*line).tallest())


if __name__ == "__main__":
    unittest.main()
