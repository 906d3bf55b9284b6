import itertools
import random
import unittest

from tests.asking import BIGGEST, Words, ask, begins, check


def checked(line, *plan):
    return ask(begins(*line), check(*plan))[1]


class Check(unittest.TestCase):
    def test_right_plan(self):
        self.assertEqual(checked((0, 4, 3, 2, [0, 5, 5, 0]), 1, 1), [10, 2])
        self.assertEqual(checked((0, 4, 3, 2, [0, 5, 5, 0]), 4, 3), [20, 2])

    def test_right_plan_without_supports(self):
        self.assertEqual(checked((4, 4, 3, 2, [0, 1, 2, 3]), 0, 0), [0, 0])

    def test_right_plan_of_two_points(self):
        self.assertEqual(checked((4, 4, 3, 2, [0, 9])), [0, 0])

    def test_right_plan_need_not_be_best(self):
        self.assertEqual(checked((0, 4, 3, 2, [0, 0, 0]), 4), [11, 1])

    def test_too_low_at_the_first_such_point(self):
        line = (0, 4, 3, 2, [0, 5, 5, 0])
        self.assertEqual(checked(line, 0, 0), [-6, 1])
        self.assertEqual(checked(line, 1, 0), [-6, 2])
        self.assertEqual(checked(line, 0, 1), [-6, 1])

    def test_too_low_by_a_fraction(self):
        self.assertEqual(checked((0, 4, 0, 0, [0, 0, 1, 1]), 0, 0), [-6, 2])
        self.assertEqual(checked((0, 4, 0, 0, [1, 1, 0, 0]), 0, 0), [-6, 1])

    def test_too_low_on_a_support(self):
        self.assertEqual(checked((2, 4, 0, 0, [0, 5, 0]), 1), [-6, 1])
        self.assertEqual(checked((2, 4, 0, 0, [0, 5, 0]), 2), [0, 1])
        self.assertEqual(checked((3, 4, 0, 0, [0, 5, 5, 0]), 3, 2), [-6, 2])

    def test_just_clear_is_not_too_low(self):
        self.assertEqual(checked((3, 4, 0, 0, [0, 1, 2]), 0), [0, 0])
        self.assertEqual(checked((3, 4, 0, 0, [0, 2, 2]), 0), [-6, 1])

    def test_lifts_at_the_first_such_point(self):
        self.assertEqual(checked((0, 4, 0, 0, [5, 0, 5]), 1), [-7, 1])
        self.assertEqual(checked((0, 4, 0, 0, [9, 0, 0, 9]), 1, 1), [-7, 1])
        self.assertEqual(checked((0, 4, 0, 0, [9, 8, 0, 9]), 4, 1), [-7, 2])

    def test_lifted_by_the_support_next_to_it(self):
        # Far above the line between the stations, yet below that from support to station.
        self.assertEqual(checked((0, 4, 0, 0, [0, 8, 4, 0]), 4, 1), [-7, 2])
        self.assertEqual(checked((0, 4, 0, 0, [0, 4, 8, 0]), 1, 4), [-7, 1])

    def test_lifts_by_a_fraction(self):
        self.assertEqual(checked((0, 4, 0, 0, [0, 0, 0, 4]), 1, 0), [-7, 1])

    def test_just_touching_does_not_lift(self):
        self.assertEqual(checked((0, 4, 5, 1, [0, 0, 0, 3]), 1, 0), [6, 1])
        self.assertEqual(checked((1, 4, 5, 1, [0, 0, 0]), 1), [6, 1])

    def test_too_low_comes_ahead_of_lifting(self):
        self.assertEqual(checked((0, 4, 0, 0, [9, 0, 9, 9]), 1, 0), [-6, 2])

    def test_wrong_length(self):
        line = (0, 4, 0, 0, [0, 0, 0, 0])
        for plan in ([], [0], [0] * 3, [0] * 4, [0] * 12):
            with self.subTest(plan=plan):
                self.assertEqual(checked(line, *plan), [-1])
        self.assertEqual(checked((0, 4, 0, 0, [0, 0]), 0), [-1])

    def test_taller_than_may_be(self):
        for tall in range(5):
            line = (0, tall, 0, 0, [0, 0, 0, 0])
            with self.subTest(tall=tall):
                self.assertEqual(checked(line, tall, tall), [0, 2 if tall else 0])
                self.assertEqual(checked(line, tall + 1, 0), [-1])
                self.assertEqual(checked(line, 0, tall + 1), [-1])
                self.assertEqual(checked(line, 0, BIGGEST), [-1])

    def test_taller_than_may_be_comes_ahead_of_too_low(self):
        self.assertEqual(checked((0, 1, 0, 0, [0, 9, 0, 0]), 0, 2), [-1])

    def test_every_plan_of_many_lines_as_the_words_say(self):
        source = random.Random(21)
        for turn in range(80):
            ground = [source.randrange(source.choice((2, 5, 10))) for point in range(source.randrange(2, 6))]
            line = (source.randrange(5), source.randrange(5), source.randrange(101), source.randrange(101), ground)
            words = Words(*line)
            for plan in itertools.product(range(line[1] + 1), repeat=len(ground) - 2):
                with self.subTest(line=line, plan=plan):
                    self.assertEqual(checked(line, *plan), words.check(plan))


if __name__ == "__main__":
    unittest.main()
