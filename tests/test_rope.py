import random
import unittest

from tests.asking import BIGGEST, Words, ask, begins, check, rope


def height(line, point, *plan):
    return ask(begins(*line), rope(point, *plan))[1]


class Rope(unittest.TestCase):
    def test_at_the_stations(self):
        line = (2, 4, 0, 0, [3, 0, 4])
        self.assertEqual(height(line, 0, 0), [5, 1])
        self.assertEqual(height(line, 2, 0), [6, 1])
        self.assertEqual(height(line, 0, 4), [5, 1])

    def test_on_a_support(self):
        line = (2, 4, 0, 0, [3, 1, 4, 9])
        self.assertEqual(height(line, 1, 3, 0), [4, 1])
        self.assertEqual(height(line, 2, 3, 1), [5, 1])

    def test_between_the_stations(self):
        line = (0, 4, 0, 0, [0, 0, 0, 1])
        self.assertEqual(height(line, 1, 0, 0), [1, 3])
        self.assertEqual(height(line, 2, 0, 0), [2, 3])

    def test_between_supports(self):
        line = (1, 4, 0, 0, [0, 2, 0, 0, 1, 0])
        self.assertEqual(height(line, 2, 4, 0, 0, 1), [14, 3])
        self.assertEqual(height(line, 3, 4, 0, 0, 1), [10, 3])

    def test_between_a_support_and_a_station(self):
        line = (1, 4, 0, 0, [0, 0, 5, 0, 0])
        self.assertEqual(height(line, 1, 0, 1, 0), [7, 2])
        self.assertEqual(height(line, 3, 0, 3, 0), [9, 2])

    def test_in_lowest_terms(self):
        line = (0, 4, 0, 0, [0, 0, 0, 0, 2])
        self.assertEqual([height(line, point, 0, 0, 0) for point in range(5)], [[0, 1], [1, 2], [1, 1], [3, 2], [2, 1]])
        self.assertEqual(height((0, 4, 0, 0, [0, 0, 0, 0, 0, 0, 9]), 4, 0, 0, 0, 0, 0), [6, 1])
        self.assertEqual(height((0, 4, 0, 0, [0, 0, 0, 0, 0, 0, 5]), 4, 0, 0, 0, 0, 0), [10, 3])

    def test_height_of_0(self):
        self.assertEqual(height((0, 4, 0, 0, [0, 0, 0, 0]), 2, 0, 0), [0, 1])
        self.assertEqual(height((0, 4, 0, 0, [0, 9, 0, 0, 0]), 1, 0, 0, 0), [0, 1])

    def test_of_plans_that_are_not_right(self):
        low = begins(4, 4, 0, 0, [0, 9, 0])
        self.assertEqual(ask(low, check(0), rope(1, 0), rope(1, 1)), [[0], [-6, 1], [4, 1], [10, 1]])
        lifted = begins(0, 4, 0, 0, [9, 0, 0, 9])
        self.assertEqual(ask(lifted, check(1, 0), rope(1, 1, 0), rope(2, 1, 0)), [[0], [-7, 1], [1, 1], [5, 1]])

    def test_no_such_point(self):
        for points in range(2, 9):
            line = (0, 4, 0, 0, [0] * points)
            plan = [0] * (points - 2)
            with self.subTest(points=points):
                self.assertEqual(height(line, points - 1, *plan), [0, 1])
                self.assertEqual(height(line, points, *plan), [-1])
                self.assertEqual(height(line, BIGGEST, *plan), [-1])

    def test_wrong_plan(self):
        line = (0, 2, 0, 0, [0, 0, 0, 0])
        for plan in ([], [0], [0] * 3, [0] * 12, [3, 0], [0, 3], [0, BIGGEST]):
            with self.subTest(plan=plan):
                self.assertEqual(height(line, 0, *plan), [-1])
        self.assertEqual(height(line, 1, 2, 0), [2, 1])

    def test_many_lines_as_the_words_say(self):
        source = random.Random(23)
        for turn in range(400):
            ground = [source.randrange(10) for point in range(source.randrange(2, 9))]
            line = (source.randrange(5), source.randrange(5), 1, 1, ground)
            plan = [source.choice((0, source.randrange(line[1] + 1))) for point in ground[2:]]
            for point in range(len(ground)):
                with self.subTest(line=line, plan=plan, point=point):
                    self.assertEqual(height(line, point, *plan), Words(*line).rope(plan, point))


if __name__ == "__main__":
    unittest.main()
