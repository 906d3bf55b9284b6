import random
import unittest

from tests.asking import BEST, Words, ask, begins


def best(*line):
    return ask(begins(*line), BEST)[1]


class Best(unittest.TestCase):
    def test_one_support_on_a_hump(self):
        self.assertEqual(best(0, 1, 10, 3, [0, 5, 0]), [13, 1, 1, 1])

    def test_supports_are_as_tall_as_the_rope_must_be_clear(self):
        self.assertEqual(best(3, 4, 10, 3, [0, 5, 0]), [19, 1, 1, 3])

    def test_no_support_where_none_is_needed(self):
        self.assertEqual(best(2, 4, 5, 1, [0, 0, 0]), [0, 0, 1, 0])

    def test_a_valley_needs_none(self):
        self.assertEqual(best(0, 4, 0, 0, [9, 0, 0, 9]), [0, 0, 1, 0, 0])

    def test_a_tall_support_may_do_for_two(self):
        # 1 tall it leaves point 2 at 11/2, half a unit too low.
        self.assertEqual(best(1, 4, 50, 1, [0, 5, 5, 4]), [52, 1, 1, 2, 0])

    def test_two_low_ones_may_be_cheaper_than_a_tall_one(self):
        self.assertEqual(best(0, 4, 0, 1, [0, 5, 5, 0]), [2, 2, 1, 1, 1])

    def test_fewest_supports_among_the_cheapest(self):
        # (1, 1) costs 2 as well and is earlier, but has two supports.
        self.assertEqual(best(1, 4, 0, 1, [0, 5, 5, 4]), [2, 1, 1, 2, 0])

    def test_fewest_supports_where_nothing_costs(self):
        self.assertEqual(best(0, 4, 0, 0, [0, 0, 0, 0]), [0, 0, 1, 0, 0])

    def test_earliest_of_two_as_good(self):
        self.assertEqual(best(0, 4, 7, 2, [0, 1, 1, 0]), [9, 1, 2, 0, 1])

    def test_earliest_of_many_as_good(self):
        self.assertEqual(best(0, 4, 7, 0, [0, 1, 1, 0]), [7, 1, 8, 0, 1])

    def test_cheapest_may_be_the_later(self):
        # (0, 3) and (1, 1) are right and earlier, but cost 4.
        self.assertEqual(best(0, 4, 1, 1, [0, 3, 3, 1]), [3, 1, 1, 2, 0])

    def test_two_points(self):
        self.assertEqual(best(4, 4, 100, 100, [0, 9]), [0, 0, 1])

    def test_supports_that_may_be_0_tall(self):
        self.assertEqual(best(0, 0, 1, 1, [0, 0, 0]), [0, 0, 1, 0])
        self.assertEqual(best(0, 0, 1, 1, [0, 1, 0]), [-6])

    def test_no_plan_is_right(self):
        self.assertEqual(best(2, 1, 1, 1, [0, 1, 0]), [-6])
        self.assertEqual(best(4, 3, 0, 0, [0, 0, 0, 0, 0, 0, 1, 0]), [-6])

    def test_largest_cost(self):
        self.assertEqual(best(4, 4, 100, 100, [0, 4, 7, 9, 9, 7, 4, 0]), [3000, 6, 1, 4, 4, 4, 4, 4, 4])

    def test_refusal_leaves_the_line_as_it_was(self):
        line = begins(2, 1, 1, 1, [0, 1, 0])
        self.assertEqual(ask(line, BEST, BEST, [2, 1, 0]), [[0], [-6], [-6], [-6, 1]])

    def test_eight_points_four_tall_as_the_words_say(self):
        lines = (
            (0, 4, 3, 2, [0, 2, 4, 5, 5, 4, 2, 0]),
            (1, 4, 0, 1, [0, 3, 1, 5, 2, 6, 0, 1]),
            (1, 4, 0, 0, [0, 4, 7, 9, 9, 7, 4, 0]),
        )
        for line in lines:
            with self.subTest(line=line):
                self.assertEqual(best(*line), Words(*line).best())

    def test_many_lines_as_the_words_say(self):
        source = random.Random(20)
        for turn in range(400):
            ground = [source.randrange(source.choice((2, 4, 10))) for point in range(source.randrange(2, 7))]
            prices = (source.choice((0, 1, 2, 100)), source.choice((0, 1, 3, 100)))
            line = (source.randrange(5), source.randrange(5)) + prices + (ground,)
            with self.subTest(line=line):
                self.assertEqual(best(*line), Words(*line).best())


if __name__ == "__main__":
    unittest.main()
