import unittest

from tests.asking import BEST, BIGGEST, TALLEST, ask, begins, check, rope

WRONG = (
    ("clear", begins(5, 1, 1, 1, [0, 0, 0])),
    ("tall", begins(1, 5, 1, 1, [0, 0, 0])),
    ("each", begins(1, 1, 101, 1, [0, 0, 0])),
    ("unit", begins(1, 1, 1, 101, [0, 0, 0])),
    ("first ground", begins(1, 1, 1, 1, [10, 0, 0])),
    ("ground between", begins(1, 1, 1, 1, [0, 10, 0])),
    ("last ground", begins(1, 1, 1, 1, [0, 0, 10])),
    ("no points", begins(1, 1, 1, 1, [])),
    ("1 point", begins(1, 1, 1, 1, [0])),
    ("9 points", begins(1, 1, 1, 1, [0] * 9)),
    ("12 points", begins(1, 1, 1, 1, [0] * 12)),
    ("clear, by far", begins(BIGGEST, 1, 1, 1, [0, 0, 0])),
    ("tall, by far", begins(1, BIGGEST, 1, 1, [0, 0, 0])),
    ("each, by far", begins(1, 1, BIGGEST, 1, [0, 0, 0])),
    ("unit, by far", begins(1, 1, 1, BIGGEST, [0, 0, 0])),
    ("ground, by far", begins(1, 1, 1, 1, [0, BIGGEST, 0])),
    ("everything", begins(5, 5, 101, 101, [10])),
)


class Begins(unittest.TestCase):
    def test_numbers_at_their_bounds(self):
        for numbers in ((0, 0, 0, 0), (4, 0, 0, 0), (0, 4, 0, 0), (0, 0, 100, 0), (0, 0, 0, 100), (4, 4, 100, 100)):
            for ground in ([0, 0], [9, 9], [0, 9, 0], [9, 0, 9]):
                with self.subTest(numbers=numbers, ground=ground):
                    self.assertEqual(ask(begins(*numbers, ground)), [[0]])

    def test_two_to_eight_points(self):
        for points in range(13):
            with self.subTest(points=points):
                expected = [0] if 2 <= points <= 8 else [-1]
                self.assertEqual(ask(begins(0, 1, 0, 0, [0] * points)), [expected])

    def test_wrong_numbers(self):
        for name, wrong in WRONG:
            with self.subTest(name):
                self.assertEqual(ask(wrong), [[-1]])

    def test_all_that_is_told_holds(self):
        line = begins(2, 3, 10, 4, [1, 6, 3])
        asked = ask(line, check(3), check(4), rope(0, 0), rope(1, 3), rope(2, 0))
        self.assertEqual(asked, [[0], [22, 1], [-1], [3, 1], [9, 1], [5, 1]])

    def test_a_later_begins_takes_the_place_of_the_earlier(self):
        asked = ask(begins(4, 4, 100, 100, [0] * 8), begins(0, 1, 2, 3, [0, 5, 0]), BEST, check(2), rope(2, 1))
        self.assertEqual(asked, [[0], [0], [5, 1, 1, 1], [-1], [0, 1]])

    def test_refused_leaves_the_line_as_it_was(self):
        line = begins(2, 3, 10, 4, [1, 6, 3, 2])
        calls = [BEST, TALLEST, check(3, 0), check(4, 0), check(2, 2), rope(0, 0, 0), rope(2, 2, 0), rope(3, 0, 0)]
        before = ask(line, *calls)[1:]
        for name, wrong in WRONG:
            with self.subTest(name):
                self.assertEqual(ask(line, wrong, *calls), [[0], [-1]] + before)

    def test_refused_leaves_a_new_line_as_it_was(self):
        calls = [BEST, TALLEST, check(), check(0), rope(0), rope(1), rope(2)]
        for name, wrong in WRONG:
            with self.subTest(name):
                self.assertEqual(ask(wrong, *calls), [[-1]] + ask(*calls))


if __name__ == "__main__":
    unittest.main()
