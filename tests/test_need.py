import unittest

from tests.helper import ask, begins, last, mark, need, show, want, wants

NONE = [0, 0, 0, 0, 0, 0, 0, 0, 0, 0, 0]


class Need(unittest.TestCase):
    def test_new_desk(self):
        self.assertEqual(ask(need()), [NONE])
        self.assertEqual(last(begins(4, 1, 1), need()), NONE)

    def test_one_row(self):
        self.assertEqual(last(want(3, 7), need()), [2, 0, 0, 0, 1, 0, 0, 0, 1, 0, 0])
        self.assertEqual(last(want(0, 9), need()), [2, 1, 0, 0, 0, 0, 0, 0, 0, 0, 1])
        self.assertEqual(last(want(4, 4), need()), [2, 0, 0, 0, 0, 2, 0, 0, 0, 0, 0])

    def test_the_most_of_a_digit_in_one_row_not_in_all(self):
        self.assertEqual(last(want(1, 2), want(2, 1), want(1, 3), need()), [3, 0, 1, 1, 1, 0, 0, 0, 0, 0, 0])
        self.assertEqual(last(want(1, 2), want(1, 1), want(3, 1), need()), [4, 0, 2, 1, 1, 0, 0, 0, 0, 0, 0])

    def test_the_days_of_a_month(self):
        self.assertEqual(last(wants(1, 31), need()), [12, 1, 2, 2, 1, 1, 1, 1, 1, 1, 1])

    def test_the_days_of_a_month_when_6_is_turned(self):
        self.assertEqual(last(begins(2, 6, 1), wants(1, 31), need()), [11, 1, 2, 2, 1, 1, 1, 1, 1, 1, 0])

    def test_9_counts_as_6_when_6_is_turned(self):
        self.assertEqual(last(begins(4, 6, 1), want(6, 9, 1, 9), need()), [4, 0, 1, 0, 0, 0, 0, 3, 0, 0, 0])
        self.assertEqual(last(begins(4, 6, 0), want(6, 9, 1, 9), need()), [4, 0, 1, 0, 0, 0, 0, 1, 0, 0, 2])

    def test_one_cube(self):
        self.assertEqual(last(begins(1, 6, 0), wants(2, 5), need()), [4, 0, 0, 1, 1, 1, 1, 0, 0, 0, 0])

    def test_three_cubes(self):
        self.assertEqual(last(begins(3, 1, 0), wants(0, 11), need()), [13, 3, 2, 1, 1, 1, 1, 1, 1, 1, 1])

    def test_four_cubes(self):
        line = [begins(4, 1, 0), want(8, 8, 8, 8), want(7, 8, 8, 7), want(1, 7, 7, 7)]
        self.assertEqual(last(*line, need()), [8, 0, 1, 0, 0, 0, 0, 0, 3, 4, 0])

    def test_what_is_on_the_cubes_does_not_count(self):
        line = [want(1, 2), mark(0, 1, 2, 3), mark(1, 1, 2, 3)]
        self.assertEqual(last(*line, need()), [2, 0, 1, 1, 0, 0, 0, 0, 0, 0, 0])
        self.assertEqual(last(*line[1:], need()), NONE)

    def test_follows_each_change(self):
        told = ask(wants(10, 11), need(), wants(20, 20), need(), want(2, 2), need(), want(2, 2), need())
        self.assertEqual(told[1::2], [
            [3, 1, 2, 0, 0, 0, 0, 0, 0, 0, 0], [2, 1, 0, 1, 0, 0, 0, 0, 0, 0, 0],
            [3, 1, 0, 2, 0, 0, 0, 0, 0, 0, 0], [3, 1, 0, 2, 0, 0, 0, 0, 0, 0, 0],
        ])
        self.assertEqual(last(wants(10, 11), begins(2, 6, 0), need()), NONE)

    def test_changes_nothing(self):
        told = ask(want(1, 2), mark(0, 1), mark(1, 2), need(), need(), show(2, 1), want(1, 2), want(1, 3), mark(1, 3))
        found = [2, 0, 1, 1, 0, 0, 0, 0, 0, 0, 0]
        self.assertEqual(told[3:], [found, found, [1, 1, 0], [-4], [2], [1]])


if __name__ == "__main__":
    unittest.main()
