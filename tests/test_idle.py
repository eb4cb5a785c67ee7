import unittest

from tests.helper import ask, begins, idle, last, mark, missing, show, want, wants


class Idle(unittest.TestCase):
    def test_new_desk(self):
        self.assertEqual(ask(idle()), [[0]])
        self.assertEqual(last(begins(4, 1, 1), idle()), [0])

    def test_nothing_on_the_cubes(self):
        self.assertEqual(last(wants(1, 31), idle()), [0])

    def test_every_digit_where_nothing_is_wanted(self):
        self.assertEqual(last(mark(0, 0, 5), mark(1, 3), idle()), [3, 0, 0, 0, 5, 1, 3])

    def test_every_digit_where_nothing_wanted_is_shown(self):
        self.assertEqual(last(want(7, 8), mark(0, 7), mark(1, 1), idle()), [2, 0, 7, 1, 1])

    def test_no_digit(self):
        self.assertEqual(last(want(1, 2), mark(0, 1), mark(1, 2), idle()), [0])

    def test_digits_of_no_wanted_row(self):
        self.assertEqual(last(want(1, 2), mark(0, 1, 4), mark(1, 3, 2), idle()), [2, 0, 4, 1, 3])

    def test_by_cubes_then_by_digits(self):
        line = [want(1, 2), mark(1, 8, 2, 0, 5), mark(0, 9, 4, 1, 7)]
        self.assertEqual(last(*line, idle()), [6, 0, 4, 0, 7, 0, 9, 1, 0, 1, 5, 1, 8])

    def test_each_is_left_out_alone(self):
        self.assertEqual(last(want(1, 2), mark(0, 1, 2), mark(1, 2, 1), idle()), [4, 0, 1, 0, 2, 1, 1, 1, 2])
        self.assertEqual(last(want(1, 2), mark(0, 1, 2), mark(1, 2), idle()), [1, 0, 2])

    def test_it_is_left_out_on_its_cube_alone(self):
        line = [want(1, 1), want(1, 2), mark(0, 1, 2), mark(1, 1, 2)]
        self.assertEqual(last(*line, idle()), [2, 0, 2, 1, 2])

    def test_rows_that_are_not_shown_do_not_count(self):
        self.assertEqual(last(want(1, 2), want(3, 4), mark(0, 1, 3), mark(1, 2), idle()), [1, 0, 3])

    def test_one_row_fewer_is_fewer(self):
        line = [*[want(1, digit) for digit in range(5)], mark(0, 1), mark(1, 0, 1, 2, 3, 4, 5)]
        self.assertEqual(last(*line, idle()), [1, 1, 5])

    def test_the_days_of_a_month(self):
        line = [wants(1, 31), mark(0, 0, 1, 2, 3, 4, 5), mark(1, 0, 1, 2, 6, 7, 8)]
        self.assertEqual(last(*line, idle()), [0])
        self.assertEqual(last(begins(2, 6, 1), *line, idle()), [0])
        self.assertEqual(last(*line, wants(4, 8), idle()), [5, 0, 1, 0, 2, 0, 3, 1, 1, 1, 2])

    def test_9_is_told_as_6_when_6_is_turned(self):
        self.assertEqual(last(begins(2, 6, 1), mark(1, 8, 9, 7), idle()), [3, 1, 6, 1, 7, 1, 8])
        line = [begins(2, 6, 1), want(9, 1), mark(0, 1, 9), mark(1, 6, 2)]
        self.assertEqual(last(*line, idle()), [2, 0, 6, 1, 2])

    def test_9_and_6_when_6_is_not_turned(self):
        self.assertEqual(last(mark(1, 8, 9, 7), idle()), [3, 1, 7, 1, 8, 1, 9])
        self.assertEqual(last(want(9, 1), mark(0, 1, 9), mark(1, 6, 1), idle()), [2, 0, 1, 1, 6])

    def test_one_cube(self):
        self.assertEqual(last(begins(1, 6, 0), wants(3, 5), mark(0, 6, 5, 4, 3, 2), idle()), [2, 0, 2, 0, 6])

    def test_three_cubes(self):
        line = [begins(3, 3, 0), want(1, 2, 3), mark(2, 3, 1), mark(1, 2), mark(0, 3, 1)]
        self.assertEqual(last(*line, idle()), [4, 0, 1, 0, 3, 2, 1, 2, 3])
        self.assertEqual(last(*line, want(1, 2, 1), idle()), [2, 0, 3, 2, 3])

    def test_four_cubes(self):
        line = [begins(4, 2, 0), want(5, 5, 5, 5), *[mark(cube, 5, cube) for cube in range(4)]]
        self.assertEqual(last(*line, idle()), [4, 0, 0, 1, 1, 2, 2, 3, 3])
        self.assertEqual(last(*line, want(0, 1, 2, 3), idle()), [0])

    def test_changes_nothing(self):
        line = [want(1, 2), want(2, 4), mark(0, 4, 2, 1), mark(1, 2, 1)]
        told = ask(*line, idle(), idle(), show(4, 1), show(2, 1), missing(), want(2, 4), mark(1, 2))
        found = [3, 0, 1, 0, 2, 1, 1]
        self.assertEqual(told[4:], [found, found, [1, 0, 1], [2, 0, 1], [0], [-4], [2]])


if __name__ == "__main__":
    unittest.main()
