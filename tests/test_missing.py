import unittest

from tests.helper import ask, begins, last, mark, missing, show, want, wants


class Missing(unittest.TestCase):
    def test_new_desk(self):
        self.assertEqual(ask(missing()), [[0]])
        self.assertEqual(last(begins(4, 1, 1), missing()), [0])

    def test_nothing_wanted(self):
        self.assertEqual(last(mark(0, 1), mark(1, 2), missing()), [0])

    def test_nothing_on_the_cubes(self):
        self.assertEqual(last(wants(1, 31), missing()), [31, 0, 1])

    def test_nothing_follows_where_all_are_shown(self):
        self.assertEqual(last(want(1, 2), want(2, 1), mark(0, 1), mark(1, 2), missing()), [0])

    def test_the_first_is_the_one_that_came_first(self):
        line = [want(5, 5), want(1, 2), want(0, 0), mark(0, 1), mark(1, 2)]
        self.assertEqual(last(*line, missing()), [2, 5, 5])
        self.assertEqual(last(*line, mark(0, 5, 1), mark(1, 5, 2), missing()), [1, 0, 0])

    def test_rows_that_are_shown_are_passed_over(self):
        line = [want(1, 2), want(3, 3), want(2, 1), want(4, 1), mark(0, 1), mark(1, 2)]
        self.assertEqual(last(*line, missing()), [2, 3, 3])

    def test_one_digit_on_one_cube_is_not_there_twice(self):
        self.assertEqual(last(want(1, 1), mark(0, 1), mark(1, 2), missing()), [1, 1, 1])

    def test_the_days_of_a_month(self):
        sides = [mark(0, 0, 1, 2, 3, 4, 5), mark(1, 0, 1, 2, 6, 7, 8)]
        self.assertEqual(last(wants(1, 31), *sides, missing()), [3, 0, 9])
        self.assertEqual(last(begins(2, 6, 1), wants(1, 31), *sides, missing()), [0])

    def test_9_is_told_as_6_when_6_is_turned(self):
        self.assertEqual(last(begins(2, 6, 1), want(9, 1), missing()), [1, 6, 1])
        self.assertEqual(last(begins(3, 6, 1), wants(989, 989), missing()), [1, 6, 8, 6])
        self.assertEqual(last(begins(2, 6, 1), want(9, 1), mark(0, 6), mark(1, 1), missing()), [0])

    def test_9_and_6_when_6_is_not_turned(self):
        self.assertEqual(last(want(9, 1), mark(0, 6), mark(1, 1), missing()), [1, 9, 1])

    def test_one_cube(self):
        self.assertEqual(last(begins(1, 6, 0), wants(0, 9), mark(0, 0, 1, 2, 4, 5, 6), missing()), [4, 3])

    def test_three_cubes(self):
        line = [begins(3, 2, 0), want(1, 2, 3), want(3, 2, 1), want(2, 2, 3), mark(0, 1, 2), mark(1, 2, 3)]
        self.assertEqual(last(*line, missing()), [3, 1, 2, 3])
        self.assertEqual(last(*line, mark(2, 1), missing()), [1, 2, 2, 3])
        self.assertEqual(last(*line, mark(2, 1, 3), missing()), [0])

    def test_four_cubes(self):
        line = [begins(4, 2, 0), wants(1230, 1234), *[mark(cube, cube, 4) for cube in range(4)]]
        self.assertEqual(last(*line, missing()), [3, 1, 2, 3, 1])

    def test_follows_each_change(self):
        changes = [want(1, 2), mark(0, 1), mark(1, 2), mark(0), begins(2, 6, 0)]
        told = [last(*changes[:count], missing()) for count in range(6)]
        self.assertEqual(told, [[0], [1, 1, 2], [1, 1, 2], [0], [1, 1, 2], [0]])
        self.assertEqual(ask(*[call for change in changes for call in (missing(), change)])[::2], told[:5])

    def test_what_is_refused_does_not_count(self):
        line = [want(1, 2), want(1, 2), want(1), wants(3, 2), mark(0, 1), mark(1, 2), mark(1, 10), mark(2, 5)]
        self.assertEqual(last(*line, missing()), [0])

    def test_changes_nothing(self):
        line = [want(1, 2), want(3, 4), mark(0, 1, 3), mark(1, 2)]
        behind = [missing(), show(1, 2), want(1, 2), want(5, 6), mark(1, 4)]
        self.assertEqual(ask(*line, missing(), *behind)[-6:], [[1, 3, 4], [1, 3, 4], [1, 0, 1], [-4], [3], [1]])


if __name__ == "__main__":
    unittest.main()
