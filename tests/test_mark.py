import unittest

from tests.helper import HIGHEST, ask, begins, last, mark, show, want, wants


class Mark(unittest.TestCase):
    def test_nothing_is_shown_where_nothing_is_wanted(self):
        self.assertEqual(ask(mark(0, 1, 2, 3), mark(1, 4)), [[0], [0]])

    def test_counts_the_wanted_rows_that_are_shown(self):
        line = [wants(1, 31), mark(0, 0, 1, 2, 3, 4, 5), mark(1, 0, 1, 2, 6, 7, 8)]
        self.assertEqual(ask(*line), [[31], [0], [28]])

    def test_all_days_are_shown_if_6_is_turned(self):
        line = [begins(2, 6, 1), wants(1, 31), mark(0, 0, 1, 2, 3, 4, 5), mark(1, 0, 1, 2, 6, 7, 8)]
        self.assertEqual(ask(*line), [[0], [28], [0], [28]])

    def test_each_cube_stands_once(self):
        self.assertEqual(ask(want(1, 1), mark(0, 1), mark(1, 2), mark(1, 1)), [[1], [0], [0], [1]])
        line = [begins(3, 6, 0), want(1, 1, 2), mark(0, 1, 2), mark(1, 1, 2), mark(2, 3), mark(2, 1)]
        self.assertEqual(ask(*line), [[0], [1], [0], [0], [0], [1]])

    def test_stands_instead_of_what_was_on_it(self):
        line = [want(1, 2), want(1, 3), mark(0, 1), mark(1, 2), mark(1, 3), show(1, 2), mark(1, 2, 3)]
        self.assertEqual(ask(*line), [[1], [2], [0], [1], [1], [0], [2]])

    def test_no_digit(self):
        self.assertEqual(ask(want(1, 2), mark(0, 1), mark(1, 2), mark(0), mark(0)), [[1], [0], [1], [0], [0]])

    def test_as_many_digits_as_faces(self):
        for faces in range(1, 7):
            line = [begins(1, faces, 0), wants(0, 9), mark(0, *range(faces)), mark(0, *range(9, 9 - faces, -1))]
            self.assertEqual(ask(*line), [[0], [10], [faces], [faces]])

    def test_every_cube(self):
        for cubes in range(1, 5):
            row = [7] * cubes
            marks = [mark(cube, 7) for cube in range(cubes)]
            told = ask(begins(cubes, 1, 0), want(*row), *marks)
            self.assertEqual(told[2:], [[0]] * (cubes - 1) + [[1]])

    def test_each_digit(self):
        for digit in range(10):
            self.assertEqual(last(begins(1, 1, 0), wants(0, 9), mark(0, digit)), [1])

    def test_6_and_9_when_6_is_not_turned(self):
        line = [begins(1, 2, 0), want(6), want(9), mark(0, 6), mark(0, 9), mark(0, 6, 9), mark(0, 9, 6)]
        self.assertEqual(ask(*line)[3:], [[1], [1], [2], [2]])

    def test_9_is_on_the_cube_as_6_when_6_is_turned(self):
        line = [begins(1, 2, 1), want(6), mark(0, 9), show(6), mark(0, 6), show(9)]
        self.assertEqual(ask(*line), [[0], [1], [1], [1, 0], [1], [1, 0]])


class MarkRefused(unittest.TestCase):
    def test_no_such_cube(self):
        for cubes in range(1, 5):
            for cube in (cubes, cubes + 1, HIGHEST):
                self.assertEqual(last(begins(cubes, 6, 0), mark(cube, 1)), [-2])
                self.assertEqual(last(begins(cubes, 6, 0), mark(cube)), [-2])

    def test_more_digits_than_faces(self):
        for faces in range(1, 7):
            for count in range(faces + 1, 11):
                self.assertEqual(last(begins(1, faces, 0), mark(0, *range(count))), [-1])

    def test_up_to_12_digits(self):
        for count in range(13):
            expected = [0] if count <= 1 else [-1]
            self.assertEqual(last(begins(1, 6, 0), mark(0, *[5] * count)), expected)

    def test_above_9_at_each_place(self):
        for number in (10, 11, HIGHEST):
            for place in range(6):
                digits = [0, 1, 2, 3, 4, 5]
                digits[place] = number
                for turned in (0, 1):
                    self.assertEqual(last(begins(1, 6, turned), mark(0, *digits)), [-1])

    def test_two_alike(self):
        self.assertEqual(ask(mark(0, 1, 1)), [[-1]])
        self.assertEqual(ask(mark(0, 1, 2, 3, 4, 5, 1)), [[-1]])
        self.assertEqual(ask(mark(0, 0, 3, 9, 9)), [[-1]])

    def test_two_alike_as_they_are_read(self):
        self.assertEqual(last(begins(2, 6, 1), mark(0, 6, 9)), [-1])
        self.assertEqual(last(begins(2, 6, 1), mark(0, 9, 1, 2, 6)), [-1])
        self.assertEqual(last(begins(2, 6, 1), mark(0, 9, 9)), [-1])
        self.assertEqual(last(begins(2, 6, 0), mark(0, 9, 1, 2, 6)), [0])

    def test_the_one_told_first(self):
        self.assertEqual(ask(mark(2, 10)), [[-2]])
        self.assertEqual(ask(mark(2, 1, 1)), [[-2]])
        self.assertEqual(ask(mark(2, 0, 1, 2, 3, 4, 5, 6)), [[-2]])
        self.assertEqual(ask(mark(HIGHEST, *[HIGHEST] * 12)), [[-2]])
        self.assertEqual(ask(mark(1, *[HIGHEST] * 12)), [[-1]])

    def test_all_is_as_it_was(self):
        for refused in (mark(2, 3), mark(1, 10), mark(1, 3, 3), mark(1, 3, 4, 5), mark(0, HIGHEST)):
            line = [begins(2, 2, 0), want(1, 2), mark(0, 1), mark(1, 2), refused]
            behind = ask(*line, show(1, 2), show(1, 3), mark(0, 1), want(1, 3))[5:]
            self.assertEqual(behind, [[1, 0, 1], [0], [1], [2]])


if __name__ == "__main__":
    unittest.main()
