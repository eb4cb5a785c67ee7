import math
import unittest

from tests.helper import ask, begins, fewest, last, mark, missing, need, show, want, want_digits, wants, ways


class Ways(unittest.TestCase):
    def test_the_days_of_a_month_when_6_is_turned(self):
        line = [begins(2, 6, 1), wants(1, 31)]
        self.assertEqual(last(*line, ways()), [10, 0, 1, 2, 3, 4, 5, 0, 1, 2, 6, 7, 8])

    def test_nothing_follows_where_no_marking_is_good(self):
        self.assertEqual(last(wants(1, 31), ways()), [0])
        self.assertEqual(last(begins(2, 5, 1), wants(1, 31), ways()), [0])
        self.assertEqual(last(begins(1, 1, 0), wants(0, 1), ways()), [0])

    def test_one_row_of_two_digits(self):
        self.assertEqual(last(begins(2, 1, 0), want(2, 1), ways()), [1, 1, 2])
        self.assertEqual(last(begins(2, 1, 0), want(4, 4), ways()), [1, 4, 4])

    def test_markings_that_differ_in_the_order_of_cubes_count_once(self):
        self.assertEqual(last(begins(2, 2, 0), want(1, 2), want(3, 4), ways()), [2, 1, 3, 2, 4])
        self.assertEqual(last(begins(2, 2, 0), want(1, 2), want(2, 3), want(3, 1), ways()), [3, 1, 2, 1, 3])

    def test_cubes_may_be_marked_alike(self):
        self.assertEqual(last(begins(2, 2, 0), want(1, 1), want(2, 2), ways()), [1, 1, 2, 1, 2])
        self.assertEqual(last(begins(3, 1, 0), want(1, 1, 1), ways()), [1, 1, 1, 1])

    def test_rows_need_not_be_shown_in_the_order_of_cubes(self):
        line = [begins(2, 2, 0), want(5, 0), want(1, 4), want(0, 4)]
        self.assertEqual(last(*line, ways()), [1, 0, 1, 4, 5])

    def test_the_first_is_told_by_the_first_digit_that_differs(self):
        # Good are 1 3 with 2 4 and 1 4 with 2 3: by the second cube alone it would be the other one.
        self.assertEqual(last(begins(2, 2, 0), want(4, 3), want(2, 1), ways()), [2, 1, 3, 2, 4])

    def test_fewer_digits_than_faces(self):
        for faces in range(2, 7):
            self.assertEqual(last(begins(2, faces, 0), want(1, 2), ways()), [1, 1, 2, 1, 2])
        for faces in range(1, 7):
            self.assertEqual(last(begins(3, faces, 0), want(7, 7, 7), ways()), [1, 7, 7, 7])
        self.assertEqual(last(begins(2, 6, 0), wants(0, 4), ways()), [1, 0, 1, 2, 3, 4, 0, 1, 2, 3, 4])

    def test_as_many_digits_as_faces(self):
        self.assertEqual(last(begins(2, 5, 0), wants(0, 4), ways()), [1, 0, 1, 2, 3, 4, 0, 1, 2, 3, 4])

    def test_more_digits_than_faces(self):
        # Both have the 0, each lacks one of 1 to 4, and they don't lack the same one.
        self.assertEqual(last(begins(2, 4, 0), wants(0, 4), ways()), [6, 0, 1, 2, 3, 0, 1, 2, 4])

    def test_9_is_told_as_6_when_6_is_turned(self):
        self.assertEqual(last(begins(2, 1, 1), want(9, 8), ways()), [1, 6, 8])
        self.assertEqual(last(begins(2, 2, 1), want(9, 6), want(7, 9), ways()), [1, 6, 7, 6, 7])

    def test_9_and_6_when_6_is_not_turned(self):
        self.assertEqual(last(begins(2, 1, 0), want(9, 8), ways()), [1, 8, 9])
        self.assertEqual(last(begins(2, 2, 0), want(9, 6), want(7, 9), ways()), [3, 6, 7, 6, 9])

    def test_one_cube(self):
        self.assertEqual(last(begins(1, 6, 0), wants(3, 8), ways()), [1, 3, 4, 5, 6, 7, 8])
        self.assertEqual(last(begins(1, 6, 0), wants(3, 9), ways()), [0])
        self.assertEqual(last(begins(1, 6, 1), wants(3, 9), ways()), [1, 3, 4, 5, 6, 7, 8])

    def test_three_cubes(self):
        self.assertEqual(last(begins(3, 1, 0), want(2, 1, 2), ways()), [1, 1, 2, 2])
        self.assertEqual(last(begins(3, 2, 0), want(1, 2, 3), want(4, 5, 6), ways()), [6, 1, 4, 2, 5, 3, 6])

    def test_four_cubes(self):
        self.assertEqual(last(begins(4, 1, 0), want(4, 2, 4, 1), ways()), [1, 1, 2, 4, 4])
        line = [begins(4, 2, 0), want(0, 1, 2, 3), want(4, 5, 6, 7)]
        self.assertEqual(last(*line, ways()), [24, 0, 4, 1, 5, 2, 6, 3, 7])

    def test_what_is_on_the_cubes_does_not_count(self):
        line = [begins(2, 1, 0), want(1, 2), mark(0, 8), mark(1, 9)]
        self.assertEqual(last(*line, ways()), [1, 1, 2])

    def test_the_faces_of_the_desk_count(self):
        for faces, told in ((1, [0]), (2, [2, 1, 3, 2, 4])):
            self.assertEqual(last(begins(2, faces, 0), want(1, 2), want(3, 4), ways()), told)

    def test_changes_nothing(self):
        line = [begins(2, 2, 0), want(1, 2), want(3, 4), mark(0, 4, 1), mark(1, 2)]
        behind = [missing(), show(1, 2), want(1, 2), mark(1, 3, 2), mark(1, 1, 2, 3), want(2, 2), need()]
        found = [2, 1, 3, 2, 4]
        told = ask(*line, ways(), ways(), *behind)
        self.assertEqual(told[5:9], [found, found, [1, 3, 4], [1, 0, 1]])
        self.assertEqual(told[9:], [[-4], [2], [-1], [3], [5, 0, 1, 2, 1, 1, 0, 0, 0, 0, 0]])


class WaysRefused(unittest.TestCase):
    def test_nothing_wanted(self):
        self.assertEqual(ask(ways()), [[-3]])
        self.assertEqual(last(begins(4, 6, 1), ways()), [-3])
        self.assertEqual(last(mark(0, 1), mark(1, 2), ways()), [-3])
        self.assertEqual(last(wants(1, 31), begins(2, 6, 0), ways()), [-3])
        self.assertEqual(last(want(1), wants(2, 1), ways()), [-3])

    def test_too_many_for_every_number_of_cubes_digits_and_faces(self):
        for cubes in range(1, 5):
            for digits in range(1, 11):
                for faces in range(1, 7):
                    choices = math.comb(digits, min(faces, digits))
                    markings = math.comb(choices + cubes - 1, cubes)
                    told = last(begins(cubes, faces, 0), *want_digits(cubes, range(digits)), ways())
                    self.assertEqual(told == [-7], markings > 32000, (cubes, digits, faces))

    def test_not_too_many(self):
        # 31878 markings, 30856 and 31465: none are between these and 32000.
        self.assertEqual(last(begins(2, 5, 0), wants(1, 31), ways()), [0])
        self.assertEqual(last(begins(3, 3, 0), wants(0, 7), ways()), [0])
        self.assertEqual(last(begins(4, 2, 0), wants(0, 7), ways()), [0])
        self.assertEqual(last(begins(4, 6, 0), want(0, 1, 2, 3), want(4, 5, 6, 7), ways())[0] > 0, True)

    def test_too_many_though_none_is_good(self):
        triples = [want(digit, digit, digit) for digit in range(8)]
        self.assertEqual(last(begins(3, 4, 0), *triples, ways()), [-7])
        self.assertEqual(last(begins(3, 3, 0), *triples, ways()), [0])

    def test_too_many_though_some_are_good(self):
        line = [begins(3, 4, 0), *want_digits(3, range(8))]
        self.assertEqual(last(*line, mark(0, 0, 1, 3, 6), mark(1, 1, 4, 5, 7), mark(2, 2, 5, 6, 7)), [3])
        self.assertEqual(last(*line, ways()), [-7])

    def test_the_digits_of_wanted_rows_count_as_they_are_read(self):
        rows = want_digits(3, range(2, 10))
        self.assertEqual(last(begins(3, 4, 0), *rows, ways()), [-7])
        self.assertGreater(last(begins(3, 4, 1), *rows, ways())[0], 0)

    def test_all_is_as_it_was(self):
        line = [begins(3, 4, 0), want(0, 1, 2), want(3, 4, 5), want(6, 7, 7), mark(0, 2, 1)]
        told = ask(*line, ways(), missing(), want(6, 7, 7), mark(1, 1, 0), mark(2, 0, 2), fewest())
        self.assertEqual(told[5:10], [[-7], [3, 0, 1, 2], [-4], [0], [1]])
        self.assertEqual(told[10], [3, 0, 3, 6, 1, 4, 7, 2, 5, 7])
        self.assertEqual(ask(ways(), want(1, 1), ways()), [[-3], [1], [1, 1, 1]])


if __name__ == "__main__":
    unittest.main()
