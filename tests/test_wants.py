import unittest

from tests.helper import HIGHEST, ask, begins, last, mark, want, wants


def is_wanted(line, row):
    return last(*line, want(*row)) == [-4]


class Wants(unittest.TestCase):
    def test_a_number_to_itself(self):
        for number in (0, 7, 10, 99):
            self.assertEqual(ask(wants(number, number)), [[1]])
            self.assertTrue(is_wanted([wants(number, number)], (number // 10, number % 10)))

    def test_the_days_of_a_month(self):
        self.assertEqual(ask(wants(1, 31)), [[31]])
        for number in range(100):
            row = (number // 10, number % 10)
            self.assertEqual(is_wanted([wants(1, 31)], row), 1 <= number <= 31)

    def test_zeros_ahead(self):
        line = [begins(4, 6, 0), wants(0, 10)]
        self.assertEqual(last(*line), [11])
        for row in ((0, 0, 0, 0), (0, 0, 0, 9), (0, 0, 1, 0)):
            self.assertTrue(is_wanted(line, row))
        for row in ((1, 0, 0, 0), (9, 0, 0, 0), (0, 1, 0, 0)):
            self.assertFalse(is_wanted(line, row))

    def test_40_numbers(self):
        self.assertEqual(ask(wants(0, 39)), [[40]])
        self.assertEqual(ask(wants(60, 99)), [[40]])
        self.assertEqual(last(begins(4, 6, 0), wants(9960, 9999)), [40])

    def test_up_to_the_highest_number_of_so_many_digits(self):
        for cubes, highest in ((1, 9), (2, 99), (3, 999), (4, 9999)):
            line = [begins(cubes, 6, 0), wants(highest, highest)]
            self.assertEqual(last(*line), [1])
            self.assertTrue(is_wanted(line, [9] * cubes))

    def test_stands_instead_of_what_was(self):
        line = [want(5, 0), want(5, 1), wants(1, 3), want(5, 0), want(0, 2), wants(7, 7), want(0, 2)]
        self.assertEqual(ask(*line), [[1], [2], [3], [4], [-4], [1], [2]])
        self.assertEqual(ask(wants(0, 39), wants(40, 79)), [[40], [40]])

    def test_leaves_the_cubes_as_they_are(self):
        self.assertEqual(ask(mark(0, 0, 1), wants(1, 2), mark(1, 1, 2)), [[0], [2], [2]])

    def test_numbers_read_alike_are_one_row(self):
        self.assertEqual(ask(begins(1, 6, 1), wants(0, 9)), [[0], [9]])
        self.assertEqual(ask(begins(1, 6, 1), wants(9, 9), want(6), want(9)), [[0], [1], [-4], [-4]])
        self.assertEqual(ask(begins(2, 6, 1), wants(1, 31)), [[0], [28]])
        self.assertEqual(ask(begins(2, 6, 1), wants(60, 99)), [[0], [27]])
        self.assertEqual(ask(begins(1, 6, 0), wants(0, 9)), [[0], [10]])

    def test_more_can_be_wanted_where_numbers_were_alike(self):
        line = [begins(2, 6, 1), wants(0, 39)]
        self.assertEqual(last(*line), [36])
        more = [want(4, 0), want(4, 1), want(4, 2), want(4, 3), want(4, 4)]
        self.assertEqual(ask(*line, *more)[2:], [[37], [38], [39], [40], [-5]])


class WantsRefused(unittest.TestCase):
    def test_a_above_b(self):
        for a, b in ((1, 0), (31, 30), (99, 0), (HIGHEST, 0), (HIGHEST, 99), (100, 99)):
            self.assertEqual(ask(wants(a, b)), [[-1]])

    def test_more_digits_than_cubes(self):
        for cubes, lowest in ((1, 10), (2, 100), (3, 1000), (4, 10000)):
            for a, b in ((lowest, lowest), (lowest - 1, lowest), (HIGHEST, HIGHEST)):
                self.assertEqual(last(begins(cubes, 6, 0), wants(a, b)), [-1])

    def test_more_than_40_numbers(self):
        for a, b in ((0, 40), (59, 99), (0, 99), (1, 41)):
            self.assertEqual(ask(wants(a, b)), [[-1]])

    def test_more_than_40_numbers_though_fewer_rows(self):
        self.assertEqual(last(begins(2, 6, 1), wants(59, 99)), [-1])

    def test_several_causes(self):
        self.assertEqual(ask(wants(0, HIGHEST)), [[-1]])
        self.assertEqual(ask(wants(HIGHEST, HIGHEST - 1)), [[-1]])

    def test_all_is_as_it_was(self):
        for refused in (wants(2, 1), wants(100, 100), wants(0, 40), wants(0, HIGHEST)):
            line = [wants(11, 12), mark(0, 1), mark(1, 1, 2), refused, mark(0, 1), want(1, 1), want(2, 2)]
            self.assertEqual(ask(*line)[1:], [[0], [2], [-1], [2], [-4], [3]])


if __name__ == "__main__":
    unittest.main()
