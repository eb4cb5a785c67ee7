import unittest

from tests.helper import HIGHEST, ask, begins, last, mark, show, want, wants


def forty():
    return [want(number // 10, number % 10) for number in range(40)]


class Want(unittest.TestCase):
    def test_answers_how_many_are_wanted(self):
        self.assertEqual(ask(want(0, 1), want(1, 0), want(9, 9)), [[1], [2], [3]])

    def test_every_number_of_cubes(self):
        for cubes in range(1, 5):
            line = [begins(cubes, 6, 0), want(*[0] * cubes), want(*[9] * cubes)]
            self.assertEqual(ask(*line), [[0], [1], [2]])

    def test_is_added_behind_wants(self):
        self.assertEqual(ask(wants(1, 5), want(3, 1), want(0, 3)), [[5], [6], [-4]])

    def test_is_counted_by_mark(self):
        line = [want(1, 2), want(2, 1), want(1, 1), mark(0, 1), mark(1, 2), mark(1, 1, 2)]
        self.assertEqual(ask(*line), [[1], [2], [3], [0], [2], [3]])

    def test_6_and_9_are_two_when_6_is_not_turned(self):
        line = [want(0, 6), want(0, 9), mark(0, 0), mark(1, 9), mark(1, 6, 9)]
        self.assertEqual(ask(*line), [[1], [2], [0], [1], [2]])

    def test_9_is_wanted_as_6_when_6_is_turned(self):
        line = [begins(2, 6, 1), want(0, 9), mark(0, 0), mark(1, 6), mark(1, 9), show(0, 6)]
        self.assertEqual(ask(*line), [[0], [1], [0], [1], [1], [1, 0, 1]])


class WantRefused(unittest.TestCase):
    def test_wrong_length(self):
        for cubes in range(1, 5):
            for length in range(9):
                if length != cubes:
                    self.assertEqual(last(begins(cubes, 6, 0), want(*[1] * length)), [-1])

    def test_above_9_at_each_place(self):
        for number in (10, 11, 100, HIGHEST):
            for place in range(4):
                row = [0, 6, 9, 1]
                row[place] = number
                for turned in (0, 1):
                    self.assertEqual(last(begins(4, 6, turned), want(*row)), [-1])

    def test_wanted_already(self):
        self.assertEqual(ask(want(1, 2), want(2, 2), want(1, 2), want(2, 2)), [[1], [2], [-4], [-4]])
        self.assertEqual(ask(want(1, 2), want(2, 1)), [[1], [2]])

    def test_wanted_already_as_it_is_read(self):
        line = [begins(2, 6, 1), want(6, 9), want(9, 6), want(6, 6), want(9, 9), want(0, 9), want(0, 6)]
        self.assertEqual(ask(*line), [[0], [1], [-4], [-4], [-4], [2], [-4]])

    def test_the_40th_and_one_more(self):
        told = ask(*forty(), want(4, 0), want(9, 9))
        self.assertEqual(told, [[count] for count in range(1, 41)] + [[-5], [-5]])

    def test_one_more_than_40_behind_wants(self):
        self.assertEqual(ask(wants(0, 38), want(5, 0), want(5, 1)), [[39], [40], [-5]])
        self.assertEqual(ask(wants(0, 39), want(5, 0)), [[40], [-5]])

    def test_the_one_told_first(self):
        self.assertEqual(last(*forty(), want(0, 7)), [-4])
        self.assertEqual(last(*forty(), want(0, 10)), [-1])
        self.assertEqual(last(*forty(), want(0, 7, 0)), [-1])
        self.assertEqual(last(*forty(), want()), [-1])
        self.assertEqual(last(begins(2, 6, 0), want(1, 2), want(HIGHEST, 1, 2)), [-1])

    def test_all_is_as_it_was(self):
        line = [want(1, 2), mark(0, 1), mark(1, 2)]
        for refused in (want(1, 2), want(1), want(1, 2, 3), want(1, 10)):
            self.assertEqual(ask(*line, refused, mark(1, 2), want(2, 1), show(1, 2))[4:], [[1], [2], [1, 0, 1]])
        told = ask(*forty(), want(4, 0), mark(0, 4), mark(1, 0), wants(40, 40), want(0, 0))
        self.assertEqual(told[40:], [[-5], [0], [1], [1], [2]])


if __name__ == "__main__":
    unittest.main()
