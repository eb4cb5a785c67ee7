import unittest

from tests.helper import HIGHEST, ask, begins, last, mark, show, want


class Show(unittest.TestCase):
    def test_no_way(self):
        self.assertEqual(ask(mark(0, 1, 2), mark(1, 3), show(1, 2), show(3, 3), show(4, 1))[2:], [[0], [0], [0]])

    def test_one_way(self):
        self.assertEqual(ask(mark(0, 1, 2), mark(1, 3), show(1, 3), show(3, 2))[2:], [[1, 0, 1], [1, 1, 0]])

    def test_several_ways_and_the_first_of_them(self):
        self.assertEqual(last(mark(0, 1, 2), mark(1, 2, 1), show(2, 1)), [2, 0, 1])
        self.assertEqual(last(mark(0, 5), mark(1, 5), show(5, 5)), [2, 0, 1])

    def test_the_first_way_need_not_begin_with_cube_0(self):
        line = [begins(3, 3, 0), mark(0, 2), mark(1, 1, 3), mark(2, 1, 3)]
        self.assertEqual(last(*line, show(1, 2, 3)), [2, 1, 0, 2])
        self.assertEqual(last(*line, show(3, 1, 2)), [2, 1, 2, 0])
        self.assertEqual(last(*line, show(2, 1, 1)), [2, 0, 1, 2])

    def test_a_lower_cube_that_leads_nowhere_is_not_taken(self):
        line = [begins(3, 3, 0), mark(0, 1, 2), mark(1, 1), mark(2, 1, 3)]
        self.assertEqual(last(*line, show(1, 2, 3)), [1, 1, 0, 2])

    def test_all_ways_of_alike_cubes(self):
        for cubes, ways in ((1, 1), (2, 2), (3, 6), (4, 24)):
            marks = [mark(cube, 8) for cube in range(cubes)]
            self.assertEqual(last(begins(cubes, 1, 0), *marks, show(*[8] * cubes)), [ways, *range(cubes)])

    def test_one_cube(self):
        self.assertEqual(ask(begins(1, 6, 0), show(0), mark(0, 0), show(0), show(1)), [[0], [0], [0], [1, 0], [0]])

    def test_9_and_6_when_6_is_turned(self):
        line = [begins(2, 6, 1), mark(0, 6, 1), mark(1, 9, 2)]
        for row in ((6, 6), (6, 9), (9, 6), (9, 9)):
            self.assertEqual(last(*line, show(*row)), [2, 0, 1])
        self.assertEqual(last(*line, show(9, 1)), [1, 1, 0])

    def test_9_and_6_when_6_is_not_turned(self):
        line = [mark(0, 6, 1), mark(1, 9, 2)]
        told = ask(*line, show(6, 6), show(6, 9), show(9, 6), show(9, 9))
        self.assertEqual(told[2:], [[0], [1, 0, 1], [1, 1, 0], [0]])

    def test_the_row_need_not_be_wanted_and_is_not_then(self):
        self.assertEqual(ask(mark(0, 1), mark(1, 2), show(1, 2), want(1, 2)), [[0], [0], [1, 0, 1], [1]])

    def test_again_answers_the_same(self):
        line = [mark(0, 1, 2), mark(1, 1, 2), show(1, 2), show(1, 2), show(2, 1)]
        self.assertEqual(ask(*line)[2:], [[2, 0, 1]] * 3)


class ShowRefused(unittest.TestCase):
    def test_wrong_length(self):
        for cubes in range(1, 5):
            marks = [mark(cube, 1) for cube in range(cubes)]
            for length in range(9):
                if length != cubes:
                    self.assertEqual(last(begins(cubes, 6, 0), *marks, show(*[1] * length)), [-1])

    def test_above_9_at_each_place(self):
        for number in (10, 19, HIGHEST):
            for place in range(4):
                row = [0, 0, 0, 0]
                row[place] = number
                self.assertEqual(last(begins(4, 6, 0), show(*row)), [-1])
                self.assertEqual(last(begins(4, 6, 1), show(*row)), [-1])

    def test_several_causes(self):
        self.assertEqual(ask(show(*[HIGHEST] * 8)), [[-1]])
        self.assertEqual(ask(show(10)), [[-1]])

    def test_neither_wanted_nor_40_wanted_is_a_cause(self):
        forty = [want(number // 10, number % 10) for number in range(40)]
        self.assertEqual(last(*forty, show(0, 0)), [0])
        self.assertEqual(last(*forty, show(9, 0)), [0])

    def test_all_is_as_it_was(self):
        for refused in (show(), show(1), show(1, 2, 3), show(1, 10)):
            line = [want(1, 2), mark(0, 1), mark(1, 2), refused, show(1, 2), mark(0, 1), want(2, 1)]
            self.assertEqual(ask(*line)[3:], [[-1], [1, 0, 1], [1], [2]])


if __name__ == "__main__":
    unittest.main()
