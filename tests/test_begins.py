import unittest

from tests.helper import HIGHEST, ask, begins, last, mark, show, want, wants


class Begins(unittest.TestCase):
    def test_every_size_that_is_let(self):
        for cubes in range(1, 5):
            for faces in range(1, 7):
                for turned in (0, 1):
                    self.assertEqual(ask(begins(cubes, faces, turned)), [[0]])

    def test_sets_the_number_of_cubes(self):
        for cubes in range(1, 5):
            start = begins(cubes, 6, 0)
            for length in range(9):
                expected = [1] if length == cubes else [-1]
                self.assertEqual(last(start, want(*[1] * length)), expected)
            self.assertEqual(last(start, mark(cubes - 1, 1)), [0])
            self.assertEqual(last(start, mark(cubes, 1)), [-2])

    def test_sets_the_number_of_faces(self):
        for faces in range(1, 7):
            start = begins(2, faces, 0)
            self.assertEqual(last(start, mark(0, *range(faces))), [0])
            self.assertEqual(last(start, mark(0, *range(faces + 1))), [-1])

    def test_sets_whether_6_is_turned(self):
        self.assertEqual(last(begins(1, 6, 0), mark(0, 6), show(9)), [0])
        self.assertEqual(last(begins(1, 6, 1), mark(0, 6), show(9)), [1, 0])
        self.assertEqual(last(begins(1, 6, 1), begins(1, 6, 0), mark(0, 6), show(9)), [0])

    def test_clears_the_cubes(self):
        line = [mark(0, 1), mark(1, 2), show(1, 2), begins(2, 6, 0), show(1, 2)]
        self.assertEqual(ask(*line), [[0], [0], [1, 0, 1], [0], [0]])
        self.assertEqual(last(mark(0, 1), mark(1, 2), begins(2, 6, 0), mark(1, 2), show(1, 2)), [0])

    def test_clears_what_is_wanted(self):
        line = [want(1, 2), want(3, 4), begins(2, 6, 0), want(1, 2)]
        self.assertEqual(ask(*line), [[1], [2], [0], [1]])

    def test_refuses_wrong_cubes(self):
        for cubes in (0, 5, 6, HIGHEST):
            self.assertEqual(ask(begins(cubes, 6, 0)), [[-1]])

    def test_refuses_wrong_faces(self):
        for faces in (0, 7, 8, HIGHEST):
            self.assertEqual(ask(begins(2, faces, 0)), [[-1]])

    def test_refuses_wrong_turned(self):
        for turned in (2, 3, HIGHEST):
            self.assertEqual(ask(begins(2, 6, turned)), [[-1]])

    def test_refuses_several_causes_once(self):
        self.assertEqual(ask(begins(0, 0, 2)), [[-1]])
        self.assertEqual(ask(begins(HIGHEST, HIGHEST, HIGHEST)), [[-1]])

    def test_all_is_as_it_was_behind_a_refusal(self):
        for refused in (begins(5, 3, 1), begins(0, 3, 1), begins(3, 7, 1), begins(3, 0, 1), begins(3, 3, 2)):
            line = [
                begins(2, 4, 0), want(1, 2), want(0, 6), mark(0, 1, 6), mark(1, 2, 0, 3, 4),
                refused,
                show(1, 2), show(0, 9), mark(1, 0, 2, 3, 4, 5), mark(0, 1, 9, 6), want(1, 2), want(4, 4),
            ]
            expected = [[0], [1], [2], [0], [2], [-1], [1, 0, 1], [0], [-1], [2], [-4], [3]]
            self.assertEqual(ask(*line), expected)


class NewDesk(unittest.TestCase):
    def test_has_two_cubes(self):
        self.assertEqual(ask(mark(0), mark(1), mark(2)), [[0], [0], [-2]])
        self.assertEqual(ask(show(1), show(1, 1), show(1, 1, 1)), [[-1], [0], [-1]])

    def test_has_six_faces(self):
        self.assertEqual(ask(mark(0, 0, 1, 2, 3, 4, 5)), [[0]])
        self.assertEqual(ask(mark(0, 0, 1, 2, 3, 4, 5, 6)), [[-1]])

    def test_does_not_turn_6(self):
        self.assertEqual(ask(mark(0, 6), mark(1, 9), show(6, 9), show(6, 6)), [[0], [0], [1, 0, 1], [0]])

    def test_has_no_digit_and_wants_nothing(self):
        for digit in range(10):
            self.assertEqual(ask(show(digit, digit)), [[0]])
            self.assertEqual(ask(want(digit, digit)), [[1]])

    def test_any_call_may_be_first(self):
        self.assertEqual(ask(begins(1, 1, 1)), [[0]])
        self.assertEqual(ask(want(0, 9)), [[1]])
        self.assertEqual(ask(wants(1, 31)), [[31]])
        self.assertEqual(ask(mark(1, 9)), [[0]])
        self.assertEqual(ask(show(0, 9)), [[0]])


if __name__ == "__main__":
    unittest.main()
