import unittest

from tests.helper import ask, begins, fewest, last, mark, missing, need, show, want, want_digits, wants, ways


def alike_rows(cubes, digits):
    return [want(*[digit] * cubes) for digit in range(digits)]


class Fewest(unittest.TestCase):
    def test_the_days_of_a_month_when_6_is_turned(self):
        line = [begins(2, 6, 1), wants(1, 31)]
        self.assertEqual(last(*line, fewest()), [6, 0, 1, 2, 3, 4, 5, 0, 1, 2, 6, 7, 8])

    def test_one_face(self):
        self.assertEqual(last(want(2, 1), fewest()), [1, 1, 2])
        self.assertEqual(last(want(1, 2), want(2, 1), fewest()), [1, 1, 2])
        self.assertEqual(last(want(7, 7), fewest()), [1, 7, 7])

    def test_two_faces(self):
        self.assertEqual(last(want(1, 2), want(3, 4), fewest()), [2, 1, 3, 2, 4])
        self.assertEqual(last(want(1, 1), want(2, 2), fewest()), [2, 1, 2, 1, 2])

    def test_every_number_of_faces(self):
        for faces in range(1, 7):
            digits = list(range(faces))
            self.assertEqual(last(*alike_rows(2, faces), fewest()), [faces, *digits, *digits])

    def test_the_first_of_several(self):
        self.assertEqual(last(wants(0, 4), fewest()), [3, 0, 1, 2, 0, 3, 4])

    def test_the_faces_of_the_desk_do_not_count(self):
        for faces in range(1, 7):
            self.assertEqual(last(begins(2, faces, 0), want(1, 2), want(3, 4), fewest()), [2, 1, 3, 2, 4])
            self.assertEqual(last(begins(2, faces, 0), *alike_rows(2, 6), fewest())[0], 6)

    def test_what_is_on_the_cubes_does_not_count(self):
        self.assertEqual(last(want(1, 2), mark(0, 8), mark(1, 1, 2, 9), fewest()), [1, 1, 2])

    def test_9_is_told_as_6_when_6_is_turned(self):
        self.assertEqual(last(begins(2, 6, 1), want(9, 8), fewest()), [1, 6, 8])
        self.assertEqual(last(begins(2, 6, 1), want(9, 6), want(9, 7), fewest()), [2, 6, 7, 6, 7])

    def test_9_and_6_when_6_is_not_turned(self):
        self.assertEqual(last(want(9, 8), fewest()), [1, 8, 9])
        self.assertEqual(last(want(9, 6), want(9, 7), fewest()), [2, 6, 7, 6, 9])

    def test_one_cube(self):
        self.assertEqual(last(begins(1, 1, 0), want(7), fewest()), [1, 7])
        self.assertEqual(last(begins(1, 1, 0), wants(2, 7), fewest()), [6, 2, 3, 4, 5, 6, 7])
        self.assertEqual(last(begins(1, 1, 1), wants(5, 9), fewest()), [4, 5, 6, 7, 8])

    def test_three_cubes(self):
        self.assertEqual(last(begins(3, 6, 0), want(2, 1, 2), fewest()), [1, 1, 2, 2])
        self.assertEqual(last(begins(3, 6, 0), want(1, 2, 3), want(4, 5, 6), fewest()), [2, 1, 4, 2, 5, 3, 6])

    def test_four_cubes(self):
        self.assertEqual(last(begins(4, 6, 0), want(4, 2, 4, 1), fewest()), [1, 1, 2, 4, 4])
        self.assertEqual(last(begins(4, 6, 1), wants(98, 99), fewest()), [2, 0, 6, 0, 6, 0, 6, 0, 8])

    def test_too_many_with_more_faces_than_are_needed(self):
        line = [begins(4, 3, 0), *want_digits(4, range(8))]
        self.assertEqual(ask(*line, ways(), fewest())[-2:], [[-7], [2, 0, 4, 1, 5, 2, 6, 3, 7]])
        line = [begins(4, 3, 0), *want_digits(4, range(7))]
        self.assertEqual(ask(*line, ways(), fewest())[-2:], [[-7], [2, 0, 4, 1, 5, 2, 6, 3, 6]])
        line = [begins(3, 4, 0), *want_digits(3, range(8))]
        self.assertEqual(ask(*line, ways(), fewest())[-2:], [[-7], [3, 0, 3, 6, 1, 4, 7, 2, 5, 7]])

    def test_changes_nothing(self):
        line = [begins(2, 3, 0), want(1, 2), want(3, 4), mark(0, 4, 1), mark(1, 2)]
        behind = [missing(), show(1, 2), want(1, 2), mark(1, 3, 2, 5), mark(1, 1, 2, 3, 5), want(2, 2), need()]
        found = [2, 1, 3, 2, 4]
        told = ask(*line, fewest(), fewest(), *behind)
        self.assertEqual(told[5:9], [found, found, [1, 3, 4], [1, 0, 1]])
        self.assertEqual(told[9:], [[-4], [2], [-1], [3], [5, 0, 1, 2, 1, 1, 0, 0, 0, 0, 0]])
        self.assertEqual(ask(*line, fewest(), ways())[-1], last(*line, ways()))


class FewestRefused(unittest.TestCase):
    def test_nothing_wanted(self):
        self.assertEqual(ask(fewest()), [[-3]])
        self.assertEqual(last(begins(4, 6, 1), fewest()), [-3])
        self.assertEqual(last(mark(0, 1), mark(1, 2), fewest()), [-3])
        self.assertEqual(last(wants(1, 31), begins(2, 6, 0), fewest()), [-3])
        self.assertEqual(last(want(1), wants(2, 1), fewest()), [-3])

    def test_none_with_6_faces(self):
        self.assertEqual(last(wants(1, 31), fewest()), [-6])
        self.assertEqual(last(begins(2, 1, 0), *alike_rows(2, 7), fewest()), [-6])
        self.assertEqual(last(begins(3, 6, 0), *alike_rows(3, 7), fewest()), [-6])

    def test_none_with_6_faces_of_one_cube(self):
        self.assertEqual(last(begins(1, 6, 0), wants(3, 9), fewest()), [-6])
        self.assertEqual(last(begins(1, 6, 1), wants(3, 9), fewest()), [6, 3, 4, 5, 6, 7, 8])
        self.assertEqual(last(begins(1, 6, 1), wants(0, 9), fewest()), [-6])

    def test_too_many(self):
        # 9 and 10 digits on 4 cubes are too many with 2 faces, 7 and 8 with 3; on 3 cubes 9 and 10 with 3, 8 with 4.
        for cubes, digits in ((4, 10), (4, 9), (4, 8), (4, 7), (3, 10), (3, 9), (3, 8)):
            self.assertEqual(last(begins(cubes, 6, 0), *alike_rows(cubes, digits), fewest()), [-7], (cubes, digits))

    def test_too_many_ahead_of_a_good_marking_with_more_faces(self):
        line = [begins(3, 6, 0), wants(0, 9)]
        told = ask(*line, mark(0, 0, 1, 2, 3), mark(1, 0, 4, 5, 6), mark(2, 0, 7, 8, 9), fewest())
        self.assertEqual(told[-2:], [[10], [-7]])

    def test_too_many_ahead_of_a_number_of_faces_with_which_they_are_not(self):
        # All four cubes have the 0 and lack a pair of 1 to 7 each, but no digit may be lacking on all:
        # of 10626 bags of 4 pairs these are all but 7 * 126 - 21.
        line = [begins(4, 6, 0), wants(0, 7)]
        good = [0, 1, 2, 3, 4, 5] * 3 + [0, 1, 2, 3, 6, 7]
        self.assertEqual(ask(*line, ways(), fewest())[-2:], [[9765, *good], [-7]])

    def test_all_is_as_it_was(self):
        line = [begins(3, 2, 0), wants(0, 9), mark(0, 0, 1), mark(1, 2, 0)]
        behind = [mark(2, 0), missing(), want(0, 0, 9), mark(2, 0, 1, 2), show(0, 1, 2)]
        self.assertEqual(ask(*line, fewest(), *behind)[4:], [[-7], [3], [7, 0, 0, 3], [-4], [-1], [1, 2, 0, 1]])
        self.assertEqual(ask(wants(1, 31), fewest(), want(0, 1), want(3, 2)), [[31], [-6], [-4], [32]])
        self.assertEqual(ask(fewest(), want(1, 1), fewest()), [[-3], [1], [1, 1, 1]])


if __name__ == "__main__":
    unittest.main()
