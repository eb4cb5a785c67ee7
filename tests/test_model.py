"""Long lines of mixed calls, held against a second desk that is written straight from the words."""

import itertools
import unittest

from tests.helper import (
    HIGHEST, ask, begins, fewest, idle, last, mark, missing, need, show, want, wants, ways,
)


def shown(row, sides):
    return any(all(digit in side for digit, side in zip(row, placed)) for placed in itertools.permutations(sides))


class Model:
    def __init__(self):
        self.start(2, 6, 0)

    def start(self, cubes, faces, turned):
        self.sides = {cube: "" for cube in range(cubes)}
        self.faces = faces
        self.signs = str.maketrans("9", "6") if turned else {}
        self.rows = {}

    def read(self, numbers):
        return "".join(str(number) for number in numbers).translate(self.signs)

    def placed(self, row):
        placed = itertools.permutations(self.sides)
        return [way for way in placed if all(row[k] in self.sides[way[k]] for k in range(len(row)))]

    def is_no_row(self, numbers):
        return len(numbers) != len(self.sides) or any(number > 9 for number in numbers)

    def begins(self, cubes, faces, turned):
        if not (1 <= cubes <= 4 and 1 <= faces <= 6 and 0 <= turned <= 1):
            return [-1]
        self.start(cubes, faces, turned)
        return [0]

    def want(self, *row):
        if self.is_no_row(row):
            return [-1]
        if self.read(row) in self.rows:
            return [-4]
        if len(self.rows) == 40:
            return [-5]
        self.rows[self.read(row)] = True
        return [len(self.rows)]

    def wants(self, a, b):
        if a > b or b >= 10 ** len(self.sides) or b - a > 39:
            return [-1]
        texts = [f"{number:0{len(self.sides)}d}" for number in range(a, b + 1)]
        self.rows = dict.fromkeys(self.read(text) for text in texts)
        return [len(self.rows)]

    def mark(self, cube, *digits):
        if cube not in self.sides:
            return [-2]
        if len(digits) > self.faces or any(digit > 9 for digit in digits):
            return [-1]
        if len(set(self.read(digits))) != len(digits):
            return [-1]
        self.sides[cube] = self.read(digits)
        return [self.how_many(self.sides)]

    def how_many(self, sides):
        return sum(1 for row in self.rows if shown(row, sides.values()))

    def show(self, *row):
        if self.is_no_row(row):
            return [-1]
        found = self.placed(self.read(row))
        return [len(found), *min(found)] if found else [0]

    def missing(self):
        rows = [row for row in self.rows if not self.placed(row)]
        return [len(rows), *map(int, "".join(rows[:1]))]

    def idle(self):
        found = []
        for cube, digit in itertools.product(sorted(self.sides), "0123456789"):
            rest = self.sides[cube].replace(digit, "")
            if rest != self.sides[cube] and self.how_many({**self.sides, cube: rest}) >= self.how_many(self.sides):
                found.append((cube, int(digit)))
        return [len(found), *itertools.chain(*found)]

    def need(self):
        most = [max([row.count(str(digit)) for row in self.rows] + [0]) for digit in range(10)]
        return [sum(most), *most]

    def markings(self, faces):
        digits = set("".join(self.rows))
        choices = ["".join(choice) for choice in itertools.combinations(sorted(digits), min(faces, len(digits)))]
        return list(itertools.islice(itertools.combinations_with_replacement(choices, len(self.sides)), 32001))

    def good(self, faces):
        return [marking for marking in self.markings(faces) if all(shown(row, marking) for row in self.rows)]

    def ways(self):
        if not self.rows:
            return [-3]
        if len(self.markings(self.faces)) > 32000:
            return [-7]
        good = self.good(self.faces)
        return [len(good), *map(int, "".join(min(good)))] if good else [0]

    def fewest(self):
        if not self.rows:
            return [-3]
        for faces in range(1, 7):
            if len(self.markings(faces)) > 32000:
                return [-7]
            good = self.good(faces)
            if good:
                return [faces, *map(int, "".join(min(good)))]
        return [-6]


class Numbers:
    """Numbers that look mixed, and are the same every time."""

    def __init__(self, start):
        self.state = start

    def below(self, bound):
        self.state = (self.state * 6364136223846793005 + 1442695040888963407) % 2 ** 64
        return (self.state >> 33) % bound

    def mostly(self, bound, others):
        return others[self.below(len(others))] if self.below(25) == 0 else self.below(bound)


def mixed_call(numbers, cubes):
    kind = numbers.below(26)
    if kind == 0:
        return "begins", [numbers.mostly(5, [HIGHEST]), numbers.mostly(8, [HIGHEST]), numbers.mostly(2, [2, HIGHEST])]
    if kind < 3:
        a = numbers.mostly(10 ** cubes, [0, HIGHEST])
        return "wants", [a, numbers.mostly(a + 1, [HIGHEST]) if kind == 1 else a + numbers.below(42)]
    if kind >= 20:
        return ("missing", "idle", "need")[kind % 3], []
    digits = [9, 6, 10, 1, HIGHEST]
    if kind < 11:
        count = numbers.mostly(6, [0, 6, 7, 12])
        return "mark", [numbers.mostly(cubes, [cubes, HIGHEST]), *[numbers.mostly(10, digits) for _ in range(count)]]
    row = [numbers.mostly(10, digits) for _ in range(numbers.mostly(1, [0, 1, 8]) + cubes if kind == 12 else cubes)]
    return ("want" if kind < 15 else "show"), row[:8]


def few_digits(numbers, cubes):
    """Wants some rows of a few digits, so that there aren't too many markings most of the time."""
    digits = [numbers.below(10) for _ in range(2 + numbers.below(9))]
    return [("want", [digits[numbers.below(len(digits))] for _ in range(cubes)]) for _ in range(1 + numbers.below(9))]


class AgainstTheModel(unittest.TestCase):
    written = {
        "begins": begins, "want": want, "wants": wants, "mark": mark, "show": show,
        "missing": missing, "idle": idle, "need": need, "ways": ways, "fewest": fewest,
    }

    def hold(self, line):
        model = Model()
        expected = [getattr(model, name)(*given) for name, given in line]
        told = ask(*[self.written[name](*given) for name, given in line])
        self.assertEqual(told, expected, line)
        return told

    def test_mixed_lines(self):
        numbers = Numbers(20)
        for _ in range(1500):
            cubes = 1 + numbers.below(4)
            line = [("begins", [cubes, 1 + numbers.below(6), numbers.below(2)])]
            line += [mixed_call(numbers, cubes) for _ in range(numbers.below(60))]
            self.hold(line)

    def test_mixed_lines_of_all_calls(self):
        numbers = Numbers(21)
        seen = {}
        for _ in range(400):
            cubes = 1 + numbers.below(4)
            line = [("begins", [cubes, 1 + numbers.below(6), numbers.below(2)]), *few_digits(numbers, cubes)]
            line += [mixed_call(numbers, cubes) for _ in range(numbers.below(40))]
            for name in ("ways", "fewest"):
                line.insert(numbers.below(len(line)) + 1, (name, []))
            for (name, given), told in zip(line, self.hold(line)):
                seen[name, min(told[0], 1)] = True
        for kind in (-7, -3, 0, 1):
            self.assertIn(("ways", kind), seen)
        for kind in (-7, -6, -3, 1):
            self.assertIn(("fewest", kind), seen)

    def test_every_row_of_three_cubes(self):
        for turned in (0, 1):
            sides = [(0, 1, 2, 6), (1, 2, 3, 9), (0, 2, 4, 9)]
            start = [("begins", (3, 4, turned))] + [("mark", (cube, *sides[cube])) for cube in range(3)]
            model = Model()
            for name, given in start:
                getattr(model, name)(*given)
            for row in itertools.product(range(10), repeat=3):
                calls = [self.written[name](*given) for name, given in start]
                self.assertEqual(last(*calls, show(*row)), model.show(*row), row)


if __name__ == "__main__":
    unittest.main()
