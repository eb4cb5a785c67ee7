"""A desk of cubes that show rows of digits, and the calls on it."""

NOT_AS_TOLD = -1
NO_SUCH_CUBE = -2
WANTED_ALREADY = -4
ENOUGH_WANTED = -5

MOST_CUBES = 4
MOST_FACES = 6
MOST_WANTED = 40

BEGINS = 0
WANT = 1
WANTS = 2
MARK = 3

# Both by the number of the call, so that a line can be cut into calls before any of them is understood.
WHOLE_NUMBERS = (3, 0, 2, 1, 0)
HAS_ROW = (False, True, False, True, True)


def all_digits(numbers):
    return all([number <= 9 for number in numbers])


def read_digit(digit, turned):
    return 6 if turned == 1 and digit == 9 else digit


def digits_of(number, places):
    return [int(sign) for sign in str(number).zfill(places)]


def longer_ways(ways, digit, cubes):
    longer = []
    for way in ways:
        for cube in range(len(cubes)):
            if cube not in way and digit in cubes[cube]:
                longer.append(way + [cube])
    return longer


# The lower cubes are tried first at each place, so the ways come out in the order in which they are told.
def ways_to_show(row, cubes):
    ways = [[]]
    for digit in row:
        ways = longer_ways(ways, digit, cubes)
    return ways


class Desk:
    def __init__(self):
        self.cubes = [[], []]
        self.faces = 6
        self.turned = 0
        self.wanted = []

    def is_row(self, numbers):
        return len(numbers) == len(self.cubes) and all_digits(numbers)

    def as_read(self, digits):
        return [read_digit(digit, self.turned) for digit in digits]

    def rows_between(self, first, last):
        rows = []
        for number in range(first, last + 1):
            row = self.as_read(digits_of(number, len(self.cubes)))
            if row not in rows:
                rows.append(row)
        return rows

    def is_shown(self, row):
        return len(ways_to_show(row, self.cubes)) > 0

    def shown_rows(self):
        return [row for row in self.wanted if self.is_shown(row)]

    def begins(self, cubes, faces, turned):
        if cubes < 1 or cubes > MOST_CUBES or faces < 1 or faces > MOST_FACES or turned not in (0, 1):
            return [NOT_AS_TOLD]
        self.cubes = [[] for cube in range(cubes)]
        self.faces = faces
        self.turned = turned
        self.wanted = []
        return [0]

    def want(self, numbers):
        if not self.is_row(numbers):
            return [NOT_AS_TOLD]
        row = self.as_read(numbers)
        if row in self.wanted:
            return [WANTED_ALREADY]
        if len(self.wanted) >= MOST_WANTED:
            return [ENOUGH_WANTED]
        self.wanted.append(row)
        return [len(self.wanted)]

    def wants(self, first, last):
        if first > last or len(str(last)) > len(self.cubes) or last - first + 1 > MOST_WANTED:
            return [NOT_AS_TOLD]
        self.wanted = self.rows_between(first, last)
        return [len(self.wanted)]

    def mark(self, cube, numbers):
        if cube >= len(self.cubes):
            return [NO_SUCH_CUBE]
        digits = self.as_read(numbers)
        if len(digits) > self.faces or not all_digits(digits) or len(set(digits)) < len(digits):
            return [NOT_AS_TOLD]
        self.cubes[cube] = digits
        return [len(self.shown_rows())]

    def show(self, numbers):
        if not self.is_row(numbers):
            return [NOT_AS_TOLD]
        ways = ways_to_show(self.as_read(numbers), self.cubes)
        if len(ways) == 0:
            return [0]
        return [len(ways)] + ways[0]


def answer(desk, call, numbers, row):
    if call == BEGINS:
        return desk.begins(numbers[0], numbers[1], numbers[2])
    if call == WANT:
        return desk.want(row)
    if call == WANTS:
        return desk.wants(numbers[0], numbers[1])
    if call == MARK:
        return desk.mark(numbers[0], row)
    return desk.show(row)


def answers(calls):
    desk = Desk()
    told = []
    place = 0
    while place < len(calls):
        call = calls[place]
        behind = place + 1 + WHOLE_NUMBERS[call]
        numbers = calls[place + 1:behind]
        row = []
        if HAS_ROW[call]:
            start = behind + 1
            behind = start + calls[behind]
            row = calls[start:behind]
        given = answer(desk, call, numbers, row)
        told.append(len(given))
        told.extend(given)
        place = behind
    return told
