"""A desk of cubes that show rows of digits, and the calls on it."""

NOT_AS_TOLD = -1
NO_SUCH_CUBE = -2
NOTHING_WANTED = -3
WANTED_ALREADY = -4
ENOUGH_WANTED = -5
NO_GOOD_MARKING = -6
TOO_MANY = -7

MOST_CUBES = 4
MOST_FACES = 6
MOST_WANTED = 40
MOST_MARKINGS = 32000

BEGINS = 0
WANT = 1
WANTS = 2
MARK = 3
SHOW = 4
MISSING = 5
IDLE = 6
NEED = 7
WAYS = 8

# Both by the number of the call, so that a line can be cut into calls before any of them is understood.
WHOLE_NUMBERS = (3, 0, 2, 1, 0, 0, 0, 0, 0, 0)
HAS_ROW = (False, True, False, True, True, False, False, False, False, False)


def all_digits(numbers):
    return all([number <= 9 for number in numbers])


def read_digit(digit, turned):
    return 6 if turned == 1 and digit == 9 else digit


def digits_of(number, places):
    return [int(sign) for sign in str(number).zfill(places)]


def longer_ways(ways, digit, cubes):
    longer = []
    for way in ways:
        for cube in range(len(cubes)):
            if cube not in way and digit in cubes[cube]:
                longer.append(way + [cube])
    return longer


# The lower cubes are tried first at each place, so the ways come out in the order in which they are told.
def ways_to_show(row, cubes):
    ways = [[]]
    for digit in row:
        ways = longer_ways(ways, digit, cubes)
    return ways


def is_shown(row, cubes):
    return len(ways_to_show(row, cubes)) > 0


def shown_rows(rows, cubes):
    return [row for row in rows if is_shown(row, cubes)]


def without(cubes, cube, digit):
    fewer = list(cubes)
    fewer[cube] = [other for other in cubes[cube] if other != digit]
    return fewer


def most_in_a_row(digit, rows):
    return max([row.count(digit) for row in rows], default=0)


def digits_in(rows):
    return [digit for digit in range(10) if most_in_a_row(digit, rows) > 0]


def longer_choices(choices, digits):
    longer = []
    for choice in choices:
        for digit in digits:
            if len(choice) == 0 or digit > choice[-1]:
                longer.append(choice + [digit])
    return longer


# What a cube's digits may be in a marking, in the order in which cubes stand in it.
def choices_for(rows, faces):
    digits = digits_in(rows)
    choices = [[]]
    for face in range(min(faces, len(digits))):
        choices = longer_choices(choices, digits)
    return choices


# Several cubes may have the same choice and their order is settled, so this counts bags of choices, not rows of them.
def count_markings(choices, cubes):
    count = 1
    for cube in range(cubes):
        count = count * (len(choices) + cube) // (cube + 1)
    return count


# Rows are kept as the bits of one number, so that a marking is held against all of them in one step.
def rows_with(choice, place, rows):
    found = 0
    for number in range(len(rows)):
        if rows[number][place] in choice:
            found = found | (1 << number)
    return found


def rows_by_place(choice, rows):
    return [rows_with(choice, place, rows) for place in range(len(rows[0]))]


# filled tells for sets of places (the bits of its keys) in which rows the cubes so far can stand at just these places.
def with_one_cube_more(filled, by_place):
    more = {}
    for places in filled:
        for place in range(len(by_place)):
            bit = 1 << place
            if (places & bit) == 0:
                grown = places | bit
                more[grown] = more.get(grown, 0) | (filled[places] & by_place[place])
    return more


# With a begun marking goes the number of its last choice, since no lower one may stand behind it.
def longer_markings(begun, choices, by_places):
    longer = []
    for marking, lowest, filled in begun:
        for number in range(lowest, len(choices)):
            more = with_one_cube_more(filled, by_places[number])
            longer.append((marking + choices[number], number, more))
    return longer


# The lower choices are tried first for each cube, so the markings come out in the order in which they are told.
def good_markings(rows, choices, cubes):
    by_places = [rows_by_place(choice, rows) for choice in choices]
    all_rows = (1 << len(rows)) - 1
    all_places = (1 << cubes) - 1
    begun = [([], 0, {0: all_rows})]
    for cube in range(cubes):
        begun = longer_markings(begun, choices, by_places)
    return [marking for marking, last, filled in begun if filled[all_places] == all_rows]


class Desk:
    def __init__(self):
        self.cubes = [[], []]
        self.faces = 6
        self.turned = 0
        self.wanted = []

    def is_row(self, numbers):
        return len(numbers) == len(self.cubes) and all_digits(numbers)

    def as_read(self, digits):
        return [read_digit(digit, self.turned) for digit in digits]

    def rows_between(self, first, last):
        rows = []
        for number in range(first, last + 1):
            row = self.as_read(digits_of(number, len(self.cubes)))
            if row not in rows:
                rows.append(row)
        return rows

    def begins(self, cubes, faces, turned):
        if cubes < 1 or cubes > MOST_CUBES or faces < 1 or faces > MOST_FACES or turned not in (0, 1):
            return [NOT_AS_TOLD]
        self.cubes = [[] for cube in range(cubes)]
        self.faces = faces
        self.turned = turned
        self.wanted = []
        return [0]

    def want(self, numbers):
        if not self.is_row(numbers):
            return [NOT_AS_TOLD]
        row = self.as_read(numbers)
        if row in self.wanted:
            return [WANTED_ALREADY]
        if len(self.wanted) >= MOST_WANTED:
            return [ENOUGH_WANTED]
        self.wanted.append(row)
        return [len(self.wanted)]

    def wants(self, first, last):
        if first > last or len(str(last)) > len(self.cubes) or last - first + 1 > MOST_WANTED:
            return [NOT_AS_TOLD]
        self.wanted = self.rows_between(first, last)
        return [len(self.wanted)]

    def mark(self, cube, numbers):
        if cube >= len(self.cubes):
            return [NO_SUCH_CUBE]
        digits = self.as_read(numbers)
        if len(digits) > self.faces or not all_digits(digits) or len(set(digits)) < len(digits):
            return [NOT_AS_TOLD]
        self.cubes[cube] = digits
        return [len(shown_rows(self.wanted, self.cubes))]

    def show(self, numbers):
        if not self.is_row(numbers):
            return [NOT_AS_TOLD]
        ways = ways_to_show(self.as_read(numbers), self.cubes)
        if len(ways) == 0:
            return [0]
        return [len(ways)] + ways[0]

    def missing(self):
        rows = [row for row in self.wanted if not is_shown(row, self.cubes)]
        if len(rows) == 0:
            return [0]
        return [len(rows)] + rows[0]

    def idle(self):
        # A digit less never shows a row more, so the rows that are shown now are enough to look at.
        shown = shown_rows(self.wanted, self.cubes)
        count = 0
        pairs = []
        for cube in range(len(self.cubes)):
            for digit in sorted(self.cubes[cube]):
                if shown_rows(shown, without(self.cubes, cube, digit)) == shown:
                    count = count + 1
                    pairs.extend([cube, digit])
        return [count] + pairs

    def need(self):
        most = [most_in_a_row(digit, self.wanted) for digit in range(10)]
        return [sum(most)] + most

    def ways(self):
        if len(self.wanted) == 0:
            return [NOTHING_WANTED]
        choices = choices_for(self.wanted, self.faces)
        if count_markings(choices, len(self.cubes)) > MOST_MARKINGS:
            return [TOO_MANY]
        good = good_markings(self.wanted, choices, len(self.cubes))
        if len(good) == 0:
            return [0]
        return [len(good)] + good[0]

    def fewest(self):
        if len(self.wanted) == 0:
            return [NOTHING_WANTED]
        for faces in range(1, MOST_FACES + 1):
            choices = choices_for(self.wanted, faces)
            if count_markings(choices, len(self.cubes)) > MOST_MARKINGS:
                return [TOO_MANY]
            good = good_markings(self.wanted, choices, len(self.cubes))
            if len(good) > 0:
                return [faces] + good[0]
        return [NO_GOOD_MARKING]


def answer(desk, call, numbers, row):
    if call == BEGINS:
        return desk.begins(numbers[0], numbers[1], numbers[2])
    if call == WANT:
        return desk.want(row)
    if call == WANTS:
        return desk.wants(numbers[0], numbers[1])
    if call == MARK:
        return desk.mark(numbers[0], row)
    if call == SHOW:
        return desk.show(row)
    if call == MISSING:
        return desk.missing()
    if call == IDLE:
        return desk.idle()
    if call == NEED:
        return desk.need()
    if call == WAYS:
        return desk.ways()
    return desk.fewest()


def answers(calls):
    desk = Desk()
    told = []
    place = 0
    while place < len(calls):
        call = calls[place]
        behind = place + 1 + WHOLE_NUMBERS[call]
        numbers = calls[place + 1:behind]
        row = []
        if HAS_ROW[call]:
            start = behind + 1
            behind = start + calls[behind]
            row = calls[start:behind]
        given = answer(desk, call, numbers, row)
        told.append(len(given))
        told.extend(given)
        place = behind
    return told
