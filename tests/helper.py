"""Writes calls as lists of numbers, and cuts what is given back into one list for each call."""

from datecubes.cubes import answers

HIGHEST = 4294967295


def begins(cubes, faces, turned):
    return [0, cubes, faces, turned]


def want(*row):
    return [1, len(row), *row]


def wants(a, b):
    return [2, a, b]


def mark(cube, *digits):
    return [3, cube, len(digits), *digits]


def show(*row):
    return [4, len(row), *row]


def missing():
    return [5]


def idle():
    return [6]


def need():
    return [7]


def ways():
    return [8]


def fewest():
    return [9]


def joined(calls):
    return [number for call in calls for number in call]


def cut(told):
    lists = []
    place = 0
    while place < len(told):
        behind = place + 1 + told[place]
        if behind > len(told):
            raise ValueError("the last answer is shorter than its count")
        lists.append(told[place + 1:behind])
        place = behind
    return lists


def ask(*calls):
    lists = cut(answers(joined(calls)))
    if len(lists) != len(calls):
        raise ValueError("there are not as many answers as calls")
    return lists


def last(*calls):
    return ask(*calls)[-1]


def want_digits(cubes, digits):
    """Wants rows in which just these digits stand, the last one as often as a row's end is open."""
    digits = list(digits)
    digits += [digits[-1]] * (-len(digits) % cubes)
    return [want(*digits[place:place + cubes]) for place in range(0, len(digits), cubes)]
