"""What several test files need: lists that refuse changes, and a slow second answer by fractions."""

from fractions import Fraction
from random import Random

LEAST = -1048576
GREATEST = 1048576


def flat(places):
    return [number for place in places for number in place]


def refuse(self, *args, **kwargs):
    raise AssertionError("a list that was handed in is changed")


class Sealed(list):
    """A list that tells of a change at once, so that one that is undone later is seen too."""

    append = extend = insert = remove = pop = clear = sort = reverse = refuse
    __setitem__ = __delitem__ = __iadd__ = __imul__ = refuse


def check_call(case, call, marks, a, expected):
    """The call answers as expected, twice, in ints alone, and leaves its lists alone."""
    marks_given, a_given = flat(marks), flat(a)
    first = call(marks_given, a_given)
    case.assertEqual(expected, first)
    case.assertIs(list, type(first))
    case.assertEqual({int}, {type(number) for number in first})
    case.assertEqual(flat(marks), marks_given)
    case.assertEqual(flat(a), a_given)
    first.append(7)
    case.assertEqual(expected, call(marks_given, a_given))
    case.assertEqual(expected, call(Sealed(marks_given), Sealed(a_given)))


def steps(way):
    return list(zip(way, way[1:])) if len(way) > 1 else [(way[0], way[0])]


def share_along(mark, start, end):
    """How far along the step's straight the mark lies, as a share of the step, or None if off the straight's line."""
    for axis in (0, 1):
        if start[axis] != end[axis]:
            share = Fraction(mark[axis] - start[axis], end[axis] - start[axis])
            other = 1 - axis
            reached = start[other] + share * (end[other] - start[other])
            return share if reached == mark[other] else None
    return Fraction(0) if mark == start else None


def slow_touch(marks, way):
    for number, (start, end) in enumerate(steps(way)):
        for k, mark in enumerate(marks):
            share = share_along(mark, start, end)
            if share is not None and 0 <= share <= 1:
                return [0, number, k]
    return [-3]


def slow_step_letters(marks, start, end):
    met = []
    sign = 1 if start[0] < end[0] else -1
    for k, mark in enumerate(marks):
        if (start[0] < mark[0]) != (end[0] < mark[0]):
            share = Fraction(mark[0] - start[0], end[0] - start[0])
            if start[1] + share * (end[1] - start[1]) < mark[1]:
                met.append((share, sign * k, sign * (k + 1)))
    return [letter for share, order, letter in sorted(met)]


def slow_word(marks, way):
    if slow_touch(marks, way) != [-3]:
        return [-9]
    letters = []
    for start, end in steps(way):
        letters += slow_step_letters(marks, start, end)
    return [len(letters)] + letters


def drawn_cases(seed, how_many, reach, most_marks, most_places):
    """Pairs of marks and a way, the same ones for the same seed."""
    source = Random(seed)
    for case_number in range(how_many):
        marks = []
        wanted = source.randint(1, most_marks)
        while len(marks) < wanted:
            place = (source.randint(-reach, reach), source.randint(-reach, reach))
            if place not in marks:
                marks.append(place)
        length = source.randint(1, most_places)
        way = [(source.randint(-reach, reach), source.randint(-reach, reach)) for i in range(length)]
        yield marks, way


def grid(side):
    return [(x, y) for x in range(side) for y in range(side)]
