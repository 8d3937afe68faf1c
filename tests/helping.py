"""What several test files need: lists that refuse changes, inputs with faults, slow second answers, drawn ways."""

from fractions import Fraction
from itertools import zip_longest
from math import gcd
from random import Random

LEAST = -1048576
GREATEST = 1048576


def flat(places):
    return [number for place in places for number in place]


def refuse(self, *args, **kwargs):
    raise AssertionError("a list that was handed in is changed")


class Sealed(list):
    """A list that tells of a change at once, so that one that is undone later is seen too."""

    append = extend = insert = remove = pop = clear = sort = reverse = refuse
    __setitem__ = __delitem__ = __iadd__ = __imul__ = refuse


def handed(argument):
    """An argument as a call takes it: a number as it is, places as a flat list."""
    return argument if isinstance(argument, int) else flat(argument)


def sealed(argument):
    return argument if isinstance(argument, int) else Sealed(flat(argument))


def check_call(case, call, expected, *arguments):
    """The call answers as expected, again and again, in ints alone, and leaves its lists alone."""
    given = [handed(argument) for argument in arguments]
    first = call(*given)
    case.assertEqual(expected, first)
    case.assertIs(list, type(first))
    case.assertEqual({int}, {type(number) for number in first})
    case.assertEqual([handed(argument) for argument in arguments], given)
    first.append(7)
    case.assertEqual(expected, call(*given))
    case.assertEqual(expected, call(*[sealed(argument) for argument in arguments]))
    if len(arguments) == 3 and arguments[1] == arguments[2]:
        check_one_list_as_both(case, call, expected, arguments[0], arguments[1])


def check_one_list_as_both(case, call, expected, marks, way):
    twice = flat(way)
    case.assertEqual(expected, call(handed(marks), twice, twice))
    case.assertEqual(flat(way), twice)
    twice = sealed(way)
    case.assertEqual(expected, call(sealed(marks), twice, twice))


# Each fault that can be in what is handed in, and its refusal, in the order in which they are looked at.
REFUSALS = [("count", -2), ("place", -8), ("touch", -9), ("begin", -8), ("end", -8), ("unknown", -4)]


def refusal(looked_at, *faults):
    """The refusal, as a list, by a call that looks at those kinds of fault, of arguments with these; or None."""
    present = " ".join(faults).split()
    for fault, number in REFUSALS:
        if fault in looked_at.split() and fault in present:
            return [number]
    return None


FAR = (GREATEST + 1, 0)
PEG = (5, 5)

# Marks and their faults. Those of the right count have PEG among them, so that a way through it touches.
MARKS_WITH_FAULTS = [
    ([PEG, (20, 5)], ""),
    ([], "count"),
    ([PEG] + [(k, 40) for k in range(32)], "count"),
    ([(k, 40) for k in range(49)] + [PEG], "count"),
    ([PEG] * 33, "count place"),
    ([FAR] * 33, "count place"),
    ([PEG, FAR], "place"),
    ([PEG, (0, LEAST - 1)], "place"),
    ([PEG, (20, 5), PEG], "place"),
]

# Ways from (0, 0) to (10, 0) and their faults, whatever else the call asks of them.
WAYS_WITH_FAULTS = [
    ([(0, 0), (10, 0)], ""),
    ([(0, 0), (0, 10), (10, 10), (10, 0)], ""),
    ([], "count"),
    ([(0, 0)] * 1024 + [(10, 0)], "count"),
    ([(0, 0)] * 1099 + [(10, 0)], "count"),
    ([(0, 0)] + [FAR] * 1024 + [(10, 0)], "count place"),
    ([(0, 0)] + [PEG] * 1024 + [(10, 0)], "count touch"),
    ([(0, 0), FAR, (10, 0)], "place"),
    ([(0, 0), (3, LEAST - 1), (10, 0)], "place"),
    ([(0, 0), PEG, FAR, (10, 0)], "place touch"),
    ([(0, 0), PEG, (10, 0)], "touch"),
    ([(0, 0), (0, 5), (10, 5), (10, 0)], "touch"),
]

# The same for the second of two ways, of which the ends are looked at, too.
SECOND_WAYS_WITH_FAULTS = WAYS_WITH_FAULTS + [
    ([(0, 1), (10, 0)], "begin"),
    ([(0, 0), (10, 1)], "end"),
    ([(10, 0), (0, 0)], "begin end"),
    ([(0, 0)], "end"),
    ([(10, 0)], "begin"),
    ([(0, 1)] * 1025, "count begin end"),
    ([(0, 1), FAR], "place begin end"),
    ([PEG], "touch begin end"),
    ([(0, 10), (10, 0)], "touch begin"),
    ([(0, 0), PEG], "touch end"),
]


def steps(way):
    return list(zip(way, way[1:])) if len(way) > 1 else [(way[0], way[0])]


def share_along(mark, start, end):
    """How far along the step's straight the mark lies, as a share of the step, or None if off the straight's line."""
    for axis in (0, 1):
        if start[axis] != end[axis]:
            share = Fraction(mark[axis] - start[axis], end[axis] - start[axis])
            other = 1 - axis
            reached = start[other] + share * (end[other] - start[other])
            return share if reached == mark[other] else None
    return Fraction(0) if mark == start else None


def slow_touch(marks, way):
    for number, (start, end) in enumerate(steps(way)):
        for k, mark in enumerate(marks):
            share = share_along(mark, start, end)
            if share is not None and 0 <= share <= 1:
                return [0, number, k]
    return [-3]


def slow_step_letters(marks, start, end):
    met = []
    sign = 1 if start[0] < end[0] else -1
    for k, mark in enumerate(marks):
        if (start[0] < mark[0]) != (end[0] < mark[0]):
            share = Fraction(mark[0] - start[0], end[0] - start[0])
            if start[1] + share * (end[1] - start[1]) < mark[1]:
                met.append((share, sign * k, sign * (k + 1)))
    return [letter for share, order, letter in sorted(met)]


def slow_word(marks, way):
    if slow_touch(marks, way) != [-3]:
        return [-9]
    letters = []
    for start, end in steps(way):
        letters += slow_step_letters(marks, start, end)
    return [len(letters)] + letters


def slow_pulled(letters, source):
    """The letters with pairs taken out as the source draws them, until there are none."""
    letters = list(letters)
    while True:
        pairs = [i for i in range(len(letters) - 1) if letters[i] == -letters[i + 1]]
        if not pairs:
            return letters
        i = source.choice(pairs)
        letters[i : i + 2] = []


def slow_string(marks, way, source):
    answered = slow_word(marks, way)
    if answered == [-9]:
        return answered
    letters = slow_pulled(answered[1:], source)
    return [len(letters)] + letters


def slow_differ(marks, a, b, source):
    one, other = slow_string(marks, a, source)[1:], slow_string(marks, b, source)[1:]
    for place, (letter, other_letter) in enumerate(zip_longest(one, other, fillvalue=0)):
        if letter != other_letter:
            return [place, letter, other_letter]
    return [-3]


def slow_left(marks, a, b, source):
    return slow_string(marks, a[::-1] + b, source)


def turned(letters):
    return [-letter for letter in reversed(letters)]


def in_triangle(mark, one, two, three):
    """Whether the mark is a mean of the three corners, with weights of 0 or more."""
    ax, ay = two[0] - one[0], two[1] - one[1]
    bx, by = three[0] - one[0], three[1] - one[1]
    mx, my = mark[0] - one[0], mark[1] - one[1]
    area = ax * by - ay * bx
    if area != 0:
        u, v = Fraction(mx * by - my * bx, area), Fraction(ax * my - ay * mx, area)
        return u >= 0 and v >= 0 and u + v <= 1
    return slow_touch([mark], [one, two, three, one]) != [-3]


def slow_slack_places(marks, way):
    """The numbers of all inner places that are slack."""
    return [
        i for i in range(1, len(way) - 1) if not any(in_triangle(mark, *way[i - 1 : i + 2]) for mark in marks)
    ]


def slow_slack(marks, way):
    return slow_slack_places(marks, way)[:1] or [-3]


def slow_tight(marks, way):
    """The way pulled tight, looked through from its beginning each time."""
    while slow_slack_places(marks, way):
        i = slow_slack_places(marks, way)[0]
        way = way[:i] + way[i + 1 :]
    return way


def slow_without(marks, way):
    if slow_touch(marks, way) != [-3]:
        return [-9]
    tight = slow_tight(marks, way)
    return [len(tight)] + flat(tight)


def drawn_place(source, reach):
    return (source.randint(-reach, reach), source.randint(-reach, reach))


def drawn_marks(source, reach, most_marks):
    marks = []
    wanted = source.randint(1, most_marks)
    while len(marks) < wanted:
        place = drawn_place(source, reach)
        if place not in marks:
            marks.append(place)
    return marks


def drawn_way(source, reach, most_places):
    return [drawn_place(source, reach) for i in range(source.randint(1, most_places))]


def drawn_cases(seed, how_many, reach, most_marks, most_places):
    """Pairs of marks and a way, the same ones for the same seed."""
    source = Random(seed)
    for case_number in range(how_many):
        marks = drawn_marks(source, reach, most_marks)
        yield marks, drawn_way(source, reach, most_places)


def drawn_free_way(source, marks, reach, most_places, begin=None, end=None):
    """A way that touches no mark, with these ends where they are given."""
    way = [] if begin is None else [begin]
    wanted = len(way) + source.randint(1, most_places)
    while True:
        step = way[-1:] + [drawn_place(source, reach)]
        # Of a way that is to end somewhere, the last drawn place is drawn until it has a free step there.
        ending = [end] if end is not None and len(way) + 1 == wanted else []
        if slow_touch(marks, step + ending) == [-3]:
            way = way + step[-1:] + ending
            if len(way) >= wanted:
                return way


def with_place_on_step(source, marks, way):
    """The way with a place put in on one of its steps."""
    i = source.randrange(len(way))
    start, end = way[i], way[min(i + 1, len(way) - 1)]
    parts = max(1, gcd(end[0] - start[0], end[1] - start[1]))
    part = source.randint(0, parts)
    place = tuple(start[axis] + (end[axis] - start[axis]) // parts * part for axis in (0, 1))
    return way[: i + 1] + [place] + way[i + 1 :]


def with_to_and_fro(source, marks, way):
    """The way with a way put in at one of its places that goes elsewhere and comes back as it went."""
    i = source.randrange(len(way))
    there = drawn_free_way(source, marks, 60, 3, begin=way[i])
    return way[:i] + there + there[-2::-1] + way[i + 1 :]


def without_slack_place(source, marks, way):
    """The way with one of its slack places left out, if it has one."""
    slack_places = slow_slack_places(marks, way)
    if not slack_places:
        return way
    i = source.choice(slack_places)
    return way[:i] + way[i + 1 :]


CHANGES = [with_place_on_step, with_to_and_fro, without_slack_place]


def drawn_same(source, marks, way):
    """Another way that is one string with this one."""
    for change_number in range(source.randint(1, 8)):
        way = source.choice(CHANGES)(source, marks, way)
    return way


def slow_round_of(k, marks, way):
    answered = slow_word(marks, way)
    if answered == [-9]:
        return answered
    letters = answered[1:]
    return [0, sum(1 for letter in letters if letter == k + 1) - sum(1 for letter in letters if letter == -k - 1)]


def grid(side):
    return [(x, y) for x in range(side) for y in range(side)]
