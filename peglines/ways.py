"""Ways as strings between marks.

Marks and ways come as lists of whole numbers, x then y for each place.
Each call answers one list; a refusal is its number alone.
"""

MOST_MARKS = 32
MOST_PLACES = 1024
FARTHEST = 1048576

WRONG_COUNT = -2
NONE_FOUND = -3
NO_SUCH_MARK = -4
WRONG_PLACE = -8
OTHER_ENDS = -8
TOUCHES_MARK = -9


def touch(marks, a):
    """Answer 0, the first step that touches a mark, and the least mark that it touches."""
    pegs = places_of(marks)
    way = places_of(a)
    refused = refusal_of_places(pegs, [way])
    if refused != 0:
        return [refused]
    found = first_touch(pegs, way)
    if found is None:
        return [NONE_FOUND]
    return [0, found[0], found[1]]


def word(marks, a):
    """Answer how many letters the way's word has, then the letters."""
    pegs = places_of(marks)
    way = places_of(a)
    refused = refusal_of_untouching(pegs, [way])
    if refused != 0:
        return [refused]
    letters = letters_of_way(pegs, way)
    return [len(letters)] + letters


def string(marks, a):
    """Answer how many letters the way's string has, then the letters."""
    pegs = places_of(marks)
    way = places_of(a)
    refused = refusal_of_untouching(pegs, [way])
    if refused != 0:
        return [refused]
    letters = string_of_way(pegs, way)
    return [len(letters)] + letters


def same(marks, a, b):
    """Answer 1 if the two ways are one string, else 0."""
    pegs = places_of(marks)
    one = places_of(a)
    other = places_of(b)
    refused = refusal_of_joined(pegs, one, other)
    if refused != 0:
        return [refused]
    if string_of_way(pegs, one) == string_of_way(pegs, other):
        return [1]
    return [0]


def differ(marks, a, b):
    """Answer the first place at which the strings of two ways differ, and the letters there, a's first."""
    pegs = places_of(marks)
    one = places_of(a)
    other = places_of(b)
    refused = refusal_of_joined(pegs, one, other)
    if refused != 0:
        return [refused]
    return first_difference(string_of_way(pegs, one), string_of_way(pegs, other))


def left(marks, a, b):
    """Answer how many letters are left to do of a for b, then the letters."""
    pegs = places_of(marks)
    one = places_of(a)
    other = places_of(b)
    refused = refusal_of_branching(pegs, one, other)
    if refused != 0:
        return [refused]
    letters = string_of_way(pegs, list(reversed(one)) + other)
    return [len(letters)] + letters


def round_of(k, marks, a):
    """Answer 0, and how often the way goes round mark k: eastward below it, less westward below it."""
    pegs = places_of(marks)
    way = places_of(a)
    refused = refusal_of_untouching(pegs, [way])
    if refused != 0:
        return [refused]
    if k >= len(pegs):
        return [NO_SUCH_MARK]
    letters = letters_of_way(pegs, way)
    return [0, letters.count(k + 1) - letters.count(-(k + 1))]


def slack(marks, a):
    """Answer the number of the first inner place that is slack."""
    pegs = places_of(marks)
    way = places_of(a)
    refused = refusal_of_places(pegs, [way])
    if refused != 0:
        return [refused]
    for i in range(1, len(way) - 1):
        if is_slack(pegs, way[i - 1], way[i], way[i + 1]):
            return [i]
    return [NONE_FOUND]


def without(marks, a):
    """Answer how many places the way pulled tight has, then the places, each as x, y."""
    pegs = places_of(marks)
    way = places_of(a)
    refused = refusal_of_untouching(pegs, [way])
    if refused != 0:
        return [refused]
    tight = pulled_tight(pegs, way)
    answer = [len(tight)]
    for place in tight:
        answer.extend(place)
    return answer


def places_of(numbers):
    """The places of a flat list, as pairs (x, y)."""
    return [(numbers[i], numbers[i + 1]) for i in range(0, len(numbers), 2)]


def refusal_of_joined(pegs, one, other):
    """The refusal of a call whose two ways begin and end together and touch no mark, or 0."""
    refused = refusal_of_branching(pegs, one, other)
    if refused != 0:
        return refused
    if one[-1] != other[-1]:
        return OTHER_ENDS
    return 0


def refusal_of_branching(pegs, one, other):
    """The refusal of a call whose two ways begin together and touch no mark, or 0."""
    refused = refusal_of_untouching(pegs, [one, other])
    if refused != 0:
        return refused
    if one[0] != other[0]:
        return OTHER_ENDS
    return 0


def refusal_of_untouching(pegs, ways):
    """The refusal of a call whose ways may touch no mark, or 0."""
    refused = refusal_of_places(pegs, ways)
    if refused != 0:
        return refused
    for way in ways:
        if first_touch(pegs, way) is not None:
            return TOUCHES_MARK
    return 0


def refusal_of_places(pegs, ways):
    """The refusal of marks and ways by their counts and places, or 0."""
    # Every count comes ahead of every place, so the ways are gone through once for each.
    if not is_count(len(pegs), MOST_MARKS):
        return WRONG_COUNT
    for way in ways:
        if not is_count(len(way), MOST_PLACES):
            return WRONG_COUNT
    if has_far_place(pegs) or has_place_twice(pegs):
        return WRONG_PLACE
    for way in ways:
        if has_far_place(way):
            return WRONG_PLACE
    return 0


def is_count(count, most):
    return count >= 1 and count <= most


def has_far_place(places):
    for place in places:
        if abs(place[0]) > FARTHEST or abs(place[1]) > FARTHEST:
            return True
    return False


def has_place_twice(places):
    seen = {}
    for place in places:
        if place in seen:
            return True
        seen[place] = True
    return False


def steps_of(way):
    """The steps of a way, as pairs (start, end)."""
    if len(way) == 1:
        # A way of one place has one step all the same: from that place to itself.
        return [(way[0], way[0])]
    return [(way[i], way[i + 1]) for i in range(len(way) - 1)]


def first_touch(pegs, way):
    """The first step that touches a mark and the least mark that it touches, or None."""
    for number, step in enumerate(steps_of(way)):
        for k, peg in enumerate(pegs):
            if lies_on(peg, step[0], step[1]):
                return (number, k)
    return None


def lies_on(place, start, end):
    """Whether the place lies on the straight from start to end, its ends too."""
    # The side alone would take in the straight's prolongation, and of a step to the same place every place.
    return (
        is_between(place[0], start[0], end[0])
        and is_between(place[1], start[1], end[1])
        and side_of(place, start, end) == 0
    )


def is_between(number, one, other):
    return min(one, other) <= number and number <= max(one, other)


def side_of(place, start, end):
    """Above 0 if the place lies to the left of the straight from start to end, 0 on it, below 0 to the right."""
    along = (end[0] - start[0]) * (place[1] - start[1])
    across = (end[1] - start[1]) * (place[0] - start[0])
    return along - across


def pulled_tight(pegs, way):
    """The way with its first slack place left out, again and again until it has none."""
    kept = []
    for place in way:
        # Up to its last place what is kept has no slack one, so that one is the first that can be slack; once it is
        # left out, only the one before it stands in another triangle.
        while len(kept) > 1 and is_slack(pegs, kept[-2], kept[-1], place):
            kept.pop()
        kept.append(place)
    return kept


def is_slack(pegs, before, place, behind):
    """Whether no mark lies within or on the edge of the triangle of a place and those beside it."""
    for peg in pegs:
        if lies_in(peg, before, place, behind):
            return False
    return True


def lies_in(place, one, two, three):
    """Whether the place lies within or on the edge of a triangle, which may be flat, or one place."""
    sides = [side_of(place, one, two), side_of(place, two, three), side_of(place, three, one)]
    if min(sides) > 0 or max(sides) < 0:
        return True
    # Of a flat triangle a side alone tells nothing, so its edges are asked one by one.
    return lies_on(place, one, two) or lies_on(place, two, three) or lies_on(place, three, one)


def string_of_way(pegs, way):
    """The string of a way that touches no mark."""
    return pulled(letters_of_way(pegs, way))


def pulled(letters):
    """The letters without those side by side that undo one another, until there are none."""
    kept = []
    for letter in letters:
        # What is kept never has such two, so only its last letter can go out with the one that comes.
        if len(kept) > 0 and kept[-1] == -letter:
            kept.pop()
        else:
            kept.append(letter)
    return kept


def first_difference(letters, others):
    """The first place at which two strings differ and the letters there, or the refusal if there is none."""
    for i in range(max(len(letters), len(others))):
        if letter_at(letters, i) != letter_at(others, i):
            return [i, letter_at(letters, i), letter_at(others, i)]
    return [NONE_FOUND]


def letter_at(letters, i):
    """The letter at place i, or 0, which is no letter, where the string has ended."""
    if i < len(letters):
        return letters[i]
    return 0


def letters_of_way(pegs, way):
    """The letters of a way that touches no mark."""
    eastward = sorted(range(len(pegs)), key=lambda k: (pegs[k][0], k))
    letters = []
    for step in steps_of(way):
        letters.extend(letters_of_step(pegs, eastward, step[0], step[1]))
    return letters


def letters_of_step(pegs, eastward, start, end):
    """The letters of one step; eastward has the marks' numbers as a step going east comes to their lines."""
    if start[0] <= end[0]:
        return [k + 1 for k in eastward if is_crossed(pegs[k], start, end)]
    return [-(k + 1) for k in reversed(eastward) if is_crossed(pegs[k], end, start)]


def is_crossed(peg, west, east):
    """Whether a step between its west end and its east end crosses the line that hangs from the mark."""
    # A mark to the left of the straight that goes east lies above it, so no division is needed.
    return west[0] < peg[0] and peg[0] <= east[0] and side_of(peg, west, east) > 0
