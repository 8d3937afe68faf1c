"""The document's promises, point by point, at ways drawn at random."""

import unittest
from random import Random

from peglines.ways import differ, left, round_of, same, slack, string, touch, without, word
from tests.helping import (
    CHANGES, drawn_free_way, drawn_marks, drawn_same, flat, slow_pulled, turned, with_place_on_step, with_to_and_fro,
    without_slack_place,
)


def letters(marks, way):
    return string(flat(marks), flat(way))[1:]


def letters_left(marks, a, b):
    return left(flat(marks), flat(a), flat(b))[1:]


def rounds(k, marks, way):
    return round_of(k, flat(marks), flat(way))[1]


def pulled_tight(marks, way):
    numbers = without(flat(marks), flat(way))[1:]
    return list(zip(numbers[::2], numbers[1::2]))


def are_one(marks, a, b):
    return same(flat(marks), flat(a), flat(b)) == [1]


def drawn(seed, how_many, reach=40, most_marks=9, most_places=18):
    """Marks and ways that touch none of them, each with the source that they were drawn from."""
    source = Random(seed)
    for case_number in range(how_many):
        marks = drawn_marks(source, reach, most_marks)
        yield source, marks, drawn_free_way(source, marks, reach, most_places)


class PointOne(unittest.TestCase):
    """The string is one, whichever letters are taken out first."""

    def test_letters_taken_out_as_drawn(self):
        shortened = 0
        for source, marks, way in drawn(101, 300):
            whole = word(flat(marks), flat(way))[1:]
            for try_number in range(3):
                self.assertEqual(slow_pulled(whole, source), letters(marks, way))
            shortened += len(letters(marks, way)) < len(whole)
        self.assertGreater(shortened, 100)

    def test_no_two_that_undo_one_another_are_left(self):
        for source, marks, way in drawn(102, 300):
            pulled = letters(marks, way)
            self.assertTrue(all(one != -two for one, two in zip(pulled, pulled[1:])))


class PointTwo(unittest.TestCase):
    """What changes no string."""

    def check_change(self, seed, change):
        changed = 0
        for source, marks, way in drawn(seed, 200):
            other = change(source, marks, way)
            changed += other != way
            self.assertEqual(letters(marks, way), letters(marks, other), (marks, way, other))
            self.assertTrue(are_one(marks, way, other))
        self.assertGreater(changed, 100)

    def test_a_place_put_in_on_a_step(self):
        self.check_change(201, with_place_on_step)

    def test_a_way_to_and_fro_put_in(self):
        self.check_change(202, with_to_and_fro)

    def test_a_slack_place_left_out(self):
        self.check_change(203, without_slack_place)

    def test_the_place_left_out_that_slack_tells(self):
        left_out = 0
        for source, marks, way in drawn(205, 200):
            i = slack(flat(marks), flat(way))[0]
            if i != -3:
                left_out += 1
                other = way[:i] + way[i + 1 :]
                self.assertEqual(letters(marks, way), letters(marks, other))
                self.assertTrue(are_one(marks, way, other))
                self.assertEqual([], letters_left(marks, way, other))
        self.assertGreater(left_out, 100)

    def test_pulled_tight(self):
        shortened = 0
        for source, marks, way in drawn(207, 300):
            tight = pulled_tight(marks, way)
            shortened += len(tight) < len(way)
            self.assertEqual(letters(marks, way), letters(marks, tight))
            self.assertTrue(are_one(marks, way, tight))
            self.assertTrue(are_one(marks, tight, way))
            self.assertEqual([-3], differ(flat(marks), flat(way), flat(tight)))
            self.assertEqual([], letters_left(marks, way, tight))
            self.assertEqual([-3], slack(flat(marks), flat(tight)))
            self.assertEqual([-3], touch(flat(marks), flat(tight)))
            self.assertEqual(tight, pulled_tight(marks, tight))
            for k in range(len(marks)):
                self.assertEqual(rounds(k, marks, way), rounds(k, marks, tight))
        self.assertGreater(shortened, 200)

    def test_pulled_tight_after_changes(self):
        for source, marks, way in drawn(208, 200):
            other = drawn_same(source, marks, way)
            self.assertEqual(letters(marks, way), letters(marks, pulled_tight(marks, other)))

    def test_round_is_not_changed_either(self):
        for source, marks, way in drawn(206, 200):
            other = drawn_same(source, marks, way)
            for k in range(len(marks)):
                self.assertEqual(rounds(k, marks, way), rounds(k, marks, other))

    def test_many_changes(self):
        self.check_change(204, drawn_same)
        self.assertEqual(3, len(CHANGES))


class PointThree(unittest.TestCase):
    """A way turned round, and ways one behind another."""

    def test_turned_round(self):
        for source, marks, way in drawn(301, 300):
            self.assertEqual(turned(letters(marks, way)), letters(marks, way[::-1]))
            self.assertEqual(turned(letters(marks, way)), letters_left(marks, way, way[:1]))

    def test_what_is_left_turned_round(self):
        for source, marks, way in drawn(303, 300):
            other = drawn_free_way(source, marks, 40, 12, begin=way[0])
            self.assertEqual(turned(letters_left(marks, way, other)), letters_left(marks, other, way))
            self.assertEqual(letters(marks, way[::-1] + other), letters_left(marks, way, other))

    def test_one_behind_another(self):
        shortened = 0
        for source, marks, way in drawn(302, 600):
            behind = drawn_free_way(source, marks, 40, 8, begin=way[-1])
            if source.random() < 0.5:
                part_back = way[source.randrange(len(way)) :][::-1]
                behind = drawn_same(source, marks, part_back) + drawn_free_way(source, marks, 40, 4, part_back[-1])[1:]
            together = letters(marks, way) + letters(marks, behind)
            self.assertEqual(slow_pulled(together, source), letters(marks, way + behind))
            self.assertEqual(slow_pulled(together, source), letters(marks, way + behind[1:]))
            shortened += len(letters(marks, way + behind)) < len(together)
        self.assertGreater(shortened, 100)


class PointFour(unittest.TestCase):
    """Same, of a way and itself, either way round, from one to a third; and what is left to do."""

    def test_same_of_a_way_and_itself(self):
        for source, marks, way in drawn(401, 200):
            self.assertTrue(are_one(marks, way, way))
            self.assertTrue(are_one(marks, way, list(way)))

    def test_same_either_way_round(self):
        told = {False: 0, True: 0}
        for source, marks, way in drawn(402, 600, most_marks=3, most_places=4):
            other = drawn_free_way(source, marks, 40, 2, begin=way[0], end=way[-1])
            told[are_one(marks, way, other)] += 1
            self.assertEqual(are_one(marks, way, other), are_one(marks, other, way))
            self.assertEqual(are_one(marks, way, other), are_one(marks, way[::-1], other[::-1]))
        self.assertGreater(min(told.values()), 50)

    def test_same_from_one_to_a_third(self):
        joined = 0
        for source, marks, way in drawn(403, 300, most_marks=3, most_places=4):
            second = drawn_free_way(source, marks, 40, 2, begin=way[0], end=way[-1])
            third = drawn_same(source, marks, second)
            fourth = drawn_free_way(source, marks, 40, 2, begin=way[0], end=way[-1])
            self.assertEqual(are_one(marks, way, second), are_one(marks, way, third))
            if are_one(marks, way, second) and are_one(marks, second, fourth):
                joined += 1
                self.assertTrue(are_one(marks, way, fourth))
        self.assertGreater(joined, 20)

    def test_nothing_is_left_of_a_way_for_itself(self):
        for source, marks, way in drawn(404, 200):
            self.assertEqual([], letters_left(marks, way, way))
            self.assertEqual([], letters_left(marks, way, drawn_same(source, marks, way)))

    def test_with_what_is_left_done_it_is_the_other(self):
        for source, marks, way in drawn(405, 300):
            other = drawn_free_way(source, marks, 40, 12, begin=way[0])
            what_is_left = letters_left(marks, way, other)
            self.assertEqual(letters(marks, other), slow_pulled(letters(marks, way) + what_is_left, source))
            self.assertTrue(are_one(marks, way + way[::-1] + other, other))

    def test_nothing_is_left_just_where_ways_are_one_string(self):
        told = {False: 0, True: 0}
        for source, marks, way in drawn(406, 600, most_marks=3, most_places=4):
            other = drawn_free_way(source, marks, 40, 2, begin=way[0], end=way[-1])
            told[are_one(marks, way, other)] += 1
            self.assertEqual(are_one(marks, way, other), letters_left(marks, way, other) == [])
        self.assertGreater(min(told.values()), 50)


class PointFive(unittest.TestCase):
    """Round counts what the string has, too."""

    def test_counted_in_the_string(self):
        shortened = 0
        for source, marks, way in drawn(501, 300):
            pulled = letters(marks, way)
            shortened += len(pulled) < word(flat(marks), flat(way))[0]
            for k in range(len(marks)):
                self.assertEqual(pulled.count(k + 1) - pulled.count(-k - 1), rounds(k, marks, way))
        self.assertGreater(shortened, 100)

    def test_turned_round_and_one_behind_another(self):
        for source, marks, way in drawn(502, 200):
            behind = drawn_free_way(source, marks, 40, 8, begin=way[-1])
            for k in range(len(marks)):
                self.assertEqual(-rounds(k, marks, way), rounds(k, marks, way[::-1]))
                self.assertEqual(rounds(k, marks, way) + rounds(k, marks, behind), rounds(k, marks, way + behind))


if __name__ == "__main__":
    unittest.main()
