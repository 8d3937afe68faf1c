import unittest
from random import Random

from peglines.ways import differ, same, string, word
from tests.helping import (
    GREATEST, LEAST, MARKS_WITH_FAULTS, SECOND_WAYS_WITH_FAULTS, WAYS_WITH_FAULTS, check_call, drawn_free_way,
    drawn_marks, drawn_same, flat, refusal, slow_differ,
)

ROW = [(0, 0), (10, 0), (20, 0)]
MANY = [(10 * k, 0) for k in range(32)]
BELOW = [(-5, 0), (-5, -5), (25, -5), (25, 0)]
ABOVE = [(-5, 0), (-5, 5), (25, 5), (25, 0)]
BELOW_FIRST = [(-5, 0), (-5, -5), (5, -5), (5, 5), (25, 5), (25, 0)]
BELOW_SECOND = [(-5, 0), (-5, 5), (5, 5), (5, -5), (15, -5), (15, 5), (25, 5), (25, 0)]
BELOW_FIRST_TWO = [(-5, 0), (-5, -5), (15, -5), (15, 5), (25, 5), (25, 0)]
BELOW_FIRST_AND_THIRD = [(-5, 0), (-5, -5), (5, -5), (5, 5), (15, 5), (15, -5), (25, -5), (25, 0)]


class DifferCase(unittest.TestCase):
    def answers(self, marks, a, b, expected):
        check_call(self, differ, expected, marks, a, b)

    def answers_both_ways(self, marks, a, b, place, letter_of_a, letter_of_b):
        self.answers(marks, a, b, [place, letter_of_a, letter_of_b])
        self.answers(marks, b, a, [place, letter_of_b, letter_of_a])

    def answers_none(self, marks, a, b):
        self.answers(marks, a, b, [-3])
        self.answers(marks, b, a, [-3])


class OrdinaryDiffer(DifferCase):
    def test_at_place_0(self):
        self.answers_both_ways(ROW, BELOW_FIRST, BELOW_SECOND, 0, 1, 2)
        self.answers_both_ways(ROW, BELOW, BELOW_SECOND, 0, 1, 2)

    def test_further_on(self):
        self.answers_both_ways(ROW, BELOW_FIRST_TWO, BELOW_FIRST_AND_THIRD, 1, 2, 3)
        self.answers_both_ways(ROW, BELOW, BELOW_FIRST_AND_THIRD, 1, 2, 3)

    def test_where_one_has_ended(self):
        self.answers_both_ways(ROW, BELOW, BELOW_FIRST_TWO, 2, 3, 0)
        self.answers_both_ways(ROW, BELOW, BELOW_FIRST, 1, 2, 0)

    def test_an_empty_string_beside_one_that_is_not(self):
        self.answers_both_ways(ROW, BELOW, ABOVE, 0, 1, 0)
        self.answers_both_ways(ROW, BELOW[::-1], ABOVE[::-1], 0, -3, 0)

    def test_going_west(self):
        self.answers_both_ways(ROW, BELOW[::-1], BELOW_FIRST_TWO[::-1], 0, -3, -2)
        self.answers_both_ways(ROW, BELOW[::-1], BELOW_FIRST_AND_THIRD[::-1], 1, -2, -1)

    def test_letters_of_other_signs(self):
        east_about = [(0, -5), (5, 0), (0, 5), (-5, 0), (0, -5)]
        self.answers_both_ways([(0, 0)], east_about, east_about[::-1], 0, 1, -1)

    def test_a_way_and_itself(self):
        self.answers_none(ROW, BELOW, BELOW)
        self.answers_none(ROW, ABOVE, ABOVE)

    def test_same_strings_of_other_words(self):
        to_and_fro = [(-5, 0), (-5, -5), (25, -5), (5, -5), (25, -5), (25, 0)]
        self.assertNotEqual(word(flat(ROW), flat(BELOW)), word(flat(ROW), flat(to_and_fro)))
        self.answers_none(ROW, BELOW, to_and_fro)
        self.answers_none(ROW, ABOVE, [(-5, 0), (-5, -5), (15, -5), (-5, -5), (-5, 5), (25, 5), (25, 0)])

    def test_places_are_counted_in_the_string_not_in_the_word(self):
        late = [(-5, 0), (-5, -5), (15, -5), (-5, -5), (-5, -4), (15, -5), (15, 5), (25, 5), (25, 0)]
        self.assertEqual([6, 1, 2, -2, -1, 1, 2], word(flat(ROW), flat(late)))
        self.answers_both_ways(ROW, late, BELOW, 2, 0, 3)
        self.answers_both_ways(ROW, late, BELOW_FIRST, 1, 2, 0)


class EdgesOfDiffer(DifferCase):
    def test_ways_of_one_place(self):
        self.answers_none([(0, 0)], [(0, -3)], [(0, -3)])
        self.answers_none([(0, 0)], [(0, -3)], [(0, -3), (0, -3)])
        self.answers_none([(0, 0)], [(0, -3)], [(0, -3), (-4, -3), (0, -3)])
        self.answers_both_ways([(0, 0)], [(0, -3)], [(0, -3), (3, 3), (-3, 3), (0, -3)], 0, 0, 1)
        self.answers_both_ways([(0, 0)], [(0, -3)], [(0, -3), (-3, 3), (3, 3), (0, -3)], 0, 0, -1)

    def test_closed_ways(self):
        loop = [(-5, -5), (5, -5), (5, 5), (-5, 5), (-5, -5)]
        self.answers_both_ways([(0, 0)], loop * 3, loop, 1, 1, 0)
        self.answers_both_ways([(0, 0)], loop * 3, loop * 2, 2, 1, 0)
        self.answers_both_ways([(0, 0)], loop * 3, (loop * 2)[::-1], 0, 1, -1)

    def test_marks_with_the_same_x(self):
        marks = [(0, 0), (0, 10), (0, 5)]
        below, between, above = [(-4, 7), (0, -1), (4, 7)], [(-4, 7), (0, 4), (4, 7)], [(-4, 7), (0, 11), (4, 7)]
        self.answers_both_ways(marks, below, between, 0, 1, 2)
        self.answers_both_ways(marks, between, [(-4, 7), (4, 7)], 1, 3, 0)
        self.answers_both_ways(marks, below, above, 0, 1, 0)

    def test_least_and_greatest_place(self):
        least, greatest = (LEAST, LEAST), (GREATEST, GREATEST)
        south_east, north_west = (GREATEST, LEAST), (LEAST, GREATEST)
        self.answers_both_ways([(0, 0)], [least, south_east, greatest], [least, north_west, greatest], 0, 1, 0)
        self.answers_none([(0, 0)], [least, south_east, greatest], [least, (1, 0), greatest])

    def test_the_longest_ways(self):
        way = [(-5, -5), (315, -5), (155, 400)] * 341 + [(-5, -5)]
        wider = [(-5, -5), (320, -9), (155, 900)] * 341 + [(-5, -5)]
        last_mark_left_out = way[:-3] + [(305, -5), (155, 400), (-5, -5)]
        one_mark_left_out = way[:-3] + [(295, -5), (300, 5), (305, -5), (315, -5), (155, 400), (-5, -5)]
        self.answers_none(MANY, way, wider)
        self.answers_both_ways(MANY, way, way[3:], 340 * 32, 1, 0)
        self.answers_both_ways(MANY, way, last_mark_left_out, 341 * 32 - 1, 32, 0)
        self.answers_both_ways(MANY, way[3:], one_mark_left_out[3:], 340 * 32 - 2, 31, 32)
        self.answers_both_ways(MANY, way, way[:512] + way[511::-1], 0, 1, 0)
        self.answers_both_ways(MANY, way, way[::-1], 0, 1, -32)


class RefusalsOfDiffer(DifferCase):
    def test_each_fault_and_each_two(self):
        source = Random(3)
        for marks, faults_of_marks in MARKS_WITH_FAULTS:
            for a, faults_of_a in WAYS_WITH_FAULTS:
                for b, faults_of_b in SECOND_WAYS_WITH_FAULTS:
                    expected = refusal("count place touch begin end", faults_of_marks, faults_of_a, faults_of_b)
                    self.answers(marks, a, b, expected or slow_differ(marks, a, b, source))

    def test_nothing_at_all(self):
        self.answers([], [], [], [-2])

    def test_each_number_beyond(self):
        for number in [GREATEST + 1, LEAST - 1, 2147483647, -2147483648]:
            for place in [(number, 0), (0, number)]:
                self.answers([(3, 3), place], [(0, 1)], [(0, 1)], [-8])
                self.answers([(3, 3)], [(0, 1)], [(0, 1), place, (0, 1)], [-8])
                self.answers([(3, 3)], [(0, 1), place, (0, 1)], [(0, 1)], [-8])

    def test_one_string_comes_last(self):
        # In each of these both words have the same letters, and what is asked ahead of that is refused.
        self.answers([(5, 5)] * 33, [(0, 0)], [(0, 0)], [-2])
        self.answers([(5, 5)], [(0, 0)] * 1025, [(0, 0)] * 1025, [-2])
        self.answers([(5, 5)], [(GREATEST + 1, 0)], [(GREATEST + 1, 0)], [-8])
        self.answers([(5, 5), (5, 5)], [(0, 0)], [(0, 0)], [-8])
        self.answers([(5, 5)], [(0, 0), (5, 5)], [(0, 0), (5, 5)], [-9])
        self.answers([(5, 5)], [(0, 0), (9, 0)], [(0, 0), (9, 1)], [-8])
        self.answers([(5, 5)], [(0, 0), (9, 0)], [(0, 1), (9, 0)], [-8])
        self.answers([(5, 5)], [(0, 0)], [(0, 1)], [-8])

    def test_other_ends_come_after_touching(self):
        self.answers([(5, 5)], [(0, 0), (9, 0)], [(5, 5), (9, 1)], [-9])
        self.answers([(5, 5)], [(0, 0), (5, 5)], [(0, 0), (9, 0)], [-9])


class DifferAtDrawnWays(DifferCase):
    def test_by_slow_strings(self):
        source = Random(41)
        places = []
        for case_number in range(400):
            marks = drawn_marks(source, 30, 10)
            a = drawn_free_way(source, marks, 30, 20)
            b = drawn_free_way(source, marks, 30, 4, begin=a[0], end=a[-1])
            if source.random() < 0.5:
                # The same beginning makes strings that differ further on.
                b = a[:-1] + drawn_free_way(source, marks, 30, 4, begin=a[-1], end=a[-1])
            expected = slow_differ(marks, a, b, source)
            places.append(expected[0])
            self.answers(marks, a, b, expected)
            self.answers_none(marks, a, drawn_same(source, marks, a))
        self.assertGreater(min(places.count(place) for place in (-3, 0, 1)), 20)
        self.assertGreater(len([place for place in places if place > 1]), 20)

    def test_agrees_with_string_and_same(self):
        source = Random(42)
        for case_number in range(200):
            marks = drawn_marks(source, 30, 4)
            a = drawn_free_way(source, marks, 30, 6)
            b = drawn_free_way(source, marks, 30, 3, begin=a[0], end=a[-1])
            given = (flat(marks), flat(a), flat(b))
            self.assertEqual(same(*given) == [1], differ(*given) == [-3])
            if differ(*given) != [-3]:
                place = differ(*given)[0]
                one, other = string(flat(marks), flat(a))[1:], string(flat(marks), flat(b))[1:]
                self.assertEqual(one[:place], other[:place])
                self.assertEqual(differ(*given)[1:], [(one[place:] + [0])[0], (other[place:] + [0])[0]])


if __name__ == "__main__":
    unittest.main()
