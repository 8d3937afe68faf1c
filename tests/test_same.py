import unittest
from random import Random

from peglines.ways import same, string
from tests.helping import (
    GREATEST, LEAST, MARKS_WITH_FAULTS, SECOND_WAYS_WITH_FAULTS, WAYS_WITH_FAULTS, check_call, drawn_free_way,
    drawn_marks, drawn_same, flat, refusal, slow_string,
)

ROW = [(0, 0), (10, 0), (20, 0)]
MANY = [(10 * k, 0) for k in range(32)]
BELOW = [(-5, 0), (-5, -5), (25, -5), (25, 0)]
ABOVE = [(-5, 0), (-5, 5), (25, 5), (25, 0)]


class SameCase(unittest.TestCase):
    def answers(self, marks, a, b, expected):
        check_call(self, same, expected, marks, a, b)

    def answers_both_ways(self, marks, a, b, expected):
        for one, other in [(a, b), (a[::-1], b[::-1])]:
            self.answers(marks, one, other, expected)
            self.answers(marks, other, one, expected)


class OrdinarySame(SameCase):
    def test_another_way_below_the_same_marks(self):
        self.answers_both_ways(ROW, BELOW, [(-5, 0), (10, -30), (25, 0)], [1])
        self.answers_both_ways(ROW, ABOVE, [(-5, 0), (10, 30), (25, 0)], [1])

    def test_below_and_above(self):
        self.answers_both_ways(ROW, BELOW, ABOVE, [0])

    def test_a_way_and_itself(self):
        self.answers(ROW, BELOW, BELOW, [1])
        self.answers(ROW, ABOVE, ABOVE, [1])

    def test_between_the_marks(self):
        weaving = [(-5, 0), (0, -5), (5, 0), (10, 5), (15, 0), (20, -5), (25, 0)]
        straighter = [(-5, 0), (0, -1), (10, 1), (20, -1), (25, 0)]
        self.answers_both_ways(ROW, weaving, straighter, [1])
        self.answers_both_ways(ROW, weaving, BELOW, [0])
        self.answers_both_ways(ROW, weaving, ABOVE, [0])

    def test_words_whose_letters_all_go_out(self):
        to_and_fro = [(-5, 0), (-5, -5), (15, -5), (-5, -5), (-5, 5), (25, 5), (25, 0)]
        self.answers_both_ways(ROW, to_and_fro, ABOVE, [1])

    def test_words_of_which_some_letters_go_out(self):
        to_and_fro = [(-5, 0), (-5, -5), (25, -5), (5, -5), (25, -5), (25, 0)]
        self.answers_both_ways(ROW, to_and_fro, BELOW, [1])
        self.answers_both_ways(ROW, to_and_fro, ABOVE, [0])

    def test_strings_of_one_length(self):
        first = [(-5, 0), (-5, -5), (5, -5), (5, 5), (25, 5), (25, 0)]
        second = [(-5, 0), (-5, 5), (5, 5), (5, -5), (15, -5), (15, 5), (25, 5), (25, 0)]
        self.answers_both_ways(ROW, first, second, [0])

    def test_a_string_that_goes_on_where_the_other_ends(self):
        loop = [(-5, -5), (5, -5), (5, 5), (-5, 5)]
        self.answers_both_ways(ROW, loop + loop[:1], loop * 2 + loop[:1], [0])
        self.answers_both_ways(ROW, loop * 2 + loop[:1], loop * 2 + loop[:1], [1])


class EdgesOfSame(SameCase):
    def test_ways_of_one_place(self):
        self.answers([(0, 0)], [(0, -3)], [(0, -3)], [1])
        self.answers_both_ways([(0, 0)], [(0, -3)], [(0, -3), (0, -3)], [1])
        self.answers_both_ways([(0, 0)], [(0, -3)], [(0, -3), (4, -3), (0, -3)], [1])
        self.answers_both_ways([(0, 0)], [(0, -3)], [(0, -3), (3, 3), (-3, 3), (0, -3)], [0])
        self.answers_both_ways([(0, 0)], [(0, -3)], [(0, -3), (3, 3), (-3, -2), (0, -3)], [0])
        self.answers_both_ways([(0, 0)], [(0, -3)], [(0, -3), (3, 0), (1, -1), (0, -3)], [1])

    def test_closed_ways(self):
        east_about = [(0, -5), (5, 0), (0, 5), (-5, 0), (0, -5)]
        self.answers_both_ways([(0, 0)], east_about, east_about[::-1], [0])
        self.answers_both_ways([(0, 0)], east_about, [(0, -5), (9, 9), (-9, 9), (0, -5)], [1])
        self.answers_both_ways([(0, 0)], east_about + east_about[::-1], [(0, -5)], [1])
        self.answers_both_ways([(0, 0), (3, 3)], east_about, [(0, -5), (9, 9), (-9, 9), (0, -5)], [0])

    def test_round_two_marks_in_another_order(self):
        marks = [(-10, 0), (10, 0)]
        first = [(0, -20), (0, 5), (-20, 5), (-20, -20), (0, -20)]
        second = [(0, -20), (20, -20), (20, 5), (0, 5), (0, -20)]
        self.answers_both_ways(marks, first + second, second + first, [0])
        self.answers_both_ways(marks, first + second, first + second + first + first[::-1], [1])

    def test_marks_with_the_same_x(self):
        marks = [(0, 0), (0, 10), (0, 5)]
        way = [(-4, 0), (4, -3), (4, 0)]
        self.answers_both_ways(marks, way, [(-4, 0), (0, -1), (4, 0)], [1])
        self.answers_both_ways(marks, way, [(-4, 0), (0, 1), (4, 0)], [0])
        self.answers_both_ways(marks, [(-4, 0), (0, 6), (4, 0)], [(-4, 0), (0, 9), (4, 0)], [1])
        self.answers_both_ways(marks, [(-4, 0), (0, 6), (4, 0)], [(-4, 0), (0, 4), (4, 0)], [0])

    def test_least_and_greatest_place(self):
        least, greatest = (LEAST, LEAST), (GREATEST, GREATEST)
        south_east, north_west = (GREATEST, LEAST), (LEAST, GREATEST)
        self.answers_both_ways([(0, 0)], [least, south_east, greatest], [least, (1, 0), greatest], [1])
        self.answers_both_ways([(0, 0)], [least, north_west, greatest], [least, (0, 1), greatest], [1])
        self.answers_both_ways([(0, 0)], [least, south_east, greatest], [least, north_west, greatest], [0])
        self.answers_both_ways([south_east], [least, greatest], [least, (GREATEST, 0), greatest], [1])

    def test_the_longest_ways(self):
        way = [(-5, -5), (315, -5), (155, 400)] * 341 + [(-5, -5)]
        wider = [(-5, -5), (320, -9), (155, 900)] * 341 + [(-5, -5)]
        once_less = way[:-4] + [(-5, -5)] * 4
        last_mark_left_out = way[:-3] + [(305, -5), (155, 400), (-5, -5)]
        self.answers_both_ways(MANY, way, wider, [1])
        self.answers_both_ways(MANY, way, once_less, [0])
        self.answers_both_ways(MANY, way, last_mark_left_out, [0])
        self.answers_both_ways(MANY, way[:512] + way[511::-1], [(-5, -5)] * 1024, [1])
        self.answers_both_ways(MANY, [(-5, -5), (315, -5)] * 512, [(-5, -5), (315, -5)], [1])


class RefusalsOfSame(SameCase):
    def test_each_fault_and_each_two(self):
        source = Random(2)
        for marks, faults_of_marks in MARKS_WITH_FAULTS:
            for a, faults_of_a in WAYS_WITH_FAULTS:
                for b, faults_of_b in SECOND_WAYS_WITH_FAULTS:
                    expected = refusal("count place touch begin end", faults_of_marks, faults_of_a, faults_of_b)
                    if expected is None:
                        expected = [int(slow_string(marks, a, source) == slow_string(marks, b, source))]
                    self.answers(marks, a, b, expected)

    def test_nothing_at_all(self):
        self.answers([], [], [], [-2])

    def test_each_number_beyond(self):
        for number in [GREATEST + 1, LEAST - 1, 2147483647, -2147483648]:
            for place in [(number, 0), (0, number)]:
                self.answers([(3, 3), place], [(0, 1)], [(0, 1)], [-8])
                self.answers_both_ways([(3, 3)], [(0, 1)], [(0, 1), place, (0, 1)], [-8])

    def test_touching_in_one_way_and_a_place_beyond_in_the_other(self):
        self.answers_both_ways([(5, 5)], [(5, 5)], [(0, GREATEST + 1)], [-8])

    def test_other_ends(self):
        for b in [[(0, 0), (9, 1)], [(1, 0), (9, 0)], [(9, 0), (0, 0)], [(0, 0)], [(9, 0)], [(0, 1), (9, 0)]]:
            self.answers_both_ways([(5, 5)], [(0, 0), (9, 0)], b, [-8])
        self.answers_both_ways([(5, 5)], [(0, 0)], [(0, 1)], [-8])

    def test_other_ends_come_after_touching(self):
        self.answers_both_ways([(5, 5)], [(0, 0), (9, 0)], [(5, 5), (9, 1)], [-9])
        self.answers_both_ways([(5, 5)], [(0, 0), (5, 5)], [(0, 0), (9, 0)], [-9])


def quarter_turned(places):
    return [(-y, x) for x, y in places]


class SameAtDrawnWays(SameCase):
    def drawn_three(self, source):
        marks = drawn_marks(source, 30, 5)
        a = drawn_free_way(source, marks, 30, 8)
        b = drawn_free_way(source, marks, 30, 3, begin=a[0], end=a[-1])
        return marks, a, b, drawn_same(source, marks, a)

    def test_by_slow_strings(self):
        source = Random(31)
        for case_number in range(150):
            marks, a, b, like_a = self.drawn_three(source)
            alike = slow_string(marks, a, source) == slow_string(marks, b, source)
            self.answers_both_ways(marks, a, b, [int(alike)])
            self.answers_both_ways(marks, a, like_a, [1])

    def test_lines_that_hang_elsewhere_tell_the_same(self):
        # Whether a string can be drawn into another does not hang on where south is.
        source = Random(32)
        told = {0: 0, 1: 0}
        for case_number in range(200):
            marks, a, b, like_a = self.drawn_three(source)
            answered = same(flat(marks), flat(a), flat(b))
            told[answered[0]] += 1
            for quarter in range(3):
                marks, a, b, like_a = [quarter_turned(places) for places in (marks, a, b, like_a)]
                self.assertEqual(answered, same(flat(marks), flat(a), flat(b)))
                self.assertEqual([1], same(flat(marks), flat(a), flat(like_a)))
        self.assertGreater(min(told.values()), 20)

    def test_as_strings_tell(self):
        source = Random(33)
        for case_number in range(150):
            marks, a, b, like_a = self.drawn_three(source)
            alike = string(flat(marks), flat(a)) == string(flat(marks), flat(b))
            self.assertEqual([int(alike)], same(flat(marks), flat(a), flat(b)))


if __name__ == "__main__":
    unittest.main()
