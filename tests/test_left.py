import unittest
from random import Random

from peglines.ways import left
from tests.helping import (
    GREATEST, LEAST, MARKS_WITH_FAULTS, SECOND_WAYS_WITH_FAULTS, WAYS_WITH_FAULTS, check_call, drawn_free_way,
    drawn_marks, drawn_same, refusal, slow_left, slow_string, turned,
)

ROW = [(0, 0), (10, 0), (20, 0)]
MANY = [(10 * k, 0) for k in range(32)]
BELOW = [(-5, 0), (-5, -5), (25, -5), (25, 0)]
ABOVE = [(-5, 0), (-5, 5), (25, 5), (25, 0)]
BELOW_FIRST = [(-5, 0), (-5, -5), (5, -5), (5, 5), (25, 5), (25, 0)]
BELOW_SECOND = [(-5, 0), (-5, 5), (5, 5), (5, -5), (15, -5), (15, 5), (25, 5), (25, 0)]
BELOW_FIRST_TWO = [(-5, 0), (-5, -5), (15, -5), (15, 5), (25, 5), (25, 0)]


class LeftCase(unittest.TestCase):
    def answers(self, marks, a, b, letters):
        check_call(self, left, [len(letters)] + letters, marks, a, b)

    def answers_both_ways(self, marks, a, b, letters):
        self.answers(marks, a, b, letters)
        self.answers(marks, b, a, turned(letters))

    def refuses(self, marks, a, b, number):
        check_call(self, left, [number], marks, a, b)


class OrdinaryLeft(LeftCase):
    def test_nothing_done_yet(self):
        self.answers_both_ways(ROW, [(-5, 0)], BELOW, [1, 2, 3])
        self.answers_both_ways(ROW, [(-5, 0), (-5, 9)], BELOW, [1, 2, 3])

    def test_a_part_done(self):
        self.answers_both_ways(ROW, [(-5, 0), (-5, -5), (5, -5)], BELOW, [2, 3])
        self.answers_both_ways(ROW, [(-5, 0), (-5, -5), (15, -5), (15, 90)], BELOW, [3])

    def test_all_done(self):
        self.answers(ROW, BELOW, BELOW, [])
        self.answers(ROW, ABOVE, ABOVE, [])
        self.answers_both_ways(ROW, BELOW, [(-5, 0), (10, -30), (25, 0)], [])

    def test_something_else_done(self):
        self.answers_both_ways(ROW, BELOW_FIRST, BELOW_SECOND, [-1, 2])
        self.answers_both_ways(ROW, BELOW_FIRST_TWO, BELOW_SECOND, [-2, -1, 2])
        self.answers_both_ways(ROW, BELOW_SECOND, BELOW, [-2, 1, 2, 3])

    def test_differing_further_on(self):
        self.answers_both_ways(ROW, BELOW_FIRST, BELOW, [2, 3])
        self.answers_both_ways(ROW, BELOW_FIRST_TWO, BELOW_FIRST, [-2])

    def test_an_empty_string_beside_one_that_is_not(self):
        self.answers_both_ways(ROW, ABOVE, BELOW, [1, 2, 3])
        self.answers_both_ways(ROW, ABOVE[::-1], BELOW[::-1], [-3, -2, -1])

    def test_same_strings_of_other_words(self):
        to_and_fro = [(-5, 0), (-5, -5), (25, -5), (5, -5), (25, -5), (25, 0)]
        self.answers_both_ways(ROW, BELOW, to_and_fro, [])
        self.answers_both_ways(ROW, to_and_fro, BELOW_FIRST, [-3, -2])

    def test_more_done_than_asked(self):
        loop = [(-5, -5), (5, -5), (5, 5), (-5, 5), (-5, -5)]
        self.answers_both_ways(ROW, loop * 3, loop, [-1, -1])
        self.answers_both_ways(ROW, loop, loop[::-1], [-1, -1])


class EdgesOfLeft(LeftCase):
    def test_ways_of_one_place(self):
        self.answers([(0, 0)], [(0, -3)], [(0, -3)], [])
        self.answers_both_ways([(0, 0)], [(0, -3)], [(0, -3), (0, -3)], [])
        self.answers_both_ways([(0, 0)], [(0, -3)], [(0, -3), (-4, -3)], [-1])
        self.answers_both_ways([(0, 0)], [(0, -3)], [(0, -3), (4, -3)], [])
        self.answers_both_ways([(0, 0)], [(0, -3)], [(0, -3), (3, 3), (-3, 3), (0, -3)], [1])

    def test_other_last_places(self):
        self.answers_both_ways(ROW, [(5, -5), (-5, -5)], [(5, -5), (25, -5)], [1, 2, 3])
        self.answers_both_ways(ROW, [(5, -9), (15, 5)], [(5, -9), (15, -9), (15, 5), (25, 5)], [])
        self.answers_both_ways(ROW, [(5, -9), (15, 5)], [(5, -9), (5, 5), (15, 5), (25, 5)], [-2])

    def test_other_last_places_with_the_same_string(self):
        self.answers_both_ways(ROW, BELOW, [(-5, 0), (-5, -5), (99, -5)], [])
        self.answers_both_ways(ROW, ABOVE, [(-5, 0), (-9, 0)], [])

    def test_closed_ways(self):
        east_about = [(0, -5), (5, 0), (0, 5), (-5, 0), (0, -5)]
        self.answers_both_ways([(0, 0)], east_about, east_about[::-1], [-1, -1])
        self.answers([(0, 0)], east_about, east_about, [])

    def test_marks_with_the_same_x(self):
        marks = [(0, 0), (0, 10), (0, 5)]
        below, between, above = [(-4, 7), (0, -1), (4, 7)], [(-4, 7), (0, 4), (4, 7)], [(-4, 7), (0, 11), (4, 7)]
        self.answers_both_ways(marks, between, below, [-3, -2, 1, 2, 3])
        self.answers_both_ways(marks, above, between, [2, 3])

    def test_least_and_greatest_place(self):
        least, greatest = (LEAST, LEAST), (GREATEST, GREATEST)
        south_east, north_west = (GREATEST, LEAST), (LEAST, GREATEST)
        self.answers_both_ways([(0, 0)], [least, north_west, greatest], [least, south_east, greatest], [1])
        self.answers_both_ways([greatest], [least, south_east], [least, north_west], [-1])

    def test_the_longest_ways(self):
        east = list(range(1, 33))
        way = [(-5, -5), (315, -5), (155, 400)] * 341 + [(-5, -5)]
        wider = [(-5, -5), (320, -9), (155, 900)] * 341 + [(-5, -5)]
        self.answers(MANY, way, way, [])
        self.answers_both_ways(MANY, way, wider, [])
        self.answers_both_ways(MANY, way[3:], way, east)
        self.answers_both_ways(MANY, way[:2], way, east * 340)
        self.answers_both_ways(MANY, way[::-1], way, east * 682)


class RefusalsOfLeft(LeftCase):
    def test_each_fault_and_each_two(self):
        source = Random(4)
        for marks, faults_of_marks in MARKS_WITH_FAULTS:
            for a, faults_of_a in WAYS_WITH_FAULTS:
                for b, faults_of_b in SECOND_WAYS_WITH_FAULTS:
                    # Where b ends is nothing to left, so of the faults that is not one here.
                    expected = refusal("count place touch begin", faults_of_marks, faults_of_a, faults_of_b)
                    check_call(self, left, expected or slow_left(marks, a, b, source), marks, a, b)

    def test_nothing_at_all(self):
        self.refuses([], [], [], -2)

    def test_each_number_beyond(self):
        for number in [GREATEST + 1, LEAST - 1, 2147483647, -2147483648]:
            for place in [(number, 0), (0, number)]:
                self.refuses([(3, 3), place], [(0, 1)], [(0, 1)], -8)
                self.refuses([(3, 3)], [(0, 1)], [(0, 1), place], -8)
                self.refuses([(3, 3)], [(0, 1), place], [(0, 1)], -8)

    def test_other_beginnings(self):
        for b in [[(0, 1), (9, 0)], [(9, 0), (0, 0)], [(9, 0)], [(1, 0), (0, 0), (9, 0)]]:
            self.refuses([(5, 5)], [(0, 0), (9, 0)], b, -8)
            self.refuses([(5, 5)], b, [(0, 0), (9, 0)], -8)

    def test_other_beginnings_come_after_touching(self):
        self.refuses([(5, 5)], [(0, 0), (9, 0)], [(5, 5), (9, 0)], -9)
        self.refuses([(5, 5)], [(0, 0), (5, 5)], [(1, 0), (9, 0)], -9)

    def test_touching_between_the_last_of_a_and_the_first_of_b_is_none(self):
        # a is turned round, so no step goes from where a ends to where b begins.
        self.answers([(5, 0)], [(0, 0), (0, 9), (10, 9), (10, 0)], [(0, 0)], [])
        self.answers([(5, 0)], [(0, 0)], [(0, 0), (0, 9), (10, 9), (10, 0)], [])


class LeftAtDrawnWays(LeftCase):
    def test_by_slow_strings(self):
        source = Random(51)
        shortened = 0
        for case_number in range(300):
            marks = drawn_marks(source, 30, 10)
            a = drawn_free_way(source, marks, 30, 20)
            b = drawn_free_way(source, marks, 30, 5, begin=a[0])
            if source.random() < 0.5:
                b = drawn_same(source, marks, a[: source.randint(1, len(a))])
            expected = slow_left(marks, a, b, source)
            shortened += expected[0] < slow_string(marks, a, source)[0] + slow_string(marks, b, source)[0]
            self.answers_both_ways(marks, a, b, expected[1:])
            self.answers(marks, a, drawn_same(source, marks, a), [])
        self.assertGreater(shortened, 80)


if __name__ == "__main__":
    unittest.main()
