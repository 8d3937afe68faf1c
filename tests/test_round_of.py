import unittest
from math import atan2, pi
from random import Random

from peglines.ways import round_of, string
from tests.helping import (
    GREATEST, LEAST, MARKS_WITH_FAULTS, WAYS_WITH_FAULTS, check_call, drawn_free_way, drawn_marks, flat, refusal,
    slow_round_of, steps,
)

ROW = [(0, 0), (10, 0), (20, 0)]
MANY = [(10 * k, 0) for k in range(32)]
EAST_BELOW = [(-5, -5), (5, -5), (5, 5), (-5, 5), (-5, -5)]
WEST_BELOW = EAST_BELOW[::-1]


class RoundCase(unittest.TestCase):
    def answers(self, k, marks, a, expected):
        check_call(self, round_of, expected, k, marks, a)

    def goes_round(self, marks, a, counts):
        for k, count in enumerate(counts):
            self.answers(k, marks, a, [0, count])


class OrdinaryRound(RoundCase):
    def test_once(self):
        self.goes_round(ROW, EAST_BELOW, [1, 0, 0])
        self.goes_round(ROW, WEST_BELOW, [-1, 0, 0])

    def test_several_times(self):
        self.goes_round(ROW, EAST_BELOW * 4, [4, 0, 0])
        self.goes_round(ROW, WEST_BELOW * 5, [-5, 0, 0])

    def test_one_way_and_the_other(self):
        self.goes_round(ROW, EAST_BELOW * 3 + WEST_BELOW, [2, 0, 0])
        self.goes_round(ROW, WEST_BELOW * 3 + EAST_BELOW, [-2, 0, 0])
        self.goes_round(ROW, EAST_BELOW + WEST_BELOW, [0, 0, 0])

    def test_to_and_fro(self):
        self.goes_round(ROW, [(-5, -5), (25, -5), (-5, -5)], [0, 0, 0])
        self.goes_round(ROW, [(-5, -5), (15, -5), (5, -5), (25, -5)], [1, 1, 1])
        self.goes_round(ROW, [(15, -5), (-5, -5), (5, -5), (-5, -5)], [-1, -1, 0])

    def test_ways_that_do_not_close(self):
        self.goes_round(ROW, [(-5, -5), (25, -5)], [1, 1, 1])
        self.goes_round(ROW, [(25, -5), (-5, -5)], [-1, -1, -1])
        self.goes_round(ROW, [(-5, 5), (25, 5)], [0, 0, 0])

    def test_each_mark_by_itself(self):
        way = [(-5, -5), (15, -5), (15, 5), (5, 5), (5, -5), (25, -5), (25, 5), (-5, 5)]
        self.goes_round(ROW, way, [1, 2, 1])
        self.goes_round(ROW, way + [(-5, -5), (5, -5)], [2, 2, 1])

    def test_what_others_stand_between_counts_out_all_the_same(self):
        way = [(-5, -5), (15, -5), (15, 5), (5, 5), (5, -5), (-5, -5)]
        self.assertEqual([3, 1, 2, -1], string(flat(ROW), flat(way)))
        self.goes_round(ROW, way, [0, 1, 0])


class EdgesOfRound(RoundCase):
    def test_way_of_one_place(self):
        self.goes_round(ROW, [(0, -3)], [0, 0, 0])
        self.goes_round([(0, 0)], [(0, -3), (0, -3)], [0])

    def test_the_number_of_the_mark(self):
        self.answers(2, ROW, EAST_BELOW, [0, 0])
        self.answers(3, ROW, EAST_BELOW, [-4])
        self.answers(4, ROW, EAST_BELOW, [-4])
        self.answers(4294967295, ROW, EAST_BELOW, [-4])
        self.answers(0, ROW[:1], EAST_BELOW, [0, 1])
        self.answers(1, ROW[:1], EAST_BELOW, [-4])
        self.answers(32, MANY, EAST_BELOW, [-4])

    def test_marks_with_the_same_x(self):
        marks = [(0, 0), (0, 10), (0, 5)]
        self.goes_round(marks, [(-4, 3), (4, 3), (4, 7), (-4, 7), (-4, 3)], [0, 0, 1])
        self.goes_round(marks, [(-4, 3), (4, 3), (4, 12), (-4, 12)], [0, 1, 1])
        self.goes_round(marks, [(4, -1), (-4, -1)], [-1, -1, -1])

    def test_turning_on_the_line(self):
        self.goes_round([(0, 0)], [(-3, -3), (0, -3)], [1])
        self.goes_round([(0, 0)], [(0, -3), (3, -3)], [0])
        self.goes_round([(0, 0)], [(0, -3), (-3, -3)], [-1])
        self.goes_round([(0, 0)], [(-3, -3), (0, -3), (-3, -3)], [0])

    def test_least_and_greatest_place(self):
        corners = [(LEAST, LEAST), (GREATEST, LEAST), (GREATEST, GREATEST), (LEAST, GREATEST), (LEAST, LEAST)]
        inside = [(LEAST + 1, LEAST + 1), (GREATEST - 1, GREATEST - 1), (0, 0)]
        self.goes_round(inside, corners, [1, 1, 1])
        self.goes_round(inside, corners[::-1], [-1, -1, -1])

    def test_the_longest_way(self):
        way = [(-5, -5), (315, -5), (155, 400)] * 341 + [(-5, -5)]
        self.goes_round(MANY, way, [341] * 32)
        self.goes_round(MANY, way[::-1], [-341] * 32)
        self.goes_round(MANY, [(-5, -5), (315, -5)] * 512, [1] * 32)


class RefusalsOfRound(RoundCase):
    def test_each_fault_and_each_two(self):
        for marks, faults_of_marks in MARKS_WITH_FAULTS:
            for way, faults_of_way in WAYS_WITH_FAULTS:
                for k in [0, 1, len(marks), 4294967295]:
                    faults_of_k = "" if k < len(marks) else "unknown"
                    expected = refusal("count place touch unknown", faults_of_k, faults_of_marks, faults_of_way)
                    self.answers(k, marks, way, expected or slow_round_of(k, marks, way))

    def test_no_such_mark_comes_last(self):
        self.answers(0, [], [], [-2])
        self.answers(9, [(5, 5)], [], [-2])
        self.answers(40, MANY + [(0, 1)], [(1, 1)], [-2])
        self.answers(9, [(5, 5)], [(0, GREATEST + 1)], [-8])
        self.answers(9, [(5, 5), (5, 5)], [(0, 0)], [-8])
        self.answers(9, [(5, 5)], [(5, 5)], [-9])
        self.answers(9, [(5, 5)], [(0, 0)], [-4])

    def test_each_number_beyond(self):
        for number in [GREATEST + 1, LEAST - 1, 2147483647, -2147483648]:
            for place in [(number, 0), (0, number)]:
                self.answers(0, [(3, 3), place], [(0, 1)], [-8])
                self.answers(0, [(3, 3)], [(0, 1), place], [-8])

    def test_touching_another_mark_than_the_one_asked_of(self):
        self.answers(0, [(5, 5), (9, 9)], [(0, 0), (9, 9)], [-9])
        self.answers(1, [(5, 5), (9, 9)], [(0, 0), (5, 5)], [-9])


class RoundAtDrawnWays(RoundCase):
    def test_by_slow_words(self):
        source = Random(61)
        found = []
        for case_number in range(200):
            marks = drawn_marks(source, 30, 6)
            way = drawn_free_way(source, marks, 30, 16)
            for k in range(len(marks)):
                self.answers(k, marks, way, slow_round_of(k, marks, way))
                found.append(slow_round_of(k, marks, way)[1])
        self.assertGreater(min(found.count(count) for count in (-1, 0, 1)), 20)

    def test_closed_ways_by_their_angles(self):
        source = Random(62)
        for case_number in range(200):
            marks = drawn_marks(source, 30, 6)
            begin = drawn_free_way(source, marks, 30, 1)[0]
            way = drawn_free_way(source, marks, 30, 16, begin=begin, end=begin)
            for k, mark in enumerate(marks):
                turning = sum(angle_seen(mark, start, end) for start, end in steps(way))
                self.answers(k, marks, way, [0, round(turning / (2 * pi))])


def angle_seen(mark, start, end):
    """The angle, to the left, by which one who stands at the mark turns to follow the step."""
    one = (start[0] - mark[0], start[1] - mark[1])
    two = (end[0] - mark[0], end[1] - mark[1])
    return atan2(one[0] * two[1] - one[1] * two[0], one[0] * two[0] + one[1] * two[1])


if __name__ == "__main__":
    unittest.main()
