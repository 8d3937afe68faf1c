import unittest

from peglines.ways import slack
from tests.helping import (
    GREATEST, LEAST, MARKS_WITH_FAULTS, WAYS_WITH_FAULTS, check_call, drawn_cases, flat, grid, refusal, slow_slack,
)

TRIANGLE = [(0, 0), (12, 0), (6, 9)]
OUTSIDE = (LEAST + 5, GREATEST - 3)


class SlackCase(unittest.TestCase):
    def answers(self, marks, a, expected):
        check_call(self, slack, [expected], marks, a)

    def triangle_answers(self, mark, corners, expected):
        """The answer, whichever corner comes first and whether they turn left or right."""
        for first in range(3):
            turning_one_way = corners[first:] + corners[:first]
            self.answers([mark], turning_one_way, expected)
            self.answers([mark], turning_one_way[::-1], expected)
            self.answers([OUTSIDE, mark], turning_one_way, expected)


class OrdinarySlack(SlackCase):
    def test_the_first_of_several(self):
        self.answers([(0, 50)], [(0, 0), (5, 1), (9, 0), (14, 3), (20, 0)], 1)

    def test_a_later_one(self):
        marks = [(5, 2), (10, 2)]
        way = [(0, 0), (5, 5), (10, 0), (15, 5), (20, 4), (30, 0)]
        self.answers(marks, way, 3)
        self.answers(marks, way[:4], -3)

    def test_the_last_inner_one(self):
        self.answers([(5, 2)], [(0, 0), (5, 5), (10, 0), (20, 0)], 2)

    def test_none(self):
        self.answers([(5, 2)], [(0, 0), (5, 5), (10, 0)], -3)
        self.answers([(5, 2), (10, 3)], [(0, 0), (5, 5), (10, 0), (15, 5)], -3)

    def test_the_ends_are_never_slack(self):
        self.answers([(5, 2)], [(0, 0), (5, 5), (10, 0), (0, 0)], -3)

    def test_one_of_many_marks_is_enough(self):
        marks = [(50, 50), (60, 50), (5, 2), (70, 50)]
        self.answers(marks, [(0, 0), (5, 5), (10, 0)], -3)
        self.answers(marks[:2] + marks[3:], [(0, 0), (5, 5), (10, 0)], 1)


class Triangles(SlackCase):
    def test_mark_within(self):
        for mark in [(6, 3), (1, 1), (11, 1), (6, 8)]:
            self.triangle_answers(mark, TRIANGLE, -3)

    def test_mark_on_an_edge(self):
        for mark in [(6, 0), (1, 0), (11, 0), (2, 3), (4, 6), (10, 3), (8, 6)]:
            self.triangle_answers(mark, TRIANGLE, -3)

    def test_mark_at_a_corner(self):
        for mark in TRIANGLE:
            self.triangle_answers(mark, TRIANGLE, -3)

    def test_mark_on_the_prolongation_of_an_edge(self):
        for mark in [(-1, 0), (13, 0), (-2, -3), (8, 12), (4, 12), (14, -3)]:
            self.triangle_answers(mark, TRIANGLE, 1)

    def test_mark_outside(self):
        for mark in [(6, -1), (2, 4), (10, 4), (6, 10), (-1, -1), (13, -1), (0, 9), (12, 9), (-5, 3), (17, 3)]:
            self.triangle_answers(mark, TRIANGLE, 1)


class FlatTriangles(SlackCase):
    def test_middle_place_between(self):
        for mark in [(0, 0), (2, 1), (4, 2), (6, 3), (8, 4)]:
            self.triangle_answers(mark, [(0, 0), (4, 2), (8, 4)], -3)
        for mark in [(-2, -1), (10, 5), (2, 2), (6, 2), (4, 3), (1, 1)]:
            self.triangle_answers(mark, [(0, 0), (4, 2), (8, 4)], 1)

    def test_middle_place_beyond(self):
        self.answers([(10, 5)], [(0, 0), (12, 6), (8, 4)], -3)
        self.answers([(12, 6)], [(0, 0), (12, 6), (8, 4)], -3)
        self.answers([(14, 7)], [(0, 0), (12, 6), (8, 4)], 1)
        self.answers([(-2, -1)], [(0, 0), (-4, -2), (8, 4)], -3)
        self.answers([(-6, -3)], [(0, 0), (-4, -2), (8, 4)], 1)

    def test_there_and_back(self):
        self.answers([(5, 0)], [(0, 0), (9, 0), (0, 0)], -3)
        self.answers([(9, 0)], [(0, 0), (9, 0), (0, 0)], -3)
        self.answers([(10, 0)], [(0, 0), (9, 0), (0, 0)], 1)
        self.answers([(5, 1)], [(0, 0), (9, 0), (0, 0)], 1)

    def test_straight_north_and_south(self):
        self.answers([(3, 7)], [(3, 0), (3, 9), (3, 5)], -3)
        self.answers([(3, 10)], [(3, 0), (3, 9), (3, 5)], 1)
        self.answers([(4, 7)], [(3, 0), (3, 9), (3, 5)], 1)

    def test_two_places_that_are_one(self):
        for mark, expected in [((0, 0), -3), ((4, 2), -3), ((2, 1), -3), ((6, 3), 1), ((-2, -1), 1), ((2, 2), 1)]:
            self.triangle_answers(mark, [(0, 0), (0, 0), (4, 2)], expected)

    def test_one_place(self):
        self.triangle_answers((3, 3), [(3, 3)] * 3, -3)
        for mark in [(3, 4), (4, 3), (2, 2), (0, 0)]:
            self.triangle_answers(mark, [(3, 3)] * 3, 1)


class EdgesOfSlack(SlackCase):
    def test_ways_without_inner_places(self):
        self.answers([(0, 50)], [(0, 0)], -3)
        self.answers([(0, 50)], [(0, 0), (9, 0)], -3)
        self.answers([(0, 50)], [(0, 0), (0, 0)], -3)

    def test_a_way_that_touches_a_mark(self):
        self.answers([(5, 5)], [(5, 5)], -3)
        self.answers([(5, 5)], [(0, 0), (5, 5), (9, 0)], -3)
        self.answers([(5, 5)], [(0, 0), (10, 10), (10, 0), (10, -9), (9, -9)], 2)
        self.answers([(5, 5)], [(0, 0), (10, 10), (10, 0), (0, 5), (9, 5)], -3)
        self.answers([(5, 5)], [(0, 9), (2, 8), (0, 0), (10, 10)], 1)

    def test_least_and_greatest_place(self):
        south_west, south_east, north_east = (LEAST, LEAST), (GREATEST, LEAST), (GREATEST, GREATEST)
        corners = [south_west, south_east, north_east]
        for mark in [(0, 0), (1, 0), (LEAST + 1, LEAST), (LEAST + 1, LEAST + 1), (GREATEST, GREATEST - 1)] + corners:
            self.triangle_answers(mark, corners, -3)
        for mark in [(-1, 0), (LEAST, LEAST + 1), (GREATEST - 1, GREATEST), (LEAST, GREATEST)]:
            self.triangle_answers(mark, corners, 1)

    def test_near_misses_of_the_longest_triangles(self):
        corners = [(LEAST, LEAST), (GREATEST, GREATEST - 1), (GREATEST, GREATEST)]
        self.triangle_answers((0, 0), corners, -3)
        self.triangle_answers((0, -1), corners, 1)
        self.triangle_answers((LEAST + 1, LEAST + 1), corners, -3)
        self.triangle_answers((GREATEST - 1, GREATEST - 2), corners, 1)
        corners = [(LEAST, LEAST), (GREATEST, GREATEST - 1), (0, 0)]
        self.triangle_answers((-1, -1), corners, -3)
        for mark in [(-1, -2), (0, -1), (1, 0), (1, 1)]:
            self.triangle_answers(mark, corners, 1)

    def test_most_marks_and_most_places(self):
        marks = [(10 * k, 0) for k in range(32)]
        pulled = ([(310, -5), (312, 5), (308, 5)] * 342)[:1022]
        self.answers(marks, pulled + [(308, 5), (300, 9)], 1022)
        self.answers(marks, pulled + [(308, 5), (310, -5)], -3)
        self.answers(marks, [(3, 3)] * 1024, 1)
        self.answers(marks, [(310, 0)] * 1024, -3)
        self.answers(marks, [(310, 0)] * 1021 + [(315, 9), (320, 9), (325, 9)], 1022)


class RefusalsOfSlack(SlackCase):
    def test_each_fault_and_each_two(self):
        for marks, faults_of_marks in MARKS_WITH_FAULTS:
            for way, faults_of_way in WAYS_WITH_FAULTS:
                expected = refusal("count place", faults_of_marks, faults_of_way)
                check_call(self, slack, expected or slow_slack(marks, way), marks, way)

    def test_each_number_beyond(self):
        for number in [GREATEST + 1, LEAST - 1, 2147483647, -2147483648]:
            for place in [(number, 0), (0, number)]:
                self.answers([(3, 3), place], [(0, 1), (0, 1), (0, 1)], -8)
                self.answers([(3, 3)], [(0, 1), (0, 1), (0, 1), place], -8)
                self.answers([(3, 3)], [place], -8)

    def test_none_comes_last(self):
        self.answers([], [], -2)
        self.answers([], [(0, 0), (1, 0)], -2)
        self.answers([(5, 5)], [], -2)
        self.answers([(k, 0) for k in range(33)], [(0, 0), (1, 0), (2, 0)], -2)
        self.answers([(5, 5)], [(5, 5)] * 1025, -2)
        self.answers([(5, 5), (5, 5)], [(0, 0), (1, 0)], -8)
        self.answers([(5, 5)], [(0, 0), (GREATEST + 1, 0)], -8)

    def test_counts_and_places_come_before_what_is_slack(self):
        self.answers([(5, 5)], [(0, 0)] * 1025, -2)
        self.answers([(5, 5), (5, 5)], [(0, 0)] * 3, -8)
        self.answers([(5, 5)], [(0, 0)] * 3 + [(0, LEAST - 1)], -8)


class SlackByWeights(SlackCase):
    def test_every_triangle_on_a_small_grid(self):
        for mark in [(1, 1), (0, 1), (2, 2)]:
            for one in grid(4):
                for two in grid(4):
                    for three in grid(4):
                        way = [one, two, three]
                        self.assertEqual(slow_slack([mark], way), slack(list(mark), flat(way)), (mark, way))

    def test_drawn_ways(self):
        found = []
        for seed, reach in enumerate([3, 12, 60, GREATEST]):
            for marks, way in drawn_cases(70 + seed, 200, reach, 16, 12):
                expected = slow_slack(marks, way)
                check_call(self, slack, expected, marks, way)
                found.append(expected[0])
        self.assertGreater(min(found.count(number) for number in (-3, 1, 2, 3)), 20)


if __name__ == "__main__":
    unittest.main()
