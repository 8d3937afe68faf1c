import unittest
from random import Random

from peglines.ways import slack, without
from tests.helping import (
    GREATEST, LEAST, MARKS_WITH_FAULTS, WAYS_WITH_FAULTS, check_call, drawn_cases, drawn_free_way, drawn_marks, flat,
    grid, refusal, slow_without,
)

MANY = [(10 * k, 0) for k in range(32)]
WOUND = [(-5, -5), (315, -5), (155, 400)] * 341 + [(-5, -5)]


class WithoutCase(unittest.TestCase):
    def answers(self, marks, a, tight):
        check_call(self, without, [len(tight)] + flat(tight), marks, a)

    def refuses(self, marks, a, number):
        check_call(self, without, [number], marks, a)


class OrdinaryWithout(WithoutCase):
    def test_no_slack_place(self):
        for way in [[(0, 0), (5, 5), (10, 0)], [(10, 0), (5, 5), (0, 0)], [(0, 0), (5, 5), (10, 0), (0, 0)]]:
            self.answers([(5, 2)], way, way)

    def test_one_slack_place(self):
        self.answers([(5, 2)], [(0, 0), (5, 5), (10, 0), (20, 0)], [(0, 0), (5, 5), (20, 0)])
        self.answers([(5, 20)], [(0, 0), (5, 5), (10, 0)], [(0, 0), (10, 0)])

    def test_all_inner_places_slack(self):
        self.answers([(0, 50)], [(0, 0), (5, 1), (9, 0), (14, 3), (20, 0)], [(0, 0), (20, 0)])
        self.answers([(0, 50)], [(0, 0), (5, 1), (9, 0), (14, 3), (0, 0)], [(0, 0), (0, 0)])

    def test_slack_places_here_and_there(self):
        marks = [(5, 2), (15, 1), (25, 2)]
        way = [(0, 0), (1, 1), (5, 5), (10, 0), (15, -5), (20, 0), (25, 5), (29, 1), (30, 0)]
        self.answers(marks, way, [(0, 0), (5, 5), (15, -5), (25, 5), (30, 0)])
        self.answers(marks, way[::-1], [(30, 0), (25, 5), (15, -5), (5, 5), (0, 0)])

    def test_one_of_many_marks_holds_a_place(self):
        marks = [(50, 50), (60, 50), (5, 2), (70, 50)]
        self.answers(marks, [(0, 0), (5, 5), (10, 0)], [(0, 0), (5, 5), (10, 0)])
        self.answers(marks[:2] + marks[3:], [(0, 0), (5, 5), (10, 0)], [(0, 0), (10, 0)])

    def test_only_turning_the_other_way(self):
        self.answers([(5, 2)], [(0, 0), (5, 5), (10, 0)][::-1], [(10, 0), (5, 5), (0, 0)])
        self.answers([(5, 8)], [(0, 0), (5, 5), (10, 0)][::-1], [(10, 0), (0, 0)])


class OrderOfLeavingOut(WithoutCase):
    def test_a_place_that_ceases_to_be_slack(self):
        # Each of the two inner places is slack while the other is there: the first goes, and the mark holds the second.
        marks, way = [(5, 1)], [(0, -1), (3, 4), (7, 4), (10, -1)]
        self.answers(marks, way, [(0, -1), (7, 4), (10, -1)])
        self.answers(marks, way[::-1], [(10, -1), (3, 4), (0, -1)])

    def test_of_three_the_first_two_go(self):
        way = [(0, -1), (2, 5), (5, 6), (8, 5), (10, -1)]
        self.answers([(5, 1)], way, [(0, -1), (8, 5), (10, -1)])
        self.answers([(5, 1)], way[::-1], [(10, -1), (2, 5), (0, -1)])

    def test_a_place_that_becomes_slack(self):
        # The mark holds place 1 until place 2 is left out.
        marks, way = [(5, 1)], [(0, 0), (5, 5), (10, 0), (9, 9)]
        self.assertEqual([2], slack(flat(marks), flat(way)))
        self.answers(marks, way, [(0, 0), (9, 9)])

    def test_one_after_another_becomes_slack_back_to_the_first(self):
        there = [(-5, -5), (5, -5), (0, 9), (-6, -6), (6, -6), (0, 10), (-7, -7)]
        self.answers([(0, 0)], there, there)
        self.answers([(0, 0)], there + there[-2::-1], [(-5, -5), (-5, -5)])
        self.answers([(0, 0)], there + there[-2:3:-1] + [(-9, -9)], there[:3] + [(-9, -9)])

    def test_other_orders_end_otherwise(self):
        # Leaving out the last slack place first ends with (1, 3) and (-3, -2) between the ends.
        self.answers([(-1, 0)], [(4, 0), (1, 3), (-3, -2), (-5, 2), (0, -4)], [(4, 0), (-5, 2), (0, -4)])
        # Going on without looking at the places before again ends with (-1, 0) between the ends.
        self.answers([(2, 0)], [(1, -4), (-1, 0), (3, 1), (-2, 5), (4, 2)], [(1, -4), (-2, 5), (4, 2)])
        # Leaving out all slack places at once ends with (1, 2) between the ends.
        self.answers([(0, 0)], [(-4, -3), (3, -5), (4, -2), (1, 2), (-3, 0), (3, 2)], [(-4, -3), (3, 2)])


class EdgesOfWithout(WithoutCase):
    def test_ways_of_one_and_two_places(self):
        for way in [[(0, 0)], [(0, 0), (9, 0)], [(0, 0), (0, 0)]]:
            self.answers([(0, 50)], way, way)

    def test_ways_of_three_places(self):
        self.answers([(0, 50)], [(0, 0), (5, 5), (9, 0)], [(0, 0), (9, 0)])
        self.answers([(0, 50)], [(0, 0), (5, 5), (0, 0)], [(0, 0), (0, 0)])
        self.answers([(5, 1)], [(0, 0), (5, 5), (9, 0)], [(0, 0), (5, 5), (9, 0)])

    def test_steps_to_the_same_place(self):
        self.answers([(0, 50)], [(0, 0)] * 3, [(0, 0)] * 2)
        self.answers([(0, 50)], [(0, 0)] * 9, [(0, 0)] * 2)
        self.answers([(5, 1)], [(0, 0), (5, 5), (5, 5), (5, 5), (9, 0)], [(0, 0), (5, 5), (9, 0)])
        self.answers([(5, 1)], [(0, 0), (0, 0), (5, 5), (9, 0), (9, 0)], [(0, 0), (5, 5), (9, 0)])

    def test_places_on_a_straight(self):
        self.answers([(5, 1)], [(0, 0), (1, 0), (5, 0), (3, 0), (9, 0)], [(0, 0), (9, 0)])
        self.answers([(12, 0)], [(0, 0), (9, 0), (4, 0)], [(0, 0), (4, 0)])

    def test_mark_on_the_edge_of_a_triangle(self):
        self.answers([(5, 0)], [(0, 0), (5, 5), (10, 0)], [(0, 0), (5, 5), (10, 0)])
        self.answers([(5, -1)], [(0, 0), (5, 5), (10, 0)], [(0, 0), (10, 0)])
        self.answers([(11, 0)], [(0, 0), (5, 5), (10, 0)], [(0, 0), (10, 0)])
        self.answers([(1, -2)], [(3, 0), (-1, 1), (0, 3), (-2, -5)], [(3, 0), (0, 3), (-2, -5)])

    def test_least_and_greatest_place(self):
        south_west, south_east, north_east = (LEAST, LEAST), (GREATEST, LEAST), (GREATEST, GREATEST)
        way = [south_west, south_east, north_east]
        for mark in [(0, 0), (1, 0), (LEAST + 1, LEAST + 1), (GREATEST - 1, LEAST + 1)]:
            self.answers([mark], way, way)
            self.answers([mark], way[::-1], way[::-1])
        for mark in [(-1, 0), (LEAST, GREATEST), (GREATEST - 1, GREATEST)]:
            self.answers([mark], way, [south_west, north_east])
            self.answers([mark], way[::-1], [north_east, south_west])

    def test_most_places_with_all_inner_ones_slack(self):
        above = [(i % 7 * 50, 5 + i * i % 11) for i in range(1024)]
        self.answers(MANY, above, [above[0], above[-1]])
        self.answers(MANY, [(3, 3)] * 1024, [(3, 3)] * 2)

    def test_most_places_with_none_slack(self):
        self.answers(MANY, WOUND, WOUND)
        self.answers(MANY, WOUND[::-1], WOUND[::-1])

    def test_most_places_that_become_slack_one_after_another(self):
        there = WOUND[:512]
        self.answers(MANY, there + there[::-1], [(-5, -5), (-5, -5)])
        self.answers(MANY, there + there[:100:-1] + [(-5, -5)] * 101, there[:102] + [(-5, -5)])

    def test_most_places_held_by_the_last_mark(self):
        way = ([(310, -5), (312, 5), (308, 5)] * 342)[:1024]
        self.answers(MANY, way, way)
        doubled = [place for place in way[:512] for time in range(2)]
        # At each end the doubled place is an end and stays, and its inner twin goes.
        self.answers(MANY, doubled, way[:512])


class RefusalsOfWithout(WithoutCase):
    def test_each_fault_and_each_two(self):
        for marks, faults_of_marks in MARKS_WITH_FAULTS:
            for way, faults_of_way in WAYS_WITH_FAULTS:
                expected = refusal("count place touch", faults_of_marks, faults_of_way)
                check_call(self, without, expected or slow_without(marks, way), marks, way)

    def test_no_mark_and_no_place(self):
        self.refuses([], [], -2)

    def test_each_number_beyond(self):
        for number in [GREATEST + 1, LEAST - 1, 2147483647, -2147483648]:
            for place in [(number, 0), (0, number)]:
                self.refuses([(3, 3), place], [(0, 1)], -8)
                self.refuses([(3, 3)], [(0, 1), place, (0, 1)], -8)

    def test_touching(self):
        for way in [[(5, 5)], [(5, 5), (9, 0)], [(9, 0), (5, 5)], [(5, 0), (5, 10)], [(0, 0), (10, 10), (0, 0)]]:
            self.refuses([(5, 5)], way, -9)

    def test_touching_at_a_place_that_would_be_left_out(self):
        self.refuses([(5, 5)], [(0, 0), (5, 5), (10, 0)], -9)
        self.refuses([(5, 5), (90, 90)], [(0, 0), (1, 0), (0, 5), (9, 5), (9, 9)], -9)


class WithoutBySlowAnswer(WithoutCase):
    def test_every_way_of_four_on_a_small_grid(self):
        marks = [(1, 1)]
        for one in [(0, 0), (0, 1), (2, 0)]:
            for two in grid(3):
                for three in grid(3):
                    for four in grid(3):
                        way = [one, two, three, four]
                        self.assertEqual(slow_without(marks, way), without(flat(marks), flat(way)), way)

    def test_drawn_ways_that_may_touch(self):
        for seed, reach in enumerate([4, 12, 60, GREATEST]):
            for marks, way in drawn_cases(80 + seed, 100, reach, 7, 12):
                check_call(self, without, slow_without(marks, way), marks, way)

    def test_drawn_ways_that_touch_none(self):
        source = Random(85)
        lengths = []
        for reach in [5, 9, 20, 60, GREATEST]:
            for case_number in range(60):
                marks = drawn_marks(source, reach, 9)
                way = drawn_free_way(source, marks, reach, 30)
                expected = slow_without(marks, way)
                check_call(self, without, expected, marks, way)
                if len(way) > 2:
                    lengths.append((len(way), expected[0]))
        self.assertGreater(len([1 for before, tight in lengths if 2 < tight < before]), 100)
        self.assertGreater(len([1 for before, tight in lengths if 2 == tight < before]), 20)


if __name__ == "__main__":
    unittest.main()
