import unittest

from peglines.ways import touch
from tests.helping import GREATEST, LEAST, check_call, drawn_cases, grid, slow_touch


class TouchCase(unittest.TestCase):
    def answers(self, marks, a, expected):
        check_call(self, touch, expected, marks, a)


class OrdinaryTouch(TouchCase):
    def test_first_step_that_touches(self):
        self.answers([(5, 5)], [(0, 0), (0, 10), (10, 0), (0, 10)], [0, 1, 0])

    def test_step_counts_before_mark(self):
        self.answers([(9, 9), (1, 0)], [(0, 0), (2, 0), (9, 9)], [0, 0, 1])

    def test_least_mark_of_the_step_not_the_first_come_to(self):
        self.answers([(8, 0), (2, 0)], [(0, 0), (10, 0)], [0, 0, 0])
        self.answers([(5, 5), (8, 0), (2, 0)], [(0, 0), (10, 0)], [0, 0, 1])

    def test_passing_by_touches_none(self):
        self.answers([(5, 5)], [(0, 0), (10, 9)], [-3])
        self.answers([(5, 5), (3, 3)], [(0, 1), (10, 11), (10, 12)], [-3])

    def test_slanting_straights(self):
        self.answers([(3, 1)], [(0, 0), (6, 2)], [0, 0, 0])
        self.answers([(3, 1)], [(6, 2), (0, 0)], [0, 0, 0])
        self.answers([(-3, 2)], [(0, 0), (-6, 4)], [0, 0, 0])
        self.answers([(-3, 1)], [(0, 0), (-6, 4)], [-3])

    def test_crossing_the_hanging_line_touches_none(self):
        self.answers([(0, 0)], [(-5, -1), (5, -1)], [-3])


class EdgesOfTouch(TouchCase):
    def test_mark_at_an_end(self):
        self.answers([(4, 7)], [(4, 7), (9, 9)], [0, 0, 0])
        self.answers([(9, 9)], [(4, 7), (9, 9)], [0, 0, 0])

    def test_mark_at_an_inner_place_is_of_the_step_before(self):
        self.answers([(3, 3)], [(0, 0), (1, 3), (3, 3), (9, 0)], [0, 1, 0])

    def test_beyond_the_ends_of_the_straight(self):
        for mark in [(-1, -1), (4, 4)]:
            self.answers([mark], [(0, 0), (3, 3)], [-3])
            self.answers([mark], [(3, 3), (0, 0)], [-3])
        for mark in [(-1, 2), (4, 2)]:
            self.answers([mark], [(0, 2), (3, 2)], [-3])

    def test_straight_north_and_south_along_the_marks_x(self):
        self.answers([(2, 5)], [(2, 0), (2, 9)], [0, 0, 0])
        self.answers([(2, 5)], [(2, 9), (2, 0)], [0, 0, 0])
        self.answers([(2, 5)], [(2, 0), (2, 4)], [-3])
        self.answers([(2, 5)], [(2, 9), (2, 6)], [-3])

    def test_way_of_one_place(self):
        self.answers([(1, 1), (2, 2)], [(2, 2)], [0, 0, 1])
        self.answers([(1, 1), (2, 2)], [(2, 1)], [-3])

    def test_step_to_the_same_place(self):
        self.answers([(2, 2)], [(2, 2), (2, 2)], [0, 0, 0])
        self.answers([(2, 2)], [(2, 3), (2, 3)], [-3])
        self.answers([(2, 2)], [(0, 0), (0, 0), (2, 2)], [0, 1, 0])

    def test_several_marks_with_the_same_x(self):
        self.answers([(3, 9), (3, 2), (3, 5)], [(3, 0), (3, 6)], [0, 0, 1])
        self.answers([(3, 9), (3, 2), (3, 5)], [(3, 6), (3, 3)], [0, 0, 2])
        self.answers([(3, 9), (3, 2), (3, 5)], [(0, 5), (6, 5)], [0, 0, 2])

    def test_least_and_greatest_place(self):
        least, greatest = (LEAST, LEAST), (GREATEST, GREATEST)
        self.answers([greatest, least], [least], [0, 0, 1])
        self.answers([least, greatest], [greatest], [0, 0, 1])
        self.answers([(0, 0)], [least, greatest], [0, 0, 0])
        self.answers([(0, 0)], [(LEAST, GREATEST), (GREATEST, LEAST)], [0, 0, 0])

    def test_near_misses_on_the_longest_straights(self):
        self.answers([(LEAST + 1, LEAST + 1)], [(LEAST, LEAST), (GREATEST, GREATEST - 1)], [-3])
        self.answers([(LEAST + 1, LEAST + 1)], [(LEAST, LEAST), (GREATEST - 1, GREATEST)], [-3])
        self.answers([(GREATEST - 1, GREATEST - 1)], [(GREATEST, GREATEST), (LEAST, LEAST + 1)], [-3])

    def test_most_marks_and_most_places(self):
        marks = [(10 * k, 0) for k in range(32)]
        way = [(i % 2, 5) for i in range(1023)]
        self.answers(marks, way + [(310, 0)], [0, 1022, 31])
        self.answers(marks, way + [(310, 1)], [-3])


class RefusalsOfTouch(TouchCase):
    def test_counts(self):
        many = [(k, k) for k in range(50)]
        self.answers([], [(0, 0)], [-2])
        self.answers(many[:33], [(0, 9)], [-2])
        self.answers(many, [(0, 0)], [-2])
        self.answers([(0, 0)], [], [-2])
        self.answers([(0, 0)], [(0, 0)] * 1025, [-2])
        self.answers([(0, 0)], [(0, 0)] * 1100, [-2])
        self.answers([], [], [-2])

    def test_places_beyond(self):
        for number in [GREATEST + 1, LEAST - 1, 2147483647, -2147483648]:
            for place in [(number, 0), (0, number)]:
                self.answers([(3, 3), place], [(0, 1), (3, 3)], [-8])
                self.answers([(3, 3)], [(3, 3), place], [-8])
                self.answers([(3, 3)], [place, (3, 3)], [-8])

    def test_two_marks_at_one_place(self):
        self.answers([(1, 2), (3, 4), (1, 2)], [(1, 2), (0, 0)], [-8])
        self.answers([(1, 2), (2, 1)], [(2, 1)], [0, 0, 1])

    def test_counts_come_before_places(self):
        far = (GREATEST + 1, 0)
        self.answers([], [far], [-2])
        self.answers([far], [], [-2])
        self.answers([(1, 1), (1, 1)], [], [-2])
        self.answers([(1, 1)] * 33, [(0, 0)], [-2])
        self.answers([far] * 33, [(0, 0)], [-2])
        self.answers([(1, 1)], [far] * 1025, [-2])
        self.answers([(1, 1), (1, 1)], [(0, 0)] * 1025, [-2])

    def test_counts_come_before_none_found(self):
        self.answers([(k, 5) for k in range(33)], [(0, 0)], [-2])
        self.answers([(5, 5)], [(0, 0)] * 1025, [-2])

    def test_places_come_before_none_found(self):
        self.answers([(5, 5)], [(0, 0), (0, GREATEST + 1)], [-8])
        self.answers([(5, LEAST - 1)], [(0, 0)], [-8])
        self.answers([(5, 5), (5, 5)], [(0, 0)], [-8])


class TouchByFractions(unittest.TestCase):
    def test_every_step_on_a_small_grid(self):
        for mark in grid(4):
            for start in grid(4):
                for end in grid(4):
                    answered = touch(list(mark), list(start + end))
                    self.assertEqual(slow_touch([mark], [start, end]), answered, (mark, start, end))

    def test_drawn_ways(self):
        for seed, reach in enumerate([3, 12, 60, GREATEST]):
            for marks, way in drawn_cases(seed, 150, reach, 7, 12):
                check_call(self, touch, slow_touch(marks, way), marks, way)


if __name__ == "__main__":
    unittest.main()
