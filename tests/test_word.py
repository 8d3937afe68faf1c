import unittest

from peglines.ways import word
from tests.helping import GREATEST, LEAST, check_call, drawn_cases, flat, grid, slow_word, turned


class WordCase(unittest.TestCase):
    def answers(self, marks, a, expected):
        check_call(self, word, expected, marks, a)


class OrdinaryWord(WordCase):
    marks = [(0, 0), (10, 5), (20, 0)]

    def test_below_all_marks(self):
        self.answers(self.marks, [(-5, -5), (25, -5)], [3, 1, 2, 3])
        self.answers(self.marks, [(25, -5), (-5, -5)], [3, -3, -2, -1])

    def test_above_all_marks(self):
        self.answers(self.marks, [(-5, 8), (25, 8)], [0])
        self.answers(self.marks, [(25, 8), (-5, 8)], [0])

    def test_below_some_marks(self):
        self.answers(self.marks, [(-5, 2), (25, 2)], [1, 2])
        self.answers(self.marks, [(-5, -4), (25, 8)], [2, 1, 2])
        self.answers(self.marks, [(25, 8), (-5, -4)], [2, -2, -1])
        self.answers(self.marks, [(5, -5), (15, -5)], [1, 2])

    def test_steps_one_behind_another(self):
        way = [(-5, -5), (15, -5), (15, 9), (-5, 9), (-5, -5), (5, -5)]
        self.answers(self.marks, way, [3, 1, 2, 1])

    def test_what_undoes_itself_stays_in_the_word(self):
        self.answers(self.marks, [(-5, -5), (5, -5), (-5, -5)], [2, 1, -1])

    def test_slant_decides_at_the_marks_x(self):
        self.answers([(2, 10)], [(0, 0), (10, 49)], [1, 1])
        self.answers([(2, 10)], [(0, 0), (10, 51)], [0])
        self.answers([(2, 10)], [(10, 49), (0, 0)], [1, -1])
        self.answers([(8, -10)], [(0, 40), (10, -24)], [1, 1])
        self.answers([(8, -10)], [(0, 40), (10, -20)], [0])


class EdgesOfWord(WordCase):
    def test_an_end_below_the_mark_counts_as_not_west(self):
        self.answers([(0, 0)], [(-5, -5), (0, -5)], [1, 1])
        self.answers([(0, 0)], [(0, -5), (5, -5)], [0])
        self.answers([(0, 0)], [(5, -5), (0, -5)], [0])
        self.answers([(0, 0)], [(0, -5), (-5, -5)], [1, -1])
        self.answers([(0, 0)], [(-5, -5), (0, -5), (5, -5)], [1, 1])
        self.answers([(0, 0)], [(5, -5), (0, -5), (-5, -5)], [1, -1])
        self.answers([(0, 0)], [(-5, -5), (0, -5), (-5, -5)], [2, 1, -1])

    def test_an_end_above_the_mark(self):
        self.answers([(0, 0)], [(-5, -5), (0, 1)], [0])
        self.answers([(0, 0)], [(0, 1), (-5, -5)], [0])

    def test_straight_north_and_south_along_the_marks_x(self):
        self.answers([(0, 0)], [(0, -9), (0, -1)], [0])
        self.answers([(0, 0)], [(0, -1), (0, -9)], [0])
        self.answers([(0, 0)], [(-1, -9), (0, -9), (0, -1), (1, -1)], [1, 1])

    def test_way_of_one_place(self):
        self.answers([(0, 0)], [(0, -3)], [0])
        self.answers([(0, 0)], [(-4, 2)], [0])

    def test_step_to_the_same_place(self):
        self.answers([(0, 0)], [(0, -3), (0, -3)], [0])
        self.answers([(0, 0)], [(-3, -3), (-3, -3), (3, -3), (3, -3)], [1, 1])

    def test_several_marks_with_the_same_x(self):
        marks = [(0, 0), (0, 10), (0, 5)]
        self.answers(marks, [(-4, -1), (4, -1)], [3, 1, 2, 3])
        self.answers(marks, [(4, -1), (-4, -1)], [3, -3, -2, -1])
        self.answers(marks, [(-4, 3), (4, 3)], [2, 2, 3])
        self.answers(marks, [(4, 3), (-4, 3)], [2, -3, -2])

    def test_lines_are_come_to_by_x_then_by_number(self):
        marks = [(5, 0), (0, 0), (5, 3), (0, 9)]
        self.answers(marks, [(-4, -1), (9, -1)], [4, 2, 4, 1, 3])
        self.answers(marks, [(9, -1), (-4, -1)], [4, -3, -1, -4, -2])

    def test_least_and_greatest_place(self):
        self.answers([(LEAST, GREATEST)], [(LEAST, LEAST), (GREATEST, LEAST)], [0])
        self.answers([(GREATEST, GREATEST)], [(LEAST, LEAST), (GREATEST, LEAST)], [1, 1])
        self.answers([(GREATEST, GREATEST)], [(GREATEST, LEAST), (LEAST, LEAST)], [1, -1])
        self.answers([(GREATEST, LEAST)], [(LEAST, GREATEST), (GREATEST, GREATEST)], [0])

    def test_near_misses_on_the_longest_straights(self):
        mark = (LEAST + 1, LEAST + 1)
        below = [(LEAST, LEAST), (GREATEST, GREATEST - 1)]
        above = [(LEAST, LEAST), (GREATEST - 1, GREATEST)]
        self.answers([mark], below, [1, 1])
        self.answers([mark], below[::-1], [1, -1])
        self.answers([mark], above, [0])
        self.answers([mark], above[::-1], [0])

    def test_most_marks_and_most_places(self):
        marks = [(10 * k, 0) for k in range(32)]
        east = list(range(1, 33))
        west = [-letter for letter in reversed(east)]
        way = [(-5, -5), (315, -5)] * 512
        self.answers(marks, way, [1023 * 32] + (east + west) * 511 + east)


class RefusalsOfWord(WordCase):
    def test_counts(self):
        many = [(k, 5) for k in range(50)]
        self.answers([], [(0, 0)], [-2])
        self.answers(many[:33], [(0, 0)], [-2])
        self.answers(many, [(0, 0)], [-2])
        self.answers([(5, 5)], [], [-2])
        self.answers([(5, 5)], [(0, 0)] * 1025, [-2])
        self.answers([(5, 5)], [(0, 0)] * 1100, [-2])
        self.answers([], [], [-2])

    def test_places_beyond(self):
        for number in [GREATEST + 1, LEAST - 1, 2147483647, -2147483648]:
            for place in [(number, 0), (0, number)]:
                self.answers([(3, 3), place], [(0, 1)], [-8])
                self.answers([(3, 3)], [(0, 1), place], [-8])
                self.answers([(3, 3)], [place, (0, 1)], [-8])

    def test_two_marks_at_one_place(self):
        self.answers([(1, 2), (3, 4), (1, 2)], [(0, 0), (5, 0)], [-8])
        self.answers([(1, 2), (2, 1)], [(0, 0), (5, 0)], [2, 1, 2])

    def test_touching(self):
        self.answers([(5, 5)], [(5, 5), (9, 0)], [-9])
        self.answers([(5, 5)], [(9, 0), (5, 5)], [-9])
        self.answers([(5, 5)], [(0, 0), (10, 10)], [-9])
        self.answers([(5, 5)], [(5, 0), (5, 10)], [-9])
        self.answers([(5, 5)], [(5, 5)], [-9])
        self.answers([(5, 5)], [(5, 5), (5, 5)], [-9])
        self.answers([(9, 9), (5, 5)], [(0, 0), (0, 5), (9, 5)], [-9])

    def test_counts_come_before_places(self):
        far = (GREATEST + 1, 0)
        self.answers([], [far], [-2])
        self.answers([far], [], [-2])
        self.answers([(1, 1), (1, 1)], [], [-2])
        self.answers([(1, 1)] * 33, [(0, 0)], [-2])
        self.answers([far] * 33, [(0, 0)], [-2])
        self.answers([(1, 1)], [far] * 1025, [-2])
        self.answers([(1, 1), (1, 1)], [(0, 0)] * 1025, [-2])

    def test_counts_come_before_touching(self):
        self.answers([(k, 0) for k in range(33)], [(0, 0), (9, 0)], [-2])
        self.answers([(0, 0)], [(0, 0)] * 1025, [-2])

    def test_places_come_before_touching(self):
        self.answers([(5, 5)], [(5, 5), (0, GREATEST + 1)], [-8])
        self.answers([(5, 5), (5, LEAST - 1)], [(5, 5)], [-8])
        self.answers([(5, 5), (5, 5)], [(5, 5)], [-8])


class WordByFractions(unittest.TestCase):
    def test_every_step_on_a_small_grid(self):
        for mark in grid(4):
            for start in grid(4):
                for end in grid(4):
                    answered = word(list(mark), list(start + end))
                    self.assertEqual(slow_word([mark], [start, end]), answered, (mark, start, end))

    def test_drawn_ways(self):
        for seed, reach in enumerate([3, 12, 60, GREATEST]):
            for marks, way in drawn_cases(seed, 150, reach, 7, 12):
                check_call(self, word, slow_word(marks, way), marks, way)

    def test_turned_round_and_parted(self):
        untouching = 0
        for marks, way in drawn_cases(11, 300, 200, 9, 14):
            whole = slow_word(marks, way)
            if whole != [-9]:
                untouching += 1
                check_call(self, word, whole[:1] + turned(whole[1:]), marks, way[::-1])
                middle = len(way) // 2
                parts = [word(flat(marks), flat(part)) for part in (way[: middle + 1], way[middle:])]
                self.assertEqual(whole[1:], parts[0][1:] + parts[1][1:])
        self.assertGreater(untouching, 200)


if __name__ == "__main__":
    unittest.main()
