import unittest
from random import Random

from peglines.ways import string, word
from tests.helping import (
    GREATEST, LEAST, MARKS_WITH_FAULTS, WAYS_WITH_FAULTS, check_call, drawn_cases, flat, refusal, slow_string, turned,
)

ROW = [(0, 0), (10, 0), (20, 0)]
MANY = [(10 * k, 0) for k in range(32)]


class StringCase(unittest.TestCase):
    def answers(self, marks, a, expected):
        check_call(self, string, expected, marks, a)

    def words_and_answers(self, marks, a, letters, expected):
        self.assertEqual([len(letters)] + letters, word(flat(marks), flat(a)))
        self.answers(marks, a, [len(expected)] + expected)


class OrdinaryString(StringCase):
    def test_no_letters_go_out(self):
        self.words_and_answers(ROW, [(-5, -5), (25, -5)], [1, 2, 3], [1, 2, 3])
        self.words_and_answers(ROW, [(25, -5), (-5, -5)], [-3, -2, -1], [-3, -2, -1])
        self.words_and_answers(ROW, [(-5, 5), (25, 5)], [], [])

    def test_all_letters_go_out(self):
        self.words_and_answers(ROW, [(-5, -5), (5, -5), (-5, -5)], [1, -1], [])
        self.words_and_answers(ROW, [(5, -5), (-5, -5), (5, -5)], [-1, 1], [])
        self.words_and_answers(ROW, [(-5, -5), (5, -5)] * 2 + [(-5, -5)], [1, -1, 1, -1], [])

    def test_some_letters_go_out(self):
        way = [(-5, -5), (15, -5), (5, -5), (5, 5), (-5, 5)]
        self.words_and_answers(ROW, way, [1, 2, -2], [1])
        self.words_and_answers(ROW, [(-5, -5), (5, -5), (-5, -5), (25, -5)], [1, -1, 1, 2, 3], [1, 2, 3])
        self.words_and_answers(ROW, [(5, -5), (15, -5), (-5, -5)], [2, -2, -1], [-1])

    def test_letters_come_together_when_others_are_out(self):
        self.words_and_answers(ROW, [(-5, -5), (15, -5), (-5, -5)], [1, 2, -2, -1], [])
        self.words_and_answers(ROW, [(-5, -5), (25, -5), (-5, -5)], [1, 2, 3, -3, -2, -1], [])
        way = [(-5, -5), (15, -5), (-5, -5), (-5, 5), (15, 5), (15, -5), (25, -5)]
        self.words_and_answers(ROW, way, [1, 2, -2, -1, 3], [3])
        way = [(5, -5), (15, -5), (25, -5), (15, -5), (15, 5), (25, 5), (25, -5), (5, -5), (-5, -5)]
        self.words_and_answers(ROW, way, [2, 3, -3, -3, -2, -1], [2, -3, -2, -1])

    def test_like_letters_stay(self):
        round_once = [(-5, -5), (5, -5), (5, 5), (-5, 5)]
        self.words_and_answers(ROW, round_once * 3, [1, 1, 1], [1, 1, 1])
        self.words_and_answers(ROW, (round_once * 3)[::-1], [-1, -1, -1], [-1, -1, -1])

    def test_letters_that_undo_one_another_stay_when_others_stand_between(self):
        way = [(-5, -5), (15, -5), (15, 5), (5, 5), (5, -5), (-5, -5)]
        self.words_and_answers(ROW, way, [1, 2, -1], [1, 2, -1])
        way = way + [(-5, 5), (5, 5), (5, -5), (15, -5), (15, 5)]
        self.words_and_answers(ROW, way, [1, 2, -1, 2], [1, 2, -1, 2])


class EdgesOfString(StringCase):
    def test_way_of_one_place(self):
        self.answers([(0, 0)], [(0, -3)], [0])
        self.answers([(0, 0)], [(LEAST, GREATEST)], [0])

    def test_steps_to_the_same_place(self):
        self.answers([(0, 0)], [(0, -3), (0, -3)], [0])
        self.answers([(0, 0)], [(-3, -3), (-3, -3), (0, -3), (0, -3), (3, -3)], [1, 1])

    def test_turning_on_the_line(self):
        self.words_and_answers([(0, 0)], [(-3, -3), (0, -3), (-3, -3)], [1, -1], [])
        self.words_and_answers([(0, 0)], [(3, -3), (0, -3), (3, -3)], [], [])

    def test_marks_with_the_same_x(self):
        marks = [(0, 0), (0, 10), (0, 5)]
        self.words_and_answers(marks, [(-4, -1), (4, -1), (-4, 3)], [1, 2, 3, -3, -2], [1])
        self.words_and_answers(marks, [(-4, 3), (4, 3), (-4, -9)], [2, 3, -3, -2, -1], [-1])
        self.words_and_answers(marks, [(-4, 7), (4, 7), (4, 3), (-4, 3)], [2, -3, -2], [2, -3, -2])

    def test_least_and_greatest_place(self):
        mark = (GREATEST, GREATEST)
        self.words_and_answers([mark], [(LEAST, LEAST), (GREATEST, LEAST), (LEAST, LEAST)], [1, -1], [])
        self.words_and_answers([mark], [(GREATEST, LEAST), (LEAST, LEAST), (LEAST, GREATEST)], [-1], [-1])

    def test_the_longest_way_to_and_fro(self):
        self.answers(MANY, [(-5, -5), (315, -5)] * 512, [32] + list(range(1, 33)))
        self.answers(MANY, [(-5, -5), (315, -5)] * 511 + [(-5, -5)], [0])

    def test_the_longest_way_round_and_round(self):
        way = [(-5, -5), (315, -5), (155, 400)] * 341 + [(-5, -5)]
        letters = list(range(1, 33)) * 341
        self.answers(MANY, way, [len(letters)] + letters)
        self.answers(MANY, way[::-1], [len(letters)] + turned(letters))

    def test_the_longest_way_back_as_it_came(self):
        there = ([(-5, -5), (315, -5), (155, 400)] * 171)[:512]
        self.assertGreater(word(flat(MANY), flat(there))[0], 5400)
        self.answers(MANY, there + there[::-1], [0])
        self.answers(MANY, there[::-1] + there, [0])


class RefusalsOfString(StringCase):
    def test_each_fault_and_each_two(self):
        source = Random(1)
        for marks, faults_of_marks in MARKS_WITH_FAULTS:
            for way, faults_of_way in WAYS_WITH_FAULTS:
                expected = refusal("count place touch", faults_of_marks, faults_of_way)
                self.answers(marks, way, expected or slow_string(marks, way, source))

    def test_no_mark_and_no_place(self):
        self.answers([], [], [-2])

    def test_each_number_beyond(self):
        for number in [GREATEST + 1, LEAST - 1, 2147483647, -2147483648]:
            for place in [(number, 0), (0, number)]:
                self.answers([(3, 3), place], [(0, 1)], [-8])
                self.answers([(3, 3)], [(0, 1), place], [-8])
                self.answers([(3, 3)], [place], [-8])

    def test_most_marks_and_most_places_are_taken(self):
        self.answers(MANY, [(1, 1)] * 1024, [0])
        self.answers(MANY + [(0, 1)], [(1, 1)] * 1024, [-2])
        self.answers(MANY, [(1, 1)] * 1025, [-2])

    def test_touching(self):
        for way in [[(5, 5)], [(5, 5), (9, 0)], [(9, 0), (5, 5)], [(5, 0), (5, 10)], [(0, 0), (10, 10), (0, 0)]]:
            self.answers([(5, 5)], way, [-9])


class StringBySlowAnswer(StringCase):
    def test_drawn_ways(self):
        source = Random(5)
        shortened = 0
        for seed, reach in enumerate([4, 12, 60, GREATEST]):
            for marks, way in drawn_cases(50 + seed, 150, reach, 7, 16):
                expected = slow_string(marks, way, source)
                self.answers(marks, way, expected)
                if expected != [-9] and expected[0] < word(flat(marks), flat(way))[0]:
                    shortened += 1
        self.assertGreater(shortened, 100)


if __name__ == "__main__":
    unittest.main()
