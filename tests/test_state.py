import itertools
import unittest

from told import FEWEST, LAMPS, MANY, STATE, SURE
from told import begins, everywhere, gone, last, lit, mark, pillar, show, told, try_out


class State(unittest.TestCase):
    def test_the_hall_at_its_beginning(self):
        self.assertEqual(told(STATE), [[0, 2, 1, 1, 0, 0, 0]])

    def test_behind_begins(self):
        for rows in range(1, 5):
            for columns in range(1, 5):
                self.assertEqual(last(begins(rows, columns), STATE), [0, 2, rows, columns, 0, 0, 0])

    def test_begins_makes_all_new(self):
        calls = [begins(2, 3), pillar(0, 2), mark(1, 1), mark(2, 2)]
        self.assertEqual(last(*calls, begins(3, 2), STATE), [0, 2, 3, 2, 0, 0, 0])

    def test_pillars_everywhere(self):
        pillars = [number for cell in range(16) for number in (cell, 9)]
        self.assertEqual(last(*everywhere(4, 4, 9), STATE), [16, 2, 4, 4, 32] + pillars + [0, 0])
        self.assertEqual(told(pillar(0, 4), STATE), [[1], [1, 2, 1, 1, 2, 0, 4, 0, 0]])

    def test_each_number_of_a_pillar(self):
        for number in [0, 1, 2, 3, 4, 9]:
            self.assertEqual(last(begins(2, 2), pillar(3, number), STATE), [1, 2, 2, 2, 2, 3, number, 0, 0])

    def test_pillars_rise_in_whatever_order_they_came(self):
        numbers = {1: 4, 4: 9, 5: 0}
        for cells in itertools.permutations(numbers):
            calls = [begins(2, 3)] + [pillar(cell, numbers[cell]) for cell in cells]
            self.assertEqual(last(*calls, STATE), [3, 2, 2, 3, 6, 1, 4, 4, 9, 5, 0, 0, 0])

    def test_a_pillar_told_a_second_time_has_the_other_number(self):
        calls = [begins(2, 2), pillar(2, 1), pillar(0, 2), pillar(2, 3)]
        self.assertEqual(last(*calls, STATE), [2, 2, 2, 2, 4, 0, 2, 2, 3, 0, 0])
        self.assertEqual(last(*calls, pillar(0), STATE), [2, 2, 2, 2, 4, 0, 9, 2, 3, 0, 0])

    def test_a_pillar_that_is_gone(self):
        calls = [begins(2, 2), pillar(2, 1), pillar(0, 2), gone(2)]
        self.assertEqual(last(*calls, STATE), [1, 2, 2, 2, 2, 0, 2, 0, 0])
        self.assertEqual(last(*calls, gone(0), STATE), [0, 2, 2, 2, 0, 0, 0])
        self.assertEqual(last(*calls, pillar(2), STATE), [2, 2, 2, 2, 4, 0, 2, 2, 9, 0, 0])

    def test_marks_with_a_lamp_stand_before_those_without(self):
        self.assertEqual(last(begins(2, 2), mark(3, 1), mark(0, 2), STATE), [0, 2, 2, 2, 0, 1, 3, 1, 0])
        self.assertEqual(last(begins(2, 2), mark(3, 2), mark(0, 1), STATE), [0, 2, 2, 2, 0, 1, 0, 1, 3])
        self.assertEqual(last(begins(2, 2), mark(3, 1), STATE), [0, 2, 2, 2, 0, 1, 3, 0])
        self.assertEqual(last(begins(2, 2), mark(3, 2), STATE), [0, 2, 2, 2, 0, 0, 1, 3])

    def test_marks_rise_in_whatever_order_they_came(self):
        for marks in itertools.permutations([mark(0, 1), mark(2, 2), mark(4, 1), mark(5, 2)]):
            self.assertEqual(last(begins(2, 3), *marks, STATE), [0, 2, 2, 3, 0, 2, 0, 4, 2, 2, 5])

    def test_a_mark_told_a_second_time_stands_instead(self):
        calls = [begins(2, 2), mark(3, 1), mark(1, 1)]
        self.assertEqual(last(*calls, mark(3, 2), STATE), [0, 2, 2, 2, 0, 1, 1, 1, 3])
        self.assertEqual(last(*calls, mark(3, 1), STATE), [0, 2, 2, 2, 0, 2, 1, 3, 0])
        self.assertEqual(last(*calls, mark(3, 0), STATE), [0, 2, 2, 2, 0, 1, 1, 0])
        self.assertEqual(last(*calls, mark(3, 2), mark(3, 1), STATE), [0, 2, 2, 2, 0, 2, 1, 3, 0])

    def test_pillars_and_marks_together(self):
        calls = [begins(3, 4), mark(11, 2), pillar(8, 0), mark(2, 1), pillar(3), mark(0, 2)]
        self.assertEqual(last(*calls, STATE), [2, 2, 3, 4, 4, 3, 9, 8, 0, 1, 2, 2, 0, 11])

    def test_a_refusal_changes_nothing(self):
        calls = [begins(2, 3), pillar(4, 2), pillar(0), mark(1, 1), mark(5, 2)]
        once = [2, 2, 2, 3, 4, 0, 9, 4, 2, 1, 1, 1, 5]
        self.assertEqual(last(*calls, STATE), once)
        refused = [
            begins(0, 3), begins(2, 5), pillar(6, 0), pillar(4, 5), pillar(1, 0), gone(6), gone(1), mark(6, 1),
            mark(1, 3), mark(4, 1), show(0), SURE, try_out(1, 1), FEWEST, LAMPS, lit(0), lit(6),
        ]
        for call in refused:
            self.assertLess(last(*calls, call)[0], 0, call)
            self.assertEqual(last(*calls, call, STATE), once, call)

    def test_calls_that_ask_change_nothing(self):
        calls = [begins(2, 2), pillar(0, 2), mark(2, 1), mark(3, 2)]
        once = [1, 2, 2, 2, 2, 0, 2, 1, 2, 1, 3]
        for call in [MANY, show(0), SURE, try_out(1, 2), try_out(), FEWEST, LAMPS, lit(1), lit(), STATE]:
            self.assertGreaterEqual(last(*calls, call)[0], 0, call)
            self.assertEqual(last(*calls, call, STATE), once, call)


if __name__ == "__main__":
    unittest.main()
