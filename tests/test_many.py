import unittest

from told import MANY, begins, everywhere, gone, last, mark, pillar, shown, told


class Many(unittest.TestCase):
    def test_halls_without_pillars(self):
        # In a square hall a setting has one lamp in each row and in each column.
        for side, count in [(1, 1), (2, 2), (3, 6), (4, 24)]:
            self.assertEqual(last(begins(side, side), MANY), [count, 2, count, count])
        for rows, columns, count in [(1, 4, 4), (4, 1, 4), (2, 3, 6), (3, 2, 6), (2, 4, 12), (3, 4, 24), (4, 3, 24)]:
            self.assertEqual(last(begins(rows, columns), MANY), [count, 2, count, count])

    def test_everywhere(self):
        # No cell is free: the one setting has no lamps, and is a way where each number is 0.
        for rows, columns in [(1, 1), (2, 3), (4, 4)]:
            self.assertEqual(last(*everywhere(rows, columns, 9), MANY), [1, 2, 1, 1])
            self.assertEqual(last(*everywhere(rows, columns, 0), MANY), [1, 2, 1, 1])
            for number in [1, 2, 3, 4]:
                self.assertEqual(last(*everywhere(rows, columns, number), MANY), [0, 2, 0, 1])
                calls = everywhere(rows, columns, 0) + [pillar(rows * columns - 1, number)]
                self.assertEqual(last(*calls, MANY), [0, 2, 0, 1])

    def test_light_ends_at_a_pillar_whatever_its_number(self):
        for number, ways in [(9, 1), (2, 1), (0, 0), (1, 0), (3, 0), (4, 0)]:
            self.assertEqual(last(begins(1, 3), pillar(1, number), MANY), [ways, 2, ways, 1])
            self.assertEqual(last(begins(3, 1), pillar(1, number), MANY), [ways, 2, ways, 1])

    def test_light_goes_straight_and_not_round_the_end_of_a_row(self):
        # Cells 2 and 3 of a hall of two rows and three columns are next to each other by number alone.
        self.assertEqual(last(begins(2, 3), mark(2, 1), mark(3, 1), MANY), [1, 2, 6, 6])

    def test_beside_is_not_round_the_end_of_a_row(self):
        # Beside cell 3 are 0 and 4, but not 2.
        self.assertEqual(shown(begins(2, 3), pillar(3)), [[0, 4], [0, 5], [1, 5], [2, 4]])
        self.assertEqual(shown(begins(2, 3), pillar(3, 0)), [[1, 5]])
        self.assertEqual(shown(begins(2, 3), pillar(3, 1)), [[0, 5], [2, 4]])
        self.assertEqual(shown(begins(2, 3), pillar(3, 2)), [[0, 4]])

    def test_a_number_in_a_corner(self):
        # Two settings: a lamp on cell 3, or one on each of the two cells beside the corner.
        self.assertEqual(last(begins(2, 2), pillar(0, 0), MANY), [1, 2, 1, 2])
        self.assertEqual(last(begins(2, 2), pillar(0, 1), MANY), [0, 2, 0, 2])
        self.assertEqual(last(begins(2, 2), pillar(0, 2), MANY), [1, 2, 1, 2])
        self.assertEqual(last(begins(2, 2), pillar(0, 3), MANY), [0, 2, 0, 2])
        self.assertEqual(last(begins(2, 2), pillar(0, 9), MANY), [2, 2, 2, 2])

    def test_a_pillar_beside_a_pillar_is_no_lamp(self):
        self.assertEqual(last(begins(1, 3), pillar(0, 0), pillar(1, 1), MANY), [1, 2, 1, 1])
        self.assertEqual(last(begins(1, 3), pillar(0, 1), pillar(1, 1), MANY), [0, 2, 0, 1])

    def test_marks_narrow_the_open_ways_alone(self):
        calls = [begins(2, 2), pillar(0, 0)]
        self.assertEqual(last(*calls, mark(3, 1), MANY), [1, 2, 1, 2])
        self.assertEqual(last(*calls, mark(3, 2), MANY), [0, 2, 1, 2])
        self.assertEqual(last(*calls, mark(1, 1), MANY), [0, 2, 1, 2])
        self.assertEqual(last(*calls, mark(1, 2), mark(2, 2), MANY), [1, 2, 1, 2])

    def test_no_way_and_marks(self):
        self.assertEqual(last(begins(2, 2), pillar(0, 4), mark(3, 1), MANY), [0, 2, 0, 2])

    def test_changes_nothing(self):
        calls = [begins(3, 3), pillar(4, 1), mark(0, 1)]
        once = last(*calls, MANY)
        self.assertEqual(told(*calls, MANY, MANY, MANY)[-3:], [once, once, once])
        self.assertEqual(last(*calls, MANY, gone(4)), [0])


if __name__ == "__main__":
    unittest.main()
