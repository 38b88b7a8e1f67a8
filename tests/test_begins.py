import unittest

from told import MANY, begins, gone, last, mark, pillar, show, shown, told

LARGE = [5, 6, 9, 16, 2 ** 16, 2 ** 31, 2 ** 32 - 1]


class HallAtItsBeginning(unittest.TestCase):
    def test_is_one_free_cell(self):
        self.assertEqual(told(MANY, show(0), show(1)), [[1, 2, 1, 1], [1, 1, 0], [-2]])

    def test_has_cell_0_alone(self):
        self.assertEqual(told(mark(0, 1), mark(1, 1), pillar(1)), [[0], [-2], [-2]])

    def test_has_no_pillar(self):
        self.assertEqual(told(gone(0), pillar(0), MANY), [[-4], [1], [1, 2, 1, 1]])


class Begins(unittest.TestCase):
    def test_tells_the_cells_of_every_size(self):
        for rows in range(1, 5):
            for columns in range(1, 5):
                self.assertEqual(told(begins(rows, columns)), [[rows * columns]])

    def test_the_cells_are_there_and_no_more(self):
        for rows in range(1, 5):
            for columns in range(1, 5):
                end = rows * columns
                self.assertEqual(last(begins(rows, columns), pillar(end - 1)), [1])
                self.assertEqual(last(begins(rows, columns), pillar(end)), [-2])

    def test_rows_come_before_columns(self):
        # The pillar on cell 4 stands at the left end of the last row of 2, or of the third row of 4.
        self.assertEqual(last(begins(2, 4), pillar(4), mark(0, 1), MANY), [3, 2, 9, 9])
        self.assertEqual(shown(begins(2, 4), pillar(4), mark(0, 1)), [[0, 5], [0, 6], [0, 7]])
        self.assertEqual(last(begins(4, 2), pillar(4), mark(0, 1), MANY), [3, 2, 6, 6])
        self.assertEqual(shown(begins(4, 2), pillar(4), mark(0, 1)), [[0, 3, 6], [0, 5, 6], [0, 7]])

    def test_refuses_0_rows_or_columns(self):
        for rows, columns in [(0, 0), (0, 1), (1, 0), (0, 4), (4, 0), (0, 5), (5, 0)]:
            self.assertEqual(told(begins(rows, columns)), [[-1]])

    def test_refuses_more_than_4(self):
        for large in LARGE:
            self.assertEqual(told(begins(large, 1), begins(1, large)), [[-1], [-1]])
            self.assertEqual(told(begins(large, 4), begins(4, large), begins(large, large)), [[-1]] * 3)

    def test_all_is_new(self):
        calls = [begins(2, 2), pillar(0, 1), pillar(3), mark(1, 1), mark(2, 2)]
        self.assertEqual(last(*calls, begins(2, 2), MANY), [2, 2, 2, 2])
        self.assertEqual(shown(*calls, begins(2, 2)), [[0, 3], [1, 2]])
        self.assertEqual(last(*calls, begins(2, 2), gone(0)), [-4])
        self.assertEqual(last(*calls, begins(2, 2), pillar(2)), [1])
        self.assertEqual(last(*calls, begins(1, 1), mark(1, 0)), [-2])

    def test_all_is_as_it_was_behind_a_refusal(self):
        calls = [begins(2, 3), pillar(0, 1), pillar(5), mark(1, 1), mark(4, 2)]
        for refused in [begins(0, 2), begins(2, 0), begins(5, 1), begins(1, 2 ** 32 - 1)]:
            self.assertEqual(last(*calls, refused), [-1])
            self.assertEqual(shown(*calls, refused), shown(*calls))
            self.assertEqual(last(*calls, refused, MANY), last(*calls, MANY))
            self.assertEqual(last(*calls, refused, gone(0)), [1])
            self.assertEqual(last(*calls, refused, pillar(1)), [-4])
            self.assertEqual(told(*calls, refused, mark(5, 0), mark(6, 0))[-2:], [[-4], [-2]])


if __name__ == "__main__":
    unittest.main()
