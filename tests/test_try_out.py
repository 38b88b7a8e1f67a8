import itertools
import unittest

from told import MANY, STATE, begins, everywhere, last, mark, pillar, told, try_out

NO_CELLS = [4, 5, 16, 59, 2 ** 16, 2 ** 31, 2 ** 32 - 1]
A_WAY = [0]
NOT_FREE = [1]
LIT_BY_ANOTHER = [2]
DARK = [3]
MISSED = [4]
TWICE = [-1]


def tried(calls, *cells):
    return last(*calls, try_out(*cells))


class TryOut(unittest.TestCase):
    def test_the_hall_at_its_beginning(self):
        calls = [try_out(0), try_out(), try_out(1), try_out(0, 1), try_out(0, 0)]
        self.assertEqual(told(*calls), [A_WAY, DARK, NOT_FREE, NOT_FREE, TWICE])

    def test_pillars_everywhere(self):
        for rows, columns in [(1, 1), (2, 3), (4, 4)]:
            for number in [0, 9]:
                self.assertEqual(tried(everywhere(rows, columns, number)), A_WAY)
            for number in [1, 2, 3, 4]:
                self.assertEqual(tried(everywhere(rows, columns, number)), MISSED)
                self.assertEqual(tried(everywhere(rows, columns, number), 0), NOT_FREE)

    def test_a_way(self):
        self.assertEqual(tried([begins(4, 4)], 0, 5, 10, 15), A_WAY)
        self.assertEqual(tried([begins(2, 2), pillar(0, 2)], 1, 2), A_WAY)
        self.assertEqual(tried([begins(1, 3), pillar(1, 2)], 0, 2), A_WAY)

    def test_cells_in_any_order(self):
        for cells in itertools.permutations([3, 4, 9, 14]):
            self.assertEqual(tried([begins(4, 4)], *cells), A_WAY)
        for cells in itertools.permutations([0, 5, 11]):
            self.assertEqual(tried([begins(4, 4)], *cells), DARK)
        for cells in itertools.permutations([0, 5, 13]):
            self.assertEqual(tried([begins(4, 4)], *cells), LIT_BY_ANOTHER)
        for cells in itertools.permutations([0, 3, 99]):
            self.assertEqual(tried([begins(2, 2)], *cells), NOT_FREE)
        for cells in itertools.permutations([3, 0, 3]):
            self.assertEqual(tried([begins(2, 2)], *cells), TWICE)

    def test_a_cell_that_is_not_there(self):
        for cell in NO_CELLS:
            self.assertEqual(tried([begins(2, 2)], cell), NOT_FREE)
            self.assertEqual(tried([begins(2, 2)], 0, 3, cell), NOT_FREE)
            self.assertEqual(tried([begins(2, 2)], cell, 0, 3), NOT_FREE)

    def test_a_cell_with_a_pillar(self):
        for number in [0, 1, 2, 9]:
            self.assertEqual(tried([begins(2, 2), pillar(0, number)], 0), NOT_FREE)
            self.assertEqual(tried([begins(2, 2), pillar(0, number)], 1, 2, 0), NOT_FREE)

    def test_one_lit_by_another(self):
        self.assertEqual(tried([begins(4, 4)], 0, 3), LIT_BY_ANOTHER)
        self.assertEqual(tried([begins(4, 4)], 0, 12), LIT_BY_ANOTHER)
        self.assertEqual(tried([begins(4, 4)], 0, 5, 10, 15, 1), LIT_BY_ANOTHER)
        self.assertEqual(tried([begins(4, 4)], *range(16)), LIT_BY_ANOTHER)

    def test_a_pillar_between_two_keeps_the_light_off(self):
        self.assertEqual(tried([begins(1, 3)], 0, 2), LIT_BY_ANOTHER)
        self.assertEqual(tried([begins(1, 3), pillar(1)], 0, 2), A_WAY)
        self.assertEqual(tried([begins(3, 1)], 0, 2), LIT_BY_ANOTHER)
        self.assertEqual(tried([begins(3, 1), pillar(1)], 0, 2), A_WAY)

    def test_a_cell_that_is_not_lit(self):
        self.assertEqual(tried([begins(4, 4)]), DARK)
        self.assertEqual(tried([begins(4, 4)], 0, 5, 10), DARK)
        self.assertEqual(tried([begins(1, 3), pillar(1)], 0), DARK)

    def test_no_cell_at_all(self):
        self.assertEqual(tried([begins(4, 4)]), DARK)
        self.assertEqual(tried([pillar(0)]), A_WAY)
        self.assertEqual(tried([pillar(0, 0)]), A_WAY)
        self.assertEqual(tried([pillar(0, 1)]), MISSED)

    def test_a_number_that_is_missed(self):
        # Round the corner there are two lamps or none.
        for number, one_lamp, two_lamps in [(0, A_WAY, MISSED), (1, MISSED, MISSED), (2, MISSED, A_WAY)]:
            self.assertEqual(tried([begins(2, 2), pillar(0, number)], 3), one_lamp)
            self.assertEqual(tried([begins(2, 2), pillar(0, number)], 1, 2), two_lamps)
        for number in [3, 4]:
            self.assertEqual(tried([begins(2, 2), pillar(0, number)], 3), MISSED)
            self.assertEqual(tried([begins(2, 2), pillar(0, number)], 1, 2), MISSED)

    def test_a_pillar_without_a_number_asks_for_nothing(self):
        self.assertEqual(tried([begins(2, 2), pillar(0)], 3), A_WAY)
        self.assertEqual(tried([begins(2, 2), pillar(0)], 1, 2), A_WAY)
        self.assertEqual(tried([begins(2, 2), pillar(0, 1), pillar(0)], 3), A_WAY)

    def test_each_number_counts(self):
        self.assertEqual(tried([begins(1, 3), pillar(1, 2)], 0, 2), A_WAY)
        self.assertEqual(tried([begins(3, 3), pillar(0, 1), pillar(8, 1)], 1, 5, 6), A_WAY)
        self.assertEqual(tried([begins(3, 3), pillar(0, 1), pillar(8, 2)], 1, 5, 6), MISSED)
        self.assertEqual(tried([begins(3, 3), pillar(0, 2), pillar(8, 1)], 1, 5, 6), MISSED)

    def test_refuses_a_cell_that_is_told_twice(self):
        for cells in [(0, 0), (0, 3, 0), (3, 0, 3, 0), (1, 1, 1), [2] * 60]:
            self.assertEqual(tried([begins(2, 2)], *cells), TWICE)

    def test_sixty_numbers(self):
        self.assertEqual(tried([begins(4, 4)], *range(60)), NOT_FREE)
        self.assertEqual(tried([begins(4, 4)], *range(59), 0), TWICE)
        self.assertEqual(tried([begins(4, 4)], *range(100, 160)), NOT_FREE)

    def test_tells_twice_before_all_else(self):
        self.assertEqual(tried([begins(2, 2)], 99, 99), TWICE)
        self.assertEqual(tried([begins(2, 2)], 2 ** 32 - 1, 0, 2 ** 32 - 1), TWICE)
        self.assertEqual(tried([begins(2, 2)], 99, 0, 0), TWICE)
        self.assertEqual(tried([begins(2, 2), pillar(0, 4)], 0, 0), TWICE)
        self.assertEqual(tried([begins(2, 2), pillar(0, 4)], 1, 1), TWICE)

    def test_tells_the_first_that_is_wrong(self):
        # The pillar's number is missed in each of these; a cell is dark in all but the last two.
        calls = [begins(3, 3), pillar(0, 4)]
        self.assertEqual(tried(calls, 3, 4, 99), NOT_FREE)
        self.assertEqual(tried(calls, 3, 4, 0), NOT_FREE)
        self.assertEqual(tried(calls, 8, 9), NOT_FREE)
        self.assertEqual(tried(calls, 3, 4), LIT_BY_ANOTHER)
        self.assertEqual(tried(calls, 8), DARK)
        self.assertEqual(tried(calls), DARK)
        self.assertEqual(tried(calls, 1, 3, 8, 5), LIT_BY_ANOTHER)
        self.assertEqual(tried(calls, 1, 3, 8), MISSED)

    def test_marks_count_for_nothing(self):
        for marks in [[mark(0, 2)], [mark(1, 1)], [mark(0, 1), mark(1, 1)], [mark(0, 2), mark(3, 2)]]:
            calls = [begins(2, 2)] + marks
            self.assertEqual(tried(calls, 0, 3), A_WAY)
            self.assertEqual(tried(calls, 1, 2), A_WAY)
            self.assertEqual(tried(calls, 0, 1), LIT_BY_ANOTHER)
            self.assertEqual(tried(calls, 0), DARK)
            self.assertEqual(tried(calls), DARK)

    def test_all_is_as_it_was(self):
        calls = [begins(2, 2), pillar(0, 2), mark(1, 1), mark(3, 2)]
        for cells in [(1, 2), (0,), (1, 3), (1,), (3,), (3, 3), (99,)]:
            self.assertEqual(last(*calls, try_out(*cells), STATE), last(*calls, STATE))
            self.assertEqual(last(*calls, try_out(*cells), MANY), last(*calls, MANY))
            self.assertEqual(last(*calls, try_out(*cells), try_out(1, 2)), A_WAY)


if __name__ == "__main__":
    unittest.main()
