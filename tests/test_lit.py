import itertools
import unittest

from told import MANY, STATE, begins, everywhere, gone, last, lit, mark, pillar, told

NO_CELLS = [4, 5, 16, 59, 2 ** 16, 2 ** 31, 2 ** 32 - 1]
NOT_FREE = [-2]


def lit_by(calls, *cells):
    """The cells that are lit, once the answer has told how many there are."""
    answer = last(*calls, lit(*cells))
    assert answer[0] == answer[1] == len(answer) - 2, answer
    return answer[2:]


class Lit(unittest.TestCase):
    def test_the_hall_at_its_beginning(self):
        self.assertEqual(told(lit(), lit(0), lit(0, 0), lit(1)), [[0, 0], [1, 1, 0], [1, 1, 0], NOT_FREE])

    def test_pillars_everywhere(self):
        for number in [0, 2, 9]:
            self.assertEqual(last(*everywhere(4, 4, number), lit()), [0, 0])
            for cell in range(17):
                self.assertEqual(last(*everywhere(4, 4, number), lit(cell)), NOT_FREE)

    def test_one_lamp_lights_its_row_and_its_column(self):
        self.assertEqual(last(begins(4, 4), lit(5)), [7, 7, 1, 4, 5, 6, 7, 9, 13])
        self.assertEqual(lit_by([begins(4, 4)], 0), [0, 1, 2, 3, 4, 8, 12])
        self.assertEqual(lit_by([begins(4, 4)], 15), [3, 7, 11, 12, 13, 14, 15])
        self.assertEqual(lit_by([begins(2, 3)], 2), [0, 1, 2, 5])
        self.assertEqual(lit_by([begins(3, 2)], 2), [0, 2, 3, 4])

    def test_light_ends_at_a_pillar_whatever_its_number(self):
        for number in [0, 3, 9]:
            self.assertEqual(lit_by([begins(4, 4), pillar(6, number)], 5), [1, 4, 5, 9, 13])
            self.assertEqual(lit_by([begins(4, 4), pillar(6, number), pillar(9, number)], 5), [1, 4, 5])
            self.assertEqual(lit_by([begins(4, 4), pillar(1, number), pillar(4, number)], 5), [5, 6, 7, 9, 13])
            self.assertEqual(lit_by([begins(1, 4), pillar(2, number)], 0), [0, 1])
            self.assertEqual(lit_by([begins(4, 1), pillar(2, number)], 3), [3])

    def test_a_pillar_that_is_gone_lets_the_light_by(self):
        self.assertEqual(lit_by([begins(1, 4), pillar(2), gone(2)], 0), [0, 1, 2, 3])

    def test_several_lamps(self):
        self.assertEqual(lit_by([begins(4, 4)], 0, 5), [0, 1, 2, 3, 4, 5, 6, 7, 8, 9, 12, 13])
        self.assertEqual(lit_by([begins(4, 4)], 0, 5, 10, 15), list(range(16)))
        self.assertEqual(lit_by([begins(4, 4)], *range(16)), list(range(16)))

    def test_lamps_may_stand_in_one_another_s_light(self):
        self.assertEqual(lit_by([begins(3, 3)], 0, 1), [0, 1, 2, 3, 4, 6, 7])

    def test_cells_in_any_order(self):
        for cells in itertools.permutations([0, 5, 6]):
            self.assertEqual(lit_by([begins(4, 4)], *cells), [0, 1, 2, 3, 4, 5, 6, 7, 8, 9, 10, 12, 13, 14])

    def test_no_cell(self):
        self.assertEqual(last(begins(4, 4), lit()), [0, 0])
        self.assertEqual(last(begins(4, 4), pillar(0, 2), mark(1, 1), lit()), [0, 0])

    def test_a_cell_told_twice_is_one(self):
        self.assertEqual(lit_by([begins(4, 4)], 5, 5), [1, 4, 5, 6, 7, 9, 13])
        self.assertEqual(lit_by([begins(3, 3)], 0, 4, 0), [0, 1, 2, 3, 4, 5, 6, 7])

    def test_sixty_numbers(self):
        self.assertEqual(lit_by([begins(4, 4)], *[5] * 60), [1, 4, 5, 6, 7, 9, 13])
        self.assertEqual(lit_by([begins(4, 4)], *[cell % 16 for cell in range(60)]), list(range(16)))
        self.assertEqual(last(begins(4, 4), lit(*range(60))), NOT_FREE)
        self.assertEqual(last(begins(4, 4), lit(*[5] * 59, 16)), NOT_FREE)

    def test_refuses_a_cell_with_a_pillar(self):
        for number in [0, 1, 9]:
            for cells in [(0,), (0, 3), (3, 0), (3, 0, 3)]:
                self.assertEqual(last(begins(2, 2), pillar(0, number), lit(*cells)), NOT_FREE)

    def test_refuses_a_cell_that_is_not_there(self):
        for cell in NO_CELLS:
            for cells in [(cell,), (cell, 0), (0, cell), (cell, cell)]:
                self.assertEqual(last(begins(2, 2), lit(*cells)), NOT_FREE)

    def test_marks_count_for_nothing(self):
        for how in [1, 2]:
            self.assertEqual(lit_by([begins(2, 2), mark(0, how)], 0), [0, 1, 2])
            self.assertEqual(lit_by([begins(2, 2), mark(0, how)], 3), [1, 2, 3])

    def test_all_is_as_it_was(self):
        calls = [begins(2, 2), pillar(0, 2), mark(1, 1), mark(3, 2)]
        for cells in [(), (1,), (3, 3), (1, 2, 3), (0,), (99,)]:
            self.assertEqual(last(*calls, lit(*cells), STATE), last(*calls, STATE))
            self.assertEqual(last(*calls, lit(*cells), MANY), last(*calls, MANY))
            self.assertEqual(last(*calls, lit(*cells), lit(1)), [2, 2, 1, 3])


if __name__ == "__main__":
    unittest.main()
