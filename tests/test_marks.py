import unittest

from told import MANY, begins, gone, last, mark, pillar, shown, told


class Mark(unittest.TestCase):
    def test_tells_0_for_each_mark(self):
        self.assertEqual(told(begins(2, 2), mark(0, 0), mark(1, 1), mark(2, 2)), [[4], [0], [0], [0]])

    def test_with_a_lamp(self):
        self.assertEqual(shown(begins(2, 2), mark(1, 1)), [[1, 2]])
        self.assertEqual(last(begins(2, 2), mark(1, 1), MANY), [1, 2, 2, 2])

    def test_without_a_lamp(self):
        self.assertEqual(shown(begins(2, 2), mark(1, 2)), [[0, 3]])
        self.assertEqual(last(begins(2, 2), mark(1, 2), MANY), [1, 2, 2, 2])

    def test_several(self):
        self.assertEqual(shown(begins(3, 3), mark(0, 2), mark(5, 1)), [[1, 5, 6]])
        self.assertEqual(shown(begins(2, 2), mark(0, 1), mark(1, 1)), [])
        self.assertEqual(shown(begins(1, 3), mark(0, 2), mark(1, 2), mark(2, 2)), [])

    def test_not_marked(self):
        for how in [1, 2]:
            self.assertEqual(shown(begins(2, 2), mark(1, how), mark(1, 0)), [[0, 3], [1, 2]])

    def test_stands_instead_of_an_earlier_one(self):
        self.assertEqual(shown(begins(2, 2), mark(1, 1), mark(1, 2)), [[0, 3]])
        self.assertEqual(shown(begins(2, 2), mark(1, 2), mark(1, 1)), [[1, 2]])
        self.assertEqual(shown(begins(2, 2), mark(1, 1), mark(1, 1)), [[1, 2]])

    def test_refuses_other_numbers(self):
        for how in [3, 4, 9, 2 ** 31, 2 ** 32 - 1]:
            self.assertEqual(told(begins(2, 2), mark(0, how)), [[4], [-1]])

    def test_refuses_a_cell_that_is_not_there(self):
        for cell in [4, 5, 16, 2 ** 32 - 1]:
            for how in [0, 1, 2]:
                self.assertEqual(told(begins(2, 2), mark(cell, how)), [[4], [-2]])

    def test_refuses_a_pillar(self):
        for how in [0, 1, 2]:
            self.assertEqual(last(begins(2, 2), pillar(0, 1), mark(0, how)), [-4])
            self.assertEqual(last(begins(2, 2), pillar(0), mark(0, how)), [-4])

    def test_takes_a_cell_whose_pillar_is_gone(self):
        self.assertEqual(shown(begins(2, 2), pillar(0), gone(0), mark(0, 1)), [[0, 3]])

    def test_tells_the_first_refusal(self):
        # A cell that isn't there comes first, a wrong number next, a pillar last.
        for how in [3, 2 ** 32 - 1]:
            self.assertEqual(told(begins(2, 2), mark(4, how)), [[4], [-2]])
            self.assertEqual(told(begins(2, 2), pillar(0), mark(0, how)), [[4], [1], [-1]])

    def test_all_is_as_it_was_behind_a_refusal(self):
        calls = [begins(2, 3), pillar(0, 1), mark(1, 1), mark(5, 2)]
        for refused in [mark(6, 1), mark(1, 3), mark(5, 9), mark(0, 0), mark(0, 1), mark(0, 2), mark(0, 3), mark(2, 3)]:
            self.assertLess(last(*calls, refused)[0], 0)
            self.assertEqual(last(*calls, refused, MANY), last(*calls, MANY))
            self.assertEqual(shown(*calls, refused), shown(*calls))
            self.assertEqual(last(*calls, refused, gone(0)), [0])
            self.assertEqual(last(*calls, refused, pillar(1)), [-4])
            self.assertEqual(last(*calls, refused, pillar(2)), [2])


if __name__ == "__main__":
    unittest.main()
