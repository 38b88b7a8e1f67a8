import unittest

from told import MANY, begins, gone, last, mark, pillar, shown, told

NO_CELLS = [4, 5, 16, 2 ** 31, 2 ** 32 - 1]
NO_NUMBERS = [5, 6, 7, 8, 10, 11, 2 ** 31, 2 ** 32 - 1]


class Pillar(unittest.TestCase):
    def test_tells_how_many_there_are(self):
        self.assertEqual(told(begins(2, 2), *[pillar(cell) for cell in range(4)]), [[4], [1], [2], [3], [4]])

    def test_takes_each_number(self):
        for number in [0, 1, 2, 3, 4, 9]:
            self.assertEqual(last(begins(3, 3), pillar(4, number)), [1])

    def test_each_number_counts_the_lamps_beside(self):
        # Round a pillar in the middle each of the four walls has one lamp, which a corner has for two walls at once:
        # with two corners none is left beside the pillar, with one corner two are, with none all four.
        ways = {}
        for number in [0, 1, 2, 3, 4, 9]:
            ways[number] = last(begins(3, 3), pillar(4, number), MANY)[2]
        self.assertEqual(ways, {0: 2, 1: 0, 2: 4, 3: 0, 4: 1, 9: 7})

    def test_another_number_stands_instead(self):
        self.assertEqual(told(begins(2, 2), pillar(0, 0), pillar(0, 1), pillar(0, 9)), [[4], [1], [1], [1]])
        self.assertEqual(last(begins(1, 3), pillar(1, 1), MANY), [0, 2, 0, 1])
        self.assertEqual(last(begins(1, 3), pillar(1, 1), pillar(1, 2), MANY), [1, 2, 1, 1])
        self.assertEqual(last(begins(1, 3), pillar(1, 1), pillar(1, 9), MANY), [1, 2, 1, 1])
        self.assertEqual(last(begins(1, 3), pillar(1, 9), pillar(1, 1), MANY), [0, 2, 0, 1])

    def test_refuses_a_cell_that_is_not_there(self):
        for cell in NO_CELLS:
            self.assertEqual(told(begins(2, 2), pillar(cell), pillar(cell, 0)), [[4], [-2], [-2]])

    def test_refuses_other_numbers(self):
        for number in NO_NUMBERS:
            self.assertEqual(told(begins(2, 2), pillar(3, number)), [[4], [-1]])
            self.assertEqual(told(begins(2, 2), pillar(3), pillar(3, number)), [[4], [1], [-1]])

    def test_refuses_a_marked_cell(self):
        for how in [1, 2]:
            self.assertEqual(told(begins(2, 2), mark(3, how), pillar(3)), [[4], [0], [-4]])

    def test_takes_a_cell_that_is_marked_no_more(self):
        self.assertEqual(last(begins(2, 2), mark(3, 1), mark(3, 0), pillar(3)), [1])

    def test_tells_the_first_refusal(self):
        # A cell that isn't there comes first, a wrong number next, a marked cell last.
        for number in NO_NUMBERS:
            self.assertEqual(told(begins(2, 2), pillar(4, number)), [[4], [-2]])
            self.assertEqual(told(begins(2, 2), mark(1, 2), pillar(1, number)), [[4], [0], [-1]])

    def test_all_is_as_it_was_behind_a_refusal(self):
        calls = [begins(2, 2), pillar(0, 1), mark(3, 2)]
        for refused in [pillar(4, 0), pillar(0, 5), pillar(1, 8), pillar(3, 0), pillar(4, 5), pillar(3, 5)]:
            self.assertLess(last(*calls, refused)[0], 0)
            self.assertEqual(last(*calls, refused, MANY), last(*calls, MANY))
            self.assertEqual(shown(*calls, refused), shown(*calls))
            self.assertEqual(last(*calls, refused, pillar(1)), [2])
            self.assertEqual(last(*calls, refused, gone(0)), [0])
            self.assertEqual(last(*calls, refused, mark(3, 0), MANY), last(*calls, mark(3, 0), MANY))


class Gone(unittest.TestCase):
    def test_tells_how_many_there_are(self):
        calls = [begins(2, 2), pillar(0), pillar(3), gone(0), gone(3)]
        self.assertEqual(told(*calls), [[4], [1], [2], [1], [0]])

    def test_the_cell_is_free_and_not_marked(self):
        calls = [begins(1, 3), pillar(1, 0), gone(1)]
        self.assertEqual(last(*calls, MANY), [3, 2, 3, 3])
        self.assertEqual(shown(*calls), [[0], [1], [2]])
        self.assertEqual(last(*calls, mark(1, 1)), [0])
        self.assertEqual(last(*calls, pillar(1, 2)), [1])

    def test_the_number_is_gone_with_it(self):
        self.assertEqual(last(begins(1, 3), pillar(1, 0), gone(1), pillar(1), MANY), [1, 2, 1, 1])

    def test_refuses_a_cell_without_one(self):
        self.assertEqual(told(begins(2, 2), pillar(0), gone(1), gone(0), gone(0))[2:], [[-4], [0], [-4]])

    def test_refuses_a_cell_with_a_mark(self):
        for how in [1, 2]:
            self.assertEqual(last(begins(2, 2), mark(0, how), gone(0)), [-4])

    def test_refuses_a_cell_that_is_not_there(self):
        for cell in NO_CELLS:
            self.assertEqual(told(begins(2, 2), gone(cell)), [[4], [-2]])

    def test_all_is_as_it_was_behind_a_refusal(self):
        calls = [begins(2, 2), pillar(0, 1), mark(3, 2)]
        for refused in [gone(1), gone(3), gone(4), gone(2 ** 32 - 1)]:
            self.assertLess(last(*calls, refused)[0], 0)
            self.assertEqual(last(*calls, refused, MANY), last(*calls, MANY))
            self.assertEqual(last(*calls, refused, pillar(1)), [2])
            self.assertEqual(last(*calls, refused, pillar(3)), [-4])


if __name__ == "__main__":
    unittest.main()
