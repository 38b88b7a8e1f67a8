import itertools
import unittest

from told import MANY, begins, last, mark, pillar, show, shown, told

CROSS = [begins(3, 3), pillar(0), pillar(2), pillar(6), pillar(8)]


class Show(unittest.TestCase):
    def test_each_k_in_its_order(self):
        # Row 3 4 5 and column 1 4 7: the first cell in which two ways differ decides, not how many lamps they have.
        self.assertEqual(shown(*CROSS), [[1, 3], [1, 5], [3, 7], [4], [5, 7]])

    def test_answers_as_the_words_tell(self):
        calls = CROSS + [show(k) for k in range(6)]
        self.assertEqual(told(*calls)[5:], [[2, 2, 1, 3], [2, 2, 1, 5], [2, 2, 3, 7], [1, 1, 4], [2, 2, 5, 7], [-2]])

    def test_the_last_and_one_too_many(self):
        self.assertEqual(told(begins(4, 4), show(23), show(24)), [[16], [4, 4, 3, 6, 9, 12], [-2]])
        for k in [24, 25, 2 ** 31, 2 ** 32 - 1]:
            self.assertEqual(last(begins(4, 4), show(k)), [-2])

    def test_all_of_the_largest_hall(self):
        ways = []
        for columns in itertools.permutations(range(4)):
            ways.append([row * 4 + column for row, column in enumerate(columns)])
        self.assertEqual(shown(begins(4, 4)), ways)

    def test_goes_by_open_ways(self):
        self.assertEqual(shown(*CROSS, mark(1, 2)), [[3, 7], [4], [5, 7]])
        self.assertEqual(shown(*CROSS, mark(7, 1)), [[3, 7], [5, 7]])
        self.assertEqual(shown(*CROSS, mark(4, 1)), [[4]])

    def test_goes_by_ways(self):
        self.assertEqual(shown(*CROSS, pillar(0, 1)), [[1, 5], [3, 7]])
        self.assertEqual(shown(*CROSS, pillar(0, 1), pillar(8, 0)), [])
        self.assertEqual(shown(*CROSS, pillar(0, 0), pillar(8, 0)), [[4]])

    def test_a_way_without_lamps(self):
        self.assertEqual(told(pillar(0), show(0), show(1)), [[1], [0, 0], [-2]])
        calls = [begins(4, 4)] + [pillar(cell, 0) for cell in range(16)]
        self.assertEqual(told(*calls, show(0), show(1))[-2:], [[0, 0], [-2]])

    def test_refuses_where_there_is_no_open_way(self):
        self.assertEqual(told(pillar(0, 1), show(0)), [[1], [-2]])
        self.assertEqual(told(mark(0, 2), show(0)), [[0], [-2]])

    def test_all_is_as_it_was(self):
        for k in [0, 2, 3, 2 ** 32 - 1]:
            self.assertEqual(last(*CROSS, mark(1, 2), show(k), MANY), [3, 2, 5, 5])
            self.assertEqual(shown(*CROSS, mark(1, 2), show(k)), [[3, 7], [4], [5, 7]])


if __name__ == "__main__":
    unittest.main()
