import unittest

from told import LAMPS, MANY, STATE, begins, everywhere, last, mark, pillar, shown, told

CROSS = [begins(3, 3), pillar(0), pillar(2), pillar(6), pillar(8)]
RING = [begins(3, 3), pillar(4)]
NO_OPEN_WAY = [-6]


class Lamps(unittest.TestCase):
    def test_the_hall_at_its_beginning(self):
        self.assertEqual(told(LAMPS), [[1, 1, 0]])

    def test_pillars_everywhere(self):
        for rows, columns in [(1, 1), (2, 3), (4, 4)]:
            for number in [0, 9]:
                self.assertEqual(last(*everywhere(rows, columns, number), LAMPS), [0, 0])
            for number in [1, 2, 3, 4]:
                self.assertEqual(last(*everywhere(rows, columns, number), LAMPS), NO_OPEN_WAY)

    def test_the_largest_hall(self):
        self.assertEqual(told(begins(4, 4), LAMPS), [[16], [4, 4, 0, 5, 10, 15]])

    def test_the_fewest_comes_before_the_first(self):
        self.assertEqual(shown(*CROSS), [[1, 3], [1, 5], [3, 7], [4], [5, 7]])
        self.assertEqual(last(*CROSS, LAMPS), [1, 1, 4])

    def test_of_several_as_few_the_first(self):
        self.assertEqual(last(*CROSS, mark(4, 2), LAMPS), [2, 2, 1, 3])
        self.assertEqual(last(*CROSS, pillar(0, 1), LAMPS), [2, 2, 1, 5])

    def test_of_several_as_few_the_first_behind_one_with_more(self):
        self.assertEqual(shown(*RING)[:2], [[0, 5, 7], [0, 8]])
        self.assertIn([2, 6], shown(*RING))
        self.assertEqual(last(*RING, LAMPS), [2, 2, 0, 8])

    def test_marks_narrow_what_it_goes_by(self):
        self.assertEqual(last(*RING, mark(0, 2), LAMPS), [2, 2, 2, 6])
        self.assertEqual(last(*RING, mark(0, 2), mark(2, 2), LAMPS), [3, 3, 1, 3, 8])
        self.assertEqual(last(*RING, mark(1, 1), mark(7, 1), mark(3, 1), LAMPS), [4, 4, 1, 3, 5, 7])
        self.assertEqual(last(*RING, mark(0, 2), mark(0, 0), LAMPS), [2, 2, 0, 8])

    def test_goes_by_ways(self):
        self.assertEqual(last(*RING, pillar(4, 4), LAMPS), [4, 4, 1, 3, 5, 7])
        self.assertEqual(last(*RING, pillar(4, 2), LAMPS), [3, 3, 0, 5, 7])
        self.assertEqual(last(begins(2, 2), pillar(0, 2), LAMPS), [2, 2, 1, 2])

    def test_refuses_where_there_is_no_open_way(self):
        self.assertEqual(told(mark(0, 2), LAMPS), [[0], NO_OPEN_WAY])
        self.assertEqual(last(*RING, pillar(4, 1), LAMPS), NO_OPEN_WAY)
        self.assertEqual(last(*RING, mark(0, 1), mark(1, 1), LAMPS), NO_OPEN_WAY)
        self.assertEqual(last(begins(2, 2), pillar(0, 2), mark(3, 1), LAMPS), NO_OPEN_WAY)

    def test_all_is_as_it_was(self):
        for calls in [RING + [mark(0, 2), mark(7, 1)], RING + [pillar(4, 1), mark(0, 2)]]:
            self.assertEqual(last(*calls, LAMPS, LAMPS, STATE), last(*calls, STATE))
            self.assertEqual(last(*calls, LAMPS, MANY), last(*calls, MANY))
            self.assertEqual(last(*calls, LAMPS, LAMPS), last(*calls, LAMPS))
            self.assertEqual(shown(*calls, LAMPS), shown(*calls))


if __name__ == "__main__":
    unittest.main()
