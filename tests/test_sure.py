import unittest

from told import MANY, STATE, SURE, begins, everywhere, last, mark, pillar, shown, told

CROSS = [begins(3, 3), pillar(0), pillar(2), pillar(6), pillar(8)]
NO_OPEN_WAY = [-6]


class Sure(unittest.TestCase):
    def test_the_hall_at_its_beginning(self):
        self.assertEqual(told(SURE), [[1, 1, 0, 0]])

    def test_pillars_everywhere(self):
        # The one way has no lamps, and no cell is free.
        for rows, columns in [(1, 1), (2, 3), (4, 4)]:
            for number in [0, 9]:
                self.assertEqual(last(*everywhere(rows, columns, number), SURE), [0, 0, 0])
            for number in [1, 2, 3, 4]:
                self.assertEqual(last(*everywhere(rows, columns, number), SURE), NO_OPEN_WAY)

    def test_nothing_is_sure_in_the_largest_hall(self):
        self.assertEqual(told(begins(4, 4), SURE), [[16], [0, 0, 0]])

    def test_a_lamp_in_all_ways_and_one_in_none(self):
        self.assertEqual(shown(begins(3, 3), pillar(1, 1)), [[0, 5, 7], [2, 3, 7]])
        self.assertEqual(last(begins(3, 3), pillar(1, 1), SURE), [1, 1, 7, 3, 4, 6, 8])

    def test_several_with_a_lamp_rise(self):
        self.assertEqual(shown(begins(3, 3), pillar(0, 0), pillar(7)), [[2, 4, 6], [4, 6, 8]])
        self.assertEqual(last(begins(3, 3), pillar(0, 0), pillar(7), SURE), [2, 2, 4, 6, 3, 1, 3, 5])

    def test_a_lamp_in_all_ways_alone(self):
        self.assertEqual(shown(begins(1, 4), pillar(1)), [[0, 2], [0, 3]])
        self.assertEqual(last(begins(1, 4), pillar(1), SURE), [1, 1, 0, 0])

    def test_a_lamp_in_no_way_alone(self):
        self.assertEqual(shown(*CROSS, pillar(0, 1)), [[1, 5], [3, 7]])
        self.assertEqual(last(*CROSS, pillar(0, 1), SURE), [0, 0, 1, 4])

    def test_just_one_way(self):
        self.assertEqual(last(begins(2, 2), pillar(0, 2), SURE), [2, 2, 1, 2, 1, 3])
        self.assertEqual(last(begins(2, 2), pillar(0, 0), SURE), [1, 1, 3, 2, 1, 2])

    def test_a_pillar_is_in_neither_list(self):
        for number in [0, 1, 9]:
            answer = last(*CROSS, pillar(0, number), SURE)
            for cell in [0, 2, 6, 8]:
                self.assertNotIn(cell, answer[2:2 + answer[1]])
                self.assertNotIn(cell, answer[3 + answer[1]:])

    def test_marks_narrow_what_it_goes_by(self):
        self.assertEqual(last(begins(2, 2), SURE), [0, 0, 0])
        self.assertEqual(last(begins(2, 2), mark(0, 1), SURE), [2, 2, 0, 3, 2, 1, 2])
        self.assertEqual(last(begins(2, 2), mark(0, 2), SURE), [2, 2, 1, 2, 2, 0, 3])
        self.assertEqual(last(*CROSS, mark(4, 2), SURE), [0, 0, 1, 4])
        self.assertEqual(last(*CROSS, mark(3, 2), mark(4, 2), SURE), [1, 1, 5, 2, 3, 4])
        self.assertEqual(last(begins(2, 2), mark(0, 1), mark(0, 0), SURE), [0, 0, 0])

    def test_goes_by_ways_and_not_by_settings(self):
        # Both settings round the corner have all cells between them; a number leaves one of them.
        self.assertEqual(last(begins(2, 2), pillar(0), SURE), [0, 0, 0])
        self.assertEqual(last(begins(2, 2), pillar(0, 2), SURE), [2, 2, 1, 2, 1, 3])
        self.assertEqual(last(begins(1, 3), pillar(1, 1), SURE), NO_OPEN_WAY)

    def test_refuses_where_there_is_no_open_way(self):
        self.assertEqual(told(mark(0, 2), SURE), [[0], NO_OPEN_WAY])
        self.assertEqual(last(begins(2, 2), mark(0, 1), mark(1, 1), SURE), NO_OPEN_WAY)
        self.assertEqual(last(begins(2, 2), pillar(0, 2), mark(3, 1), SURE), NO_OPEN_WAY)
        self.assertEqual(last(begins(2, 2), pillar(0, 3), SURE), NO_OPEN_WAY)

    def test_all_is_as_it_was(self):
        for calls in [CROSS + [mark(4, 2), mark(1, 1)], CROSS + [pillar(2, 4), mark(4, 2)]]:
            self.assertEqual(last(*calls, SURE, SURE, STATE), last(*calls, STATE))
            self.assertEqual(last(*calls, SURE, MANY), last(*calls, MANY))
            self.assertEqual(last(*calls, SURE, SURE), last(*calls, SURE))


if __name__ == "__main__":
    unittest.main()
