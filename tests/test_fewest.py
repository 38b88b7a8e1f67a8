import itertools
import unittest

from told import FEWEST, MANY, STATE, begins, everywhere, last, mark, pillar, told

NOT_ONE_WAY = [-6]


def hall(rows, columns, numbers):
    return [begins(rows, columns)] + [pillar(cell, number) for cell, number in numbers.items()]


def ways_with(rows, columns, numbers, told_cells):
    """How many ways there are if of these pillars only some numbers are told."""
    fewer = {cell: number if cell in told_cells else 9 for cell, number in numbers.items()}
    return last(*hall(rows, columns, fewer), MANY)[2]


class Fewest(unittest.TestCase):
    def hold(self, rows, columns, numbers, chosen, as_small):
        """The choices that are enough, of the size of the chosen one, are those; none smaller is enough."""
        self.assertEqual(last(*hall(rows, columns, numbers), FEWEST), [len(chosen), len(chosen)] + chosen)
        numbered = sorted(cell for cell in numbers if numbers[cell] != 9)
        enough = []
        for size in range(len(chosen) + 1):
            for choice in itertools.combinations(numbered, size):
                if ways_with(rows, columns, numbers, choice) == 1:
                    enough.append(list(choice))
        self.assertEqual(enough, as_small)
        self.assertEqual(enough[0], chosen)

    def test_the_hall_at_its_beginning(self):
        self.assertEqual(told(FEWEST), [[0, 0]])

    def test_pillars_everywhere(self):
        for rows, columns in [(1, 1), (2, 3), (4, 4)]:
            for number in [0, 9]:
                self.assertEqual(last(*everywhere(rows, columns, number), FEWEST), [0, 0])
            for number in [1, 2, 3, 4]:
                self.assertEqual(last(*everywhere(rows, columns, number), FEWEST), NOT_ONE_WAY)

    def test_refuses_the_largest_hall(self):
        self.assertEqual(told(begins(4, 4), FEWEST), [[16], NOT_ONE_WAY])

    def test_no_number_is_needed(self):
        self.hold(1, 3, {1: 9}, [], [[]])
        self.hold(1, 3, {1: 2}, [], [[]])
        self.hold(2, 2, {0: 1, 1: 0, 3: 1}, [], [[]])

    def test_all_numbers_are_needed(self):
        self.hold(2, 2, {0: 0}, [0], [[0]])
        self.hold(2, 4, {0: 1, 1: 1}, [0, 1], [[0, 1]])
        self.hold(3, 4, {4: 0, 5: 2, 11: 0}, [4, 5, 11], [[4, 5, 11]])

    def test_one_choice_is_smallest(self):
        self.hold(2, 3, {3: 0, 4: 1, 5: 0}, [4], [[4]])
        self.hold(4, 2, {5: 1, 6: 1, 7: 0}, [5, 6], [[5, 6]])
        self.hold(4, 3, {3: 0, 5: 1, 6: 0, 9: 0}, [3, 5, 6], [[3, 5, 6]])

    def test_several_choices_as_small(self):
        self.hold(2, 2, {0: 1, 1: 0}, [0], [[0], [1]])
        self.hold(3, 2, {0: 0, 1: 1, 2: 1, 4: 0}, [1], [[1], [2], [4]])
        self.hold(4, 2, {1: 0, 4: 1, 6: 1}, [1, 4], [[1, 4], [1, 6], [4, 6]])
        self.hold(4, 2, {2: 1, 3: 1, 6: 1, 7: 0}, [2, 6], [[2, 6], [2, 7], [3, 6], [3, 7]])
        numbers = {3: 0, 7: 1, 8: 1, 9: 1, 10: 2, 13: 2}
        self.hold(4, 4, numbers, [3, 7, 9], [[3, 7, 9], [3, 8, 10], [3, 9, 10], [3, 9, 13]])

    def test_the_first_pillar_is_the_one_on_the_first_cell(self):
        # Told in another order, the same pillars have the same answer.
        for cells in itertools.permutations([1, 4, 6]):
            numbers = {1: 0, 4: 1, 6: 1}
            self.hold(4, 2, {cell: numbers[cell] for cell in cells}, [1, 4], [[1, 4], [1, 6], [4, 6]])

    def test_pillars_without_a_number_among_those_with_one(self):
        # The pillar on cell 1 alone would have been enough, or the one on 2, or the one on 4.
        self.hold(3, 2, {0: 0, 1: 9, 2: 1, 4: 0}, [2], [[2], [4]])
        self.hold(3, 2, {0: 0, 1: 9, 2: 9, 4: 0}, [4], [[4]])
        self.hold(4, 2, {1: 9, 4: 1, 6: 1}, [4, 6], [[4, 6]])
        self.assertEqual(last(*hall(3, 2, {0: 0, 1: 9, 2: 9, 4: 9}), FEWEST), NOT_ONE_WAY)

    def test_a_number_of_0_is_a_number(self):
        self.hold(2, 2, {0: 0}, [0], [[0]])
        self.hold(2, 2, {0: 9, 1: 0}, [1], [[1]])

    def test_the_number_that_was_told_last_counts(self):
        self.assertEqual(last(begins(2, 2), pillar(0, 3), pillar(0, 2), FEWEST), [1, 1, 0])
        self.assertEqual(last(begins(2, 2), pillar(0, 2), pillar(0, 3), FEWEST), NOT_ONE_WAY)
        self.assertEqual(last(begins(2, 2), pillar(0, 2), pillar(0), FEWEST), NOT_ONE_WAY)

    def test_refuses_several_ways(self):
        self.assertEqual(last(begins(2, 2), FEWEST), NOT_ONE_WAY)
        self.assertEqual(last(begins(2, 2), pillar(0), FEWEST), NOT_ONE_WAY)
        self.assertEqual(last(begins(3, 3), pillar(1, 1), FEWEST), NOT_ONE_WAY)

    def test_refuses_no_way(self):
        self.assertEqual(last(begins(2, 2), pillar(0, 1), FEWEST), NOT_ONE_WAY)
        self.assertEqual(last(begins(1, 3), pillar(1, 1), FEWEST), NOT_ONE_WAY)
        # Each of the two numbers alone leaves one way, but not the same one.
        self.assertEqual(last(begins(2, 2), pillar(0, 0), pillar(1), FEWEST), [1, 1, 0])
        self.assertEqual(last(begins(2, 2), pillar(0), pillar(1, 0), FEWEST), [1, 1, 1])
        self.assertEqual(last(begins(2, 2), pillar(0, 0), pillar(1, 0), FEWEST), NOT_ONE_WAY)

    def test_marks_count_for_nothing(self):
        for marks in [[mark(3, 1)], [mark(3, 2)], [mark(1, 1), mark(2, 2)], [mark(1, 2), mark(2, 2), mark(3, 2)]]:
            self.assertEqual(last(begins(2, 2), pillar(0, 0), *marks, FEWEST), [1, 1, 0])
            self.assertEqual(last(begins(2, 2), pillar(0), *marks, FEWEST), NOT_ONE_WAY)
        self.assertEqual(last(begins(2, 2), mark(0, 1), FEWEST), NOT_ONE_WAY)
        self.assertEqual(told(mark(0, 2), FEWEST), [[0], [0, 0]])

    def test_all_is_as_it_was(self):
        for calls in [hall(4, 2, {6: 1, 1: 0, 4: 1}) + [mark(0, 2), mark(7, 1)], hall(2, 2, {0: 9}) + [mark(3, 2)]]:
            self.assertEqual(last(*calls, FEWEST, FEWEST, STATE), last(*calls, STATE))
            self.assertEqual(last(*calls, FEWEST, MANY), last(*calls, MANY))
            self.assertEqual(last(*calls, FEWEST, FEWEST), last(*calls, FEWEST))


if __name__ == "__main__":
    unittest.main()
