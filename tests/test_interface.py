import inspect
import unittest

import lampways.hall
from lampways.hall import answers
from told import FEWEST, LAMPS, MANY, STATE, SURE, begins, gone, joined, lit, mark, pillar, show, try_out

CALLS = joined([
    MANY, begins(3, 3), pillar(4, 1), pillar(0), mark(1, 1), MANY, show(0), show(99), pillar(9, 7), pillar(8, 7),
    mark(4, 1), gone(0), gone(0), begins(5, 5), mark(1, 2), MANY, show(0), mark(1, 0), MANY,
    STATE, SURE, try_out(8, 1, 3), try_out(8, 8), try_out(), FEWEST, LAMPS, lit(5, 1, 5), lit(4), lit(), SURE, STATE,
    pillar(4, 4), SURE, FEWEST, LAMPS, try_out(7, 5, 3, 1), mark(1, 2), SURE, LAMPS, STATE,
])


class Interface(unittest.TestCase):
    def test_how_answers_stand_in_what_is_given_back(self):
        calls = [4, 0, 2, 2, 1, 0, 9, 3, 1, 1, 4, 5, 0, 5, 1, 2, 0, 2, 0]
        given = [4, 1, 2, 1, 1, 1, 4, 1, 1, 1, 0, 4, 1, 2, 2, 2, 4, 2, 2, 1, 2, 1, -2, 1, 0, 1, -4]
        self.assertEqual(answers(calls), given)

    def test_how_calls_with_a_list_and_answers_with_lists_stand(self):
        # Ahead of each list stands how many numbers it has, in what is handed in and in what is given back.
        parts = [
            ([0, 2, 2], [1, 4]),
            ([7, 2, 0, 3], [1, 0]),
            ([7, 0], [1, 3]),
            ([10, 3, 3, 1, 3], [6, 4, 4, 0, 1, 2, 3]),
            ([10, 0], [2, 0, 0]),
            ([6], [3, 0, 0, 0]),
            ([9], [4, 2, 2, 0, 3]),
            ([8], [1, -6]),
            ([1, 0, 2], [1, 1]),
            ([8], [3, 1, 1, 0]),
            ([3, 3, 2], [1, 0]),
            ([11], [10, 1, 2, 2, 2, 2, 0, 2, 0, 1, 3]),
            ([6], [6, 2, 2, 1, 2, 1, 3]),
            ([7, 1, 4], [1, 1]),
            ([10, 1, 0], [1, -2]),
        ]
        self.assertEqual(answers(joined(call for call, given in parts)), joined(given for call, given in parts))

    def test_takes_one_list_called_calls(self):
        self.assertEqual(list(inspect.signature(lampways.hall.answers).parameters), ["calls"])
        self.assertEqual(answers(calls=[0, 4, 4]), [1, 16])

    def test_gives_back_a_list_of_whole_numbers_alone(self):
        given = answers(CALLS)
        self.assertIs(type(given), list)
        self.assertEqual({type(number) for number in given}, {int})

    def test_what_is_handed_in_stays_as_it_was(self):
        class Watched(list):
            def refuse(self, *words, **named):
                raise AssertionError("what was handed in was changed")

            append = extend = insert = pop = remove = clear = sort = reverse = refuse
            __setitem__ = __delitem__ = __iadd__ = __imul__ = refuse

        handed = Watched(CALLS)
        answers(handed)
        self.assertEqual(list(handed), CALLS)

    def test_a_second_time_gives_the_same_as_the_first(self):
        first = answers(CALLS)
        self.assertEqual(answers(CALLS), first)
        self.assertIsNot(answers(CALLS), first)

    def test_nothing_is_kept_from_one_time_to_the_next(self):
        answers(joined([begins(4, 4), pillar(0, 1), mark(1, 1)]))
        self.assertEqual(answers([4, 3, 1, 0]), [4, 1, 2, 1, 1, 1, -2])

    def test_what_is_given_back_is_its_own(self):
        first = answers(CALLS)
        kept = list(first)
        first.clear()
        self.assertEqual(answers(CALLS), kept)

    def test_eighty_calls(self):
        calls = joined([begins(4, 4)] + [MANY] * 79)
        self.assertEqual(answers(calls), [1, 16] + [4, 24, 2, 24, 24] * 79)

    def test_eighty_calls_with_sixty_numbers_each(self):
        calls = joined([lit(*[0] * 60), try_out(*range(60))] * 40)
        self.assertEqual(answers(calls), [3, 1, 1, 0, 1, 1] * 40)


if __name__ == "__main__":
    unittest.main()
