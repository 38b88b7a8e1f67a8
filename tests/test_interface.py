import inspect
import unittest

import lampways.hall
from lampways.hall import answers
from told import MANY, begins, gone, joined, mark, pillar, show

CALLS = joined([
    MANY, begins(3, 3), pillar(4, 1), pillar(0), mark(1, 1), MANY, show(0), show(99), pillar(9, 7), pillar(8, 7),
    mark(4, 1), gone(0), gone(0), begins(5, 5), mark(1, 2), MANY, show(0), mark(1, 0), MANY,
])


class Interface(unittest.TestCase):
    def test_how_answers_stand_in_what_is_given_back(self):
        calls = [4, 0, 2, 2, 1, 0, 9, 3, 1, 1, 4, 5, 0, 5, 1, 2, 0, 2, 0]
        given = [4, 1, 2, 1, 1, 1, 4, 1, 1, 1, 0, 4, 1, 2, 2, 2, 4, 2, 2, 1, 2, 1, -2, 1, 0, 1, -4]
        self.assertEqual(answers(calls), given)

    def test_takes_one_list_called_calls(self):
        self.assertEqual(list(inspect.signature(lampways.hall.answers).parameters), ["calls"])
        self.assertEqual(answers(calls=[0, 4, 4]), [1, 16])

    def test_gives_back_a_list_of_whole_numbers_alone(self):
        given = answers(CALLS)
        self.assertIs(type(given), list)
        self.assertEqual({type(number) for number in given}, {int})

    def test_what_is_handed_in_stays_as_it_was(self):
        class Watched(list):
            def refuse(self, *words, **named):
                raise AssertionError("what was handed in was changed")

            append = extend = insert = pop = remove = clear = sort = reverse = refuse
            __setitem__ = __delitem__ = __iadd__ = __imul__ = refuse

        handed = Watched(CALLS)
        answers(handed)
        self.assertEqual(list(handed), CALLS)

    def test_a_second_time_gives_the_same_as_the_first(self):
        first = answers(CALLS)
        self.assertEqual(answers(CALLS), first)
        self.assertIsNot(answers(CALLS), first)

    def test_nothing_is_kept_from_one_time_to_the_next(self):
        answers(joined([begins(4, 4), pillar(0, 1), mark(1, 1)]))
        self.assertEqual(answers([4, 3, 1, 0]), [4, 1, 2, 1, 1, 1, -2])

    def test_what_is_given_back_is_its_own(self):
        first = answers(CALLS)
        kept = list(first)
        first.clear()
        self.assertEqual(answers(CALLS), kept)

    def test_eighty_calls(self):
        calls = joined([begins(4, 4)] + [MANY] * 79)
        self.assertEqual(answers(calls), [1, 16] + [4, 24, 2, 24, 24] * 79)


if __name__ == "__main__":
    unittest.main()
