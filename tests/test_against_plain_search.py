"""Every setting found once more, by trying all sets of cells, and held against what the program answers."""

import random
import unittest

from told import MANY, begins, last, mark, pillar, shown

STEPS = [(-1, 0), (1, 0), (0, -1), (0, 1)]


def plain_light(rows, columns, pillars, cell):
    lit = {cell}
    for down, right in STEPS:
        row, column = cell // columns + down, cell % columns + right
        while 0 <= row < rows and 0 <= column < columns and row * columns + column not in pillars:
            lit.add(row * columns + column)
            row, column = row + down, column + right
    return lit


def plain_beside(rows, columns, cell):
    row, column = divmod(cell, columns)
    places = [(row + down, column + right) for down, right in STEPS]
    return [r * columns + c for r, c in places if 0 <= r < rows and 0 <= c < columns]


def plain_settings(rows, columns, pillars):
    free = [cell for cell in range(rows * columns) if cell not in pillars]
    light = {cell: plain_light(rows, columns, pillars, cell) for cell in free}
    found = []
    for chosen in range(1 << len(free)):
        lamps = [cell for place, cell in enumerate(free) if chosen >> place & 1]
        if any(other in light[lamp] for lamp in lamps for other in lamps if other != lamp):
            continue
        if set().union(*[light[lamp] for lamp in lamps]) == set(free):
            found.append(lamps)
    # A lamp in the first cell that differs comes first: sorted by 0 for a lamp, 1 for none, cell by cell.
    return sorted(found, key=lambda lamps: [0 if cell in lamps else 1 for cell in range(rows * columns)])


def plain_ways(rows, columns, pillars, found):
    def fits(lamps, cell, number):
        return number == 9 or len(set(plain_beside(rows, columns, cell)) & set(lamps)) == number

    return [lamps for lamps in found if all(fits(lamps, cell, number) for cell, number in pillars.items())]


def plain_open(marks, ways):
    return [lamps for lamps in ways if all((cell in lamps) == (how == 1) for cell, how in marks.items())]


class AgainstPlainSearch(unittest.TestCase):
    def hold(self, rows, columns, pillars, marks):
        found = plain_settings(rows, columns, pillars)
        ways = plain_ways(rows, columns, pillars, found)
        still = plain_open(marks, ways)
        calls = [begins(rows, columns)]
        calls += [pillar(cell, number) for cell, number in pillars.items()]
        calls += [mark(cell, how) for cell, how in marks.items()]
        self.assertEqual(last(*calls, MANY), [len(still), 2, len(ways), len(found)], calls)
        self.assertEqual(shown(*calls), still, calls)

    def test_every_place_of_pillars_in_small_halls(self):
        for rows, columns in [(1, 1), (1, 4), (4, 1), (2, 2), (2, 3), (3, 2)]:
            for places in range(1 << rows * columns):
                pillars = {cell: 9 for cell in range(rows * columns) if places >> cell & 1}
                self.hold(rows, columns, pillars, {})

    def hold_drawn(self, draw, rows, columns, share):
        cells = list(range(rows * columns))
        draw.shuffle(cells)
        places = cells[:draw.randint(*share)]
        pillars = dict.fromkeys(places, 9)
        found = plain_settings(rows, columns, pillars)
        goal = draw.choice(found)
        for cell in places:
            beside_it = len(set(plain_beside(rows, columns, cell)) & set(goal))
            # Mostly numbers that some setting has, so that there often are ways; now and then any number.
            pillars[cell] = draw.choice([9, 9, beside_it, beside_it, beside_it, draw.randint(0, 4)])
        marks = {}
        for cell in cells[len(places):]:
            if draw.randint(0, 5) == 0:
                marks[cell] = draw.choice([1, 2, 1 if cell in goal else 2])
        self.hold(rows, columns, pillars, marks)

    def test_halls_with_numbers_and_marks(self):
        draw = random.Random(20261119)
        for turn in range(300):
            self.hold_drawn(draw, draw.randint(1, 3), draw.randint(1, 4), (0, 3))

    def test_large_halls_with_numbers_and_marks(self):
        draw = random.Random(4 * 4)
        for turn in range(60):
            self.hold_drawn(draw, 4, 4, (5, 14))


if __name__ == "__main__":
    unittest.main()
