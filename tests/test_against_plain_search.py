"""Every call answered once more, by trying all sets of cells, and held against what the program answers."""

import itertools
import random
import unittest

from told import FEWEST, LAMPS, MANY, STATE, SURE
from told import begins, gone, last, lit, mark, pillar, show, shown, told, try_out

STEPS = [(-1, 0), (1, 0), (0, -1), (0, 1)]


def plain_light(rows, columns, pillars, cell):
    lit = {cell}
    for down, right in STEPS:
        row, column = cell // columns + down, cell % columns + right
        while 0 <= row < rows and 0 <= column < columns and row * columns + column not in pillars:
            lit.add(row * columns + column)
            row, column = row + down, column + right
    return lit


def plain_beside(rows, columns, cell):
    row, column = divmod(cell, columns)
    places = [(row + down, column + right) for down, right in STEPS]
    return [r * columns + c for r, c in places if 0 <= r < rows and 0 <= c < columns]


def plain_settings(rows, columns, pillars):
    free = [cell for cell in range(rows * columns) if cell not in pillars]
    light = {cell: plain_light(rows, columns, pillars, cell) for cell in free}
    found = []
    for chosen in range(1 << len(free)):
        lamps = [cell for place, cell in enumerate(free) if chosen >> place & 1]
        if any(other in light[lamp] for lamp in lamps for other in lamps if other != lamp):
            continue
        if set().union(*[light[lamp] for lamp in lamps]) == set(free):
            found.append(lamps)
    # A lamp in the first cell that differs comes first: sorted by 0 for a lamp, 1 for none, cell by cell.
    return sorted(found, key=lambda lamps: [0 if cell in lamps else 1 for cell in range(rows * columns)])


def plain_ways(rows, columns, pillars, found):
    def fits(lamps, cell, number):
        return number == 9 or len(set(plain_beside(rows, columns, cell)) & set(lamps)) == number

    return [lamps for lamps in found if all(fits(lamps, cell, number) for cell, number in pillars.items())]


def plain_open(marks, ways):
    return [lamps for lamps in ways if all((cell in lamps) == (how == 1) for cell, how in marks.items())]


def with_lists(number, *rows):
    return [number] + [told_number for row in rows for told_number in [len(row), *row]]


class PlainHall:
    """The document's calls, each answered by its words over all sets of cells."""

    names = "begins pillar gone mark many show sure try_out fewest lamps lit state".split()

    def __init__(self):
        self.found_by_pillars = {}
        self.begin(1, 1)

    def begin(self, rows, columns):
        self.rows, self.columns, self.pillars, self.marks = rows, columns, {}, {}

    def answer(self, call):
        name = self.names[call[0]]
        # The list of try_out and of lit is the one thing behind these; how many numbers it has is not asked for.
        return getattr(self, name)(call[2:]) if name in ("try_out", "lit") else getattr(self, name)(*call[1:])

    def cells(self):
        return range(self.rows * self.columns)

    def free(self):
        return [cell for cell in self.cells() if cell not in self.pillars]

    def found(self):
        key = (self.rows, self.columns, *sorted(self.pillars))
        if key not in self.found_by_pillars:
            self.found_by_pillars[key] = plain_settings(self.rows, self.columns, self.pillars)
        return self.found_by_pillars[key]

    def ways(self, pillars=None):
        return plain_ways(self.rows, self.columns, self.pillars if pillars is None else pillars, self.found())

    def open_ways(self):
        return plain_open(self.marks, self.ways())

    def light(self, lamps):
        return set().union(*[plain_light(self.rows, self.columns, self.pillars, lamp) for lamp in lamps])

    def begins(self, rows, columns):
        if rows not in (1, 2, 3, 4) or columns not in (1, 2, 3, 4):
            return [-1]
        self.begin(rows, columns)
        return [rows * columns]

    def pillar(self, cell, number):
        if cell not in self.cells():
            return [-2]
        if number not in (0, 1, 2, 3, 4, 9):
            return [-1]
        if cell in self.marks:
            return [-4]
        self.pillars[cell] = number
        return [len(self.pillars)]

    def gone(self, cell):
        if cell not in self.cells():
            return [-2]
        if cell not in self.pillars:
            return [-4]
        del self.pillars[cell]
        return [len(self.pillars)]

    def mark(self, cell, how):
        if cell not in self.cells():
            return [-2]
        if how not in (0, 1, 2):
            return [-1]
        if cell in self.pillars:
            return [-4]
        self.marks[cell] = how
        if how == 0:
            del self.marks[cell]
        return [0]

    def many(self):
        return with_lists(len(self.open_ways()), [len(self.ways()), len(self.found())])

    def show(self, k):
        still = self.open_ways()
        return with_lists(len(still[k]), still[k]) if k < len(still) else [-2]

    def sure(self):
        counts = [sum(cell in lamps for lamps in self.open_ways()) for cell in self.cells()]
        whole = len(self.open_ways())
        if whole == 0:
            return [-6]
        with_lamp = [cell for cell in self.free() if counts[cell] == whole]
        return with_lists(len(with_lamp), with_lamp, [cell for cell in self.free() if counts[cell] == 0])

    def try_out(self, cells):
        if any(cells.count(cell) > 1 for cell in cells):
            return [-1]
        if not set(cells) <= set(self.free()):
            return [1]
        if any(cell in self.light([other]) for cell, other in itertools.permutations(cells, 2)):
            return [2]
        if self.light(cells) != set(self.free()):
            return [3]
        return [0] if sorted(cells) in self.ways() else [4]

    def fewest(self):
        if len(self.ways()) != 1:
            return [-6]
        numbered = [cell for cell in sorted(self.pillars) if self.pillars[cell] != 9]
        for size in range(len(numbered) + 1):
            for chosen in itertools.combinations(numbered, size):
                if len(self.ways({cell: self.pillars[cell] for cell in chosen})) == 1:
                    return with_lists(size, chosen)

    def lamps(self):
        still = self.open_ways()
        return with_lists(min(map(len, still)), sorted(still, key=len)[0]) if still else [-6]

    def lit(self, cells):
        light = sorted(self.light(cells)) if set(cells) <= set(self.free()) else None
        return [-2] if light is None else with_lists(len(light), light)

    def state(self):
        pillars = [number for pair in sorted(self.pillars.items()) for number in pair]
        marked = [sorted(cell for cell in self.marks if self.marks[cell] == how) for how in (1, 2)]
        return with_lists(len(self.pillars), [self.rows, self.columns], pillars, *marked)


class AgainstPlainSearch(unittest.TestCase):
    def hold(self, rows, columns, pillars, marks):
        found = plain_settings(rows, columns, pillars)
        ways = plain_ways(rows, columns, pillars, found)
        still = plain_open(marks, ways)
        calls = [begins(rows, columns)]
        calls += [pillar(cell, number) for cell, number in pillars.items()]
        calls += [mark(cell, how) for cell, how in marks.items()]
        self.assertEqual(last(*calls, MANY), [len(still), 2, len(ways), len(found)], calls)
        self.assertEqual(shown(*calls), still, calls)
        self.hold_calls(calls + [SURE, FEWEST, LAMPS, STATE])

    def hold_calls(self, calls, plain=None):
        plain = PlainHall() if plain is None else plain
        self.assertEqual(told(*calls), [plain.answer(call) for call in calls], calls)

    def test_every_place_of_pillars_in_small_halls(self):
        for rows, columns in [(1, 1), (1, 4), (4, 1), (2, 2), (2, 3), (3, 2)]:
            for places in range(1 << rows * columns):
                pillars = {cell: 9 for cell in range(rows * columns) if places >> cell & 1}
                self.hold(rows, columns, pillars, {})

    def hold_drawn(self, draw, rows, columns, share):
        cells = list(range(rows * columns))
        draw.shuffle(cells)
        places = cells[:draw.randint(*share)]
        pillars = dict.fromkeys(places, 9)
        found = plain_settings(rows, columns, pillars)
        goal = draw.choice(found)
        for cell in places:
            beside_it = len(set(plain_beside(rows, columns, cell)) & set(goal))
            # Mostly numbers that some setting has, so that there often are ways; now and then any number.
            pillars[cell] = draw.choice([9, 9, beside_it, beside_it, beside_it, draw.randint(0, 4)])
        marks = {}
        for cell in cells[len(places):]:
            if draw.randint(0, 5) == 0:
                marks[cell] = draw.choice([1, 2, 1 if cell in goal else 2])
        self.hold(rows, columns, pillars, marks)

    def test_halls_with_numbers_and_marks(self):
        draw = random.Random(20261119)
        for turn in range(300):
            self.hold_drawn(draw, draw.randint(1, 3), draw.randint(1, 4), (0, 3))

    def test_large_halls_with_numbers_and_marks(self):
        draw = random.Random(4 * 4)
        for turn in range(60):
            self.hold_drawn(draw, 4, 4, (5, 14))

    def test_every_set_of_cells_in_small_halls(self):
        halls = [(1, 1, {}), (2, 2, {0: 2}), (2, 3, {3: 1}), (3, 2, {0: 0, 3: 9}), (1, 4, {1: 2})]
        for rows, columns, numbers in halls:
            begun = [begins(rows, columns)] + [pillar(cell, number) for cell, number in numbers.items()]
            for size in range(rows * columns + 2):
                for cells in itertools.combinations(range(rows * columns + 1), size):
                    self.hold_calls(begun + [try_out(*cells), lit(*cells)])

    def test_numbers_that_leave_one_way(self):
        draw = random.Random(8)
        for turn in range(200):
            rows, columns = draw.randint(2, 4), draw.randint(2, 4)
            cells = list(range(rows * columns))
            places = draw.sample(cells, draw.randint(max(2, len(cells) - 9), len(cells) - 1))
            # The numbers of one setting: these often leave it alone.
            goal = draw.choice(plain_settings(rows, columns, dict.fromkeys(places, 9)))
            calls = [begins(rows, columns)]
            for cell in places:
                beside_it = len(set(plain_beside(rows, columns, cell)) & set(goal))
                calls.append(pillar(cell, draw.choice([beside_it] * 5 + [9])))
            self.hold_calls(calls + [FEWEST, try_out(*goal), lit(*goal), STATE])

    def drawn_cell(self, draw, plain):
        return draw.choice([16, 2 ** 32 - 1]) if draw.randint(0, 19) == 0 else draw.choice(plain.cells())

    def drawn_cells(self, draw, plain):
        still = plain.found()
        cells = list(draw.choice(still)) if still and draw.randint(0, 2) > 0 else []
        draw.shuffle(cells)
        cells += [self.drawn_cell(draw, plain) for place in range(draw.choice([0, 0, 0, 0, 1, 1, 2, 5, 40]))]
        return cells[draw.choice([0, 0, 0, 0, 1]):]

    def drawn_call(self, draw, plain):
        cell = self.drawn_cell(draw, plain)
        number = draw.choice([0, 1, 1, 2, 2, 3, 4, 9, 9, 5, 8, 10, 2 ** 32 - 1])
        sizes = [draw.choice([1, 2, 3, 3, 4, 4]), draw.choice([1, 2, 2, 3, 3, 4])]
        if draw.randint(0, 3) == 0:
            sizes[draw.randint(0, 1)] = draw.choice([0, 5, 2 ** 32 - 1])
        return draw.choice([
            begins(*sizes), pillar(cell, number), pillar(cell, number), gone(cell),
            mark(cell, draw.choice([0, 1, 2, 2, 3])), show(draw.choice([0, 1, 2, 5, 2 ** 32 - 1])),
            MANY, SURE, FEWEST, LAMPS, STATE,
            try_out(*self.drawn_cells(draw, plain)), try_out(*self.drawn_cells(draw, plain)),
            lit(*self.drawn_cells(draw, plain)),
        ])

    def test_lines_of_many_calls(self):
        draw = random.Random(12)
        plain = PlainHall()
        asked, refused, tried, needed = set(), set(), set(), set()
        for turn in range(150):
            plain.begin(1, 1)
            calls, expected = [], []
            for place in range(draw.choice([1, 20, 80, 80])):
                calls.append(self.drawn_call(draw, plain))
                expected.append(plain.answer(calls[-1]))
                asked.add(calls[-1][0])
                if expected[-1][0] < 0:
                    refused.add((calls[-1][0], expected[-1][0]))
                if calls[-1][0] == 7:
                    tried.add(expected[-1][0])
                if calls[-1][0] == 8:
                    needed.add(expected[-1][0])
            self.assertEqual(told(*calls), expected, calls)
        # The lines are worth something only while each call, each refusal and each answer to try comes up in them.
        self.assertEqual(asked, set(range(12)))
        self.assertEqual(refused, {
            (0, -1), (1, -2), (1, -1), (1, -4), (2, -2), (2, -4), (3, -2), (3, -1), (3, -4), (5, -2), (6, -6), (7, -1),
            (8, -6), (9, -6), (10, -2),
        })
        self.assertEqual(tried, {-1, 0, 1, 2, 3, 4})
        self.assertLessEqual({0, 1}, needed)


if __name__ == "__main__":
    unittest.main()
