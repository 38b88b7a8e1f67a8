"""A hall as it stands: its rows and columns, its pillars and its marks, and the calls about it."""

from lampways.choice import fewest_that_meet
from lampways.light import all_settings, beside, is_lit_by_another, lit_by

MOST_ROWS = 4
MOST_COLUMNS = 4
MOST_BESIDE = 4
NO_NUMBER = 9

NOT_MARKED = 0
WITH_LAMP = 1
WITHOUT_LAMP = 2

WRONG_NUMBER = -1
TOLD_TWICE = -1
NO_SUCH = -2
WRONG_CELL = -4
NOT_THAT_MANY_WAYS = -6

IS_A_WAY = 0
NOT_ON_A_FREE_CELL = 1
LIT_BY_ANOTHER = 2
LEFT_DARK = 3
NUMBER_MISSED = 4


def with_lists(number, rows):
    """An answer: a number, and behind it each list, behind how many numbers it has."""
    answer = [number]
    for row in rows:
        answer.append(len(row))
        answer.extend(row)
    return answer


def in_all(cell, ways):
    return all([cell in lamps for lamps in ways])


def in_none(cell, ways):
    return not any([cell in lamps for lamps in ways])


class Plan:
    """Each call gives back the numbers that are answered: a refusal's number alone, or the number and its lists."""

    def __init__(self):
        self.rows = 1
        self.columns = 1
        self.pillars = {}
        self.marks = {}

    def begins(self, many_rows, many_columns):
        if not (1 <= many_rows <= MOST_ROWS and 1 <= many_columns <= MOST_COLUMNS):
            return [WRONG_NUMBER]
        self.rows = many_rows
        self.columns = many_columns
        self.pillars = {}
        self.marks = {}
        return [many_rows * many_columns]

    def pillar(self, cell, number):
        if not self.has_cell(cell):
            return [NO_SUCH]
        if number > MOST_BESIDE and number != NO_NUMBER:
            return [WRONG_NUMBER]
        if cell in self.marks:
            return [WRONG_CELL]
        self.pillars[cell] = number
        return [len(self.pillars)]

    def gone(self, cell):
        if not self.has_cell(cell):
            return [NO_SUCH]
        if cell not in self.pillars:
            return [WRONG_CELL]
        self.pillars.pop(cell)
        return [len(self.pillars)]

    def mark(self, cell, how):
        if not self.has_cell(cell):
            return [NO_SUCH]
        if how not in (NOT_MARKED, WITH_LAMP, WITHOUT_LAMP):
            return [WRONG_NUMBER]
        if cell in self.pillars:
            return [WRONG_CELL]
        self.marks.pop(cell, NOT_MARKED)
        if how != NOT_MARKED:
            self.marks[cell] = how
        return [0]

    def many(self):
        found = self.settings()
        ways = self.ways_among(found)
        return with_lists(len(self.open_among(ways)), [[len(ways), len(found)]])

    def show(self, k):
        shown = self.open_ways()
        if k >= len(shown):
            return [NO_SUCH]
        return with_lists(len(shown[k]), [shown[k]])

    def sure(self):
        ways = self.open_ways()
        if len(ways) == 0:
            return [NOT_THAT_MANY_WAYS]
        free = self.free_cells()
        always = [cell for cell in free if in_all(cell, ways)]
        never = [cell for cell in free if in_none(cell, ways)]
        return with_lists(len(always), [always, never])

    def try_out(self, cells):
        # A call that is refused has no other answer: a cell that isn't there may be told twice, too.
        if len(set(cells)) < len(cells):
            return [TOLD_TWICE]
        return [self.first_wrong(cells)]

    def fewest(self):
        missed = [self.numbers_missed(lamps) for lamps in self.settings()]
        ruled_out = [cells for cells in missed if len(cells) > 0]
        if len(missed) - len(ruled_out) != 1:
            return [NOT_THAT_MANY_WAYS]
        # The one way has all numbers, so told numbers are enough if each other setting misses one of them.
        chosen = fewest_that_meet(self.numbered(), ruled_out)
        return with_lists(len(chosen), [chosen])

    def lamps(self):
        ways = self.open_ways()
        if len(ways) == 0:
            return [NOT_THAT_MANY_WAYS]
        # Of several as small, min takes the one that comes first.
        smallest = min(ways, key=len)
        return with_lists(len(smallest), [smallest])

    def lit(self, cells):
        if not self.all_free(cells):
            return [NO_SUCH]
        lit = lit_by(self.rows, self.columns, self.pillars, cells)
        return with_lists(len(lit), [lit])

    def state(self):
        pillars = []
        for cell in sorted(self.pillars.keys()):
            pillars.extend([cell, self.pillars[cell]])
        size = [self.rows, self.columns]
        return with_lists(len(self.pillars), [size, pillars, self.marked(WITH_LAMP), self.marked(WITHOUT_LAMP)])

    def has_cell(self, cell):
        return cell < self.rows * self.columns

    def free_cells(self):
        return [cell for cell in range(self.rows * self.columns) if cell not in self.pillars]

    def all_free(self, cells):
        return all([self.has_cell(cell) and cell not in self.pillars for cell in cells])

    def numbered(self):
        """The cells of the pillars with a number, rising."""
        return [cell for cell in sorted(self.pillars.keys()) if self.pillars[cell] != NO_NUMBER]

    def marked(self, how):
        """The cells that are marked in one of the two ways, rising."""
        return [cell for cell in sorted(self.marks.keys()) if self.marks[cell] == how]

    def settings(self):
        return all_settings(self.rows, self.columns, self.pillars)

    def ways_among(self, found):
        return [lamps for lamps in found if len(self.numbers_missed(lamps)) == 0]

    def open_among(self, ways):
        return [lamps for lamps in ways if self.keeps_marks(lamps)]

    def open_ways(self):
        return self.open_among(self.ways_among(self.settings()))

    def numbers_missed(self, lamps):
        """The cells of the pillars that don't have as many lamps beside them as their number, rising."""
        return [cell for cell in self.numbered() if self.lamps_beside(cell, lamps) != self.pillars[cell]]

    def lamps_beside(self, cell, lamps):
        return len([near for near in beside(self.rows, self.columns, cell) if near in lamps])

    def keeps_marks(self, lamps):
        for cell, how in self.marks.items():
            if (cell in lamps) != (how == WITH_LAMP):
                return False
        return True

    def first_wrong(self, cells):
        """The first that is wrong with lamps on these cells, none of which is told twice."""
        if not self.all_free(cells):
            return NOT_ON_A_FREE_CELL
        if is_lit_by_another(self.rows, self.columns, self.pillars, cells):
            return LIT_BY_ANOTHER
        if lit_by(self.rows, self.columns, self.pillars, cells) != self.free_cells():
            return LEFT_DARK
        if len(self.numbers_missed(cells)) > 0:
            return NUMBER_MISSED
        return IS_A_WAY
