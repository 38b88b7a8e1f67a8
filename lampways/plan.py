"""A hall as it stands: its rows and columns, its pillars and its marks, and the calls about it."""

from lampways.light import all_settings, beside

MOST_ROWS = 4
MOST_COLUMNS = 4
MOST_BESIDE = 4
NO_NUMBER = 9

NOT_MARKED = 0
WITH_LAMP = 1
WITHOUT_LAMP = 2

WRONG_NUMBER = -1
NO_SUCH = -2
WRONG_CELL = -4


class Plan:
    """Each call gives back the numbers that are answered: a refusal's number alone, or the number and its lists."""

    def __init__(self):
        self.rows = 1
        self.columns = 1
        self.pillars = {}
        self.marks = {}

    def begins(self, many_rows, many_columns):
        if not (1 <= many_rows <= MOST_ROWS and 1 <= many_columns <= MOST_COLUMNS):
            return [WRONG_NUMBER]
        self.rows = many_rows
        self.columns = many_columns
        self.pillars = {}
        self.marks = {}
        return [many_rows * many_columns]

    def pillar(self, cell, number):
        if not self.has_cell(cell):
            return [NO_SUCH]
        if number > MOST_BESIDE and number != NO_NUMBER:
            return [WRONG_NUMBER]
        if cell in self.marks:
            return [WRONG_CELL]
        self.pillars[cell] = number
        return [len(self.pillars)]

    def gone(self, cell):
        if not self.has_cell(cell):
            return [NO_SUCH]
        if cell not in self.pillars:
            return [WRONG_CELL]
        self.pillars.pop(cell)
        return [len(self.pillars)]

    def mark(self, cell, how):
        if not self.has_cell(cell):
            return [NO_SUCH]
        if how not in (NOT_MARKED, WITH_LAMP, WITHOUT_LAMP):
            return [WRONG_NUMBER]
        if cell in self.pillars:
            return [WRONG_CELL]
        self.marks.pop(cell, NOT_MARKED)
        if how != NOT_MARKED:
            self.marks[cell] = how
        return [0]

    def many(self):
        found = self.settings()
        ways = self.ways_among(found)
        return [len(self.open_among(ways)), 2, len(ways), len(found)]

    def show(self, k):
        shown = self.open_among(self.ways_among(self.settings()))
        if k >= len(shown):
            return [NO_SUCH]
        lamps = shown[k]
        return [len(lamps), len(lamps)] + lamps

    def has_cell(self, cell):
        return cell < self.rows * self.columns

    def settings(self):
        return all_settings(self.rows, self.columns, self.pillars)

    def ways_among(self, found):
        return [lamps for lamps in found if self.is_way(lamps)]

    def open_among(self, ways):
        return [lamps for lamps in ways if self.keeps_marks(lamps)]

    def is_way(self, lamps):
        """Whether a setting has the told number of lamps beside each pillar with a number."""
        for cell, number in self.pillars.items():
            if number != NO_NUMBER and self.lamps_beside(cell, lamps) != number:
                return False
        return True

    def lamps_beside(self, cell, lamps):
        return len([near for near in beside(self.rows, self.columns, cell) if near in lamps])

    def keeps_marks(self, lamps):
        for cell, how in self.marks.items():
            if (cell in lamps) != (how == WITH_LAMP):
                return False
        return True
