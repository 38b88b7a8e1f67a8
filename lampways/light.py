"""What a lamp lights, what is beside a cell, and which settings of lamps there are."""


def lines_from(rows, columns, cell):
    """The cells above, left of, right of and below a cell: a list for each, the nearest first."""
    row, column = divmod(cell, columns)
    above = [line * columns + column for line in range(row - 1, -1, -1)]
    left = [row * columns + line for line in range(column - 1, -1, -1)]
    right = [row * columns + line for line in range(column + 1, columns)]
    below = [line * columns + column for line in range(row + 1, rows)]
    return [above, left, right, below]


def beside(rows, columns, cell):
    """The cells that have a side in common with a cell."""
    return [line[0] for line in lines_from(rows, columns, cell) if len(line) > 0]


def lit_from(rows, columns, pillars, cell):
    """The free cells that a lamp on a free cell lights, that cell among them."""
    lit = [cell]
    for line in lines_from(rows, columns, cell):
        for far in line:
            if far in pillars:
                break
            lit.append(far)
    return lit


def lit_by(rows, columns, pillars, lamps):
    """The free cells that lamps on free cells light together, rising."""
    lit = {}
    for lamp in lamps:
        for cell in lit_from(rows, columns, pillars, lamp):
            lit[cell] = True
    return sorted(lit.keys())


def is_lit_by_another(rows, columns, pillars, lamps):
    """Whether one of the lamps, each on a free cell of its own, is lit by another one."""
    for lamp in lamps:
        light = lit_from(rows, columns, pillars, lamp)
        if any([other != lamp and other in light for other in lamps]):
            return True
    return False


def bits_of(cells):
    """The cells as one whole number, a bit for each; no cell is told twice."""
    return sum([1 << cell for cell in cells])


def with_and_without(begun, cell, light):
    """Each begun pair of lamps and what they light, gone on with: first with a lamp on the cell, then without."""
    further = []
    for lamps, lit in begun:
        # Light goes both ways: a lamp on a cell that is still dark is lit by none of the lamps, and lights none.
        if lit & (1 << cell) == 0:
            further.append((lamps + [cell], lit | light))
        further.append((lamps, lit))
    return further


def all_settings(rows, columns, pillars):
    """All settings, the first one first: of each the cells of its lamps, rising."""
    free = [cell for cell in range(rows * columns) if cell not in pillars]
    begun = [([], 0)]
    for cell in free:
        # The cells are gone through in order, with a lamp first, so the settings come in their order by themselves.
        begun = with_and_without(begun, cell, bits_of(lit_from(rows, columns, pillars, cell)))
    everything = bits_of(free)
    return [lamps for lamps, lit in begun if lit == everything]
