"""The smallest choice of cells that has one cell of each of several groups."""


def meets_all(choice, groups):
    """Whether each group has a cell of the choice."""
    for group in groups:
        if not any([cell in group for cell in choice]):
            return False
    return True


def with_one_more(cells, choices):
    """Each choice, gone on with by each cell behind its last one."""
    further = []
    for choice in choices:
        for cell in cells:
            if len(choice) == 0 or cell > choice[-1]:
                further.append(choice + [cell])
    return further


def fewest_that_meet(cells, groups):
    """The smallest choice of the cells, which are told rising, that has a cell of each group.

    Of several choices as small, the one that has the first cell that is in one of two only. Each group has some of
    these cells, so all of them together are always such a choice.
    """
    # Choices of one size stand in the order in which they are to be taken: each is gone on with in the cells' order.
    choices = [[]]
    while True:
        for choice in choices:
            if meets_all(choice, groups):
                return choice
        choices = with_one_more(cells, choices)
