"""What the tests share: calls written by their words, and answers told apart."""

from lampways.hall import answers

MANY = [4]
SURE = [6]
FEWEST = [8]
LAMPS = [9]
STATE = [11]


def begins(many_rows, many_columns):
    return [0, many_rows, many_columns]


def pillar(cell, number=9):
    return [1, cell, number]


def gone(cell):
    return [2, cell]


def mark(cell, how):
    return [3, cell, how]


def show(k):
    return [5, k]


def try_out(*cells):
    return [7, len(cells), *cells]


def lit(*cells):
    return [10, len(cells), *cells]


def everywhere(rows, columns, number):
    """The calls that make a hall with a pillar with that number on each cell."""
    return [begins(rows, columns)] + [pillar(cell, number) for cell in range(rows * columns)]


def joined(calls):
    return [number for call in calls for number in call]


def told(*calls):
    """The answers to the calls, a list for each."""
    flat = answers(joined(calls))
    apart = []
    at = 0
    while at < len(flat):
        apart.append(flat[at + 1:at + 1 + flat[at]])
        at += 1 + flat[at]
    return apart


def last(*calls):
    """The answer to the last of the calls."""
    return told(*calls)[-1]


def shown(*calls):
    """The cells of all open ways behind the calls, in the order of show."""
    count = last(*calls, MANY)[0]
    ways = []
    for k in range(count):
        answer = last(*calls, show(k))
        assert answer[0] == answer[1] == len(answer) - 2, answer
        ways.append(answer[2:])
    assert last(*calls, show(count)) == [-2]
    return ways
