"""The calls on one hall, read from a list of whole numbers, and their answers as another."""

from lampways.plan import Plan

BEGINS = 0
PILLAR = 1
GONE = 2
MARK = 3
MANY = 4
SHOW = 5

# How many whole numbers stand behind a call's own number, in the order of the calls' numbers.
NUMBERS_BEHIND = (2, 2, 1, 2, 0, 1)


def answer_to(hall, call, numbers):
    """The numbers that are answered to one call."""
    if call == BEGINS:
        return hall.begins(numbers[0], numbers[1])
    if call == PILLAR:
        return hall.pillar(numbers[0], numbers[1])
    if call == GONE:
        return hall.gone(numbers[0])
    if call == MARK:
        return hall.mark(numbers[0], numbers[1])
    if call == MANY:
        return hall.many()
    return hall.show(numbers[0])


def answers(calls):
    """For each call, in order: how many numbers are answered, and these."""
    hall = Plan()
    told = []
    at = 0
    while at < len(calls):
        call = calls[at]
        behind = at + 1 + NUMBERS_BEHIND[call]
        answer = answer_to(hall, call, calls[at + 1:behind])
        told.append(len(answer))
        told.extend(answer)
        at = behind
    return told
