"""The calls on one hall, read from a list of whole numbers, and their answers as another."""

from lampways.plan import Plan

BEGINS = 0
PILLAR = 1
GONE = 2
MARK = 3
MANY = 4
SHOW = 5
SURE = 6
TRY_OUT = 7
FEWEST = 8
LAMPS = 9
LIT = 10

# How many whole numbers stand behind a call's own number, in the order of the calls' numbers; of a call with a list
# the one that tells how many numbers the list has, without the list.
NUMBERS_BEHIND = (2, 2, 1, 2, 0, 1, 0, 1, 0, 0, 1, 0)


def changing_answer(hall, call, numbers):
    """The numbers that are answered to a call that may change the hall."""
    if call == BEGINS:
        return hall.begins(numbers[0], numbers[1])
    if call == PILLAR:
        return hall.pillar(numbers[0], numbers[1])
    if call == GONE:
        return hall.gone(numbers[0])
    return hall.mark(numbers[0], numbers[1])


def asking_answer(hall, call, numbers):
    """The numbers that are answered to a call that leaves the hall as it is."""
    if call == MANY:
        return hall.many()
    if call == SHOW:
        return hall.show(numbers[0])
    if call == SURE:
        return hall.sure()
    if call == TRY_OUT:
        return hall.try_out(numbers[1:])
    if call == FEWEST:
        return hall.fewest()
    if call == LAMPS:
        return hall.lamps()
    if call == LIT:
        return hall.lit(numbers[1:])
    return hall.state()


def end_of_call(calls, at):
    """Where the call that begins at a place ends: the place of the next one."""
    call = calls[at]
    end = at + 1 + NUMBERS_BEHIND[call]
    if call in (TRY_OUT, LIT):
        end += calls[at + 1]
    return end


def answers(calls):
    """For each call, in order: how many numbers are answered, and these."""
    hall = Plan()
    told = []
    at = 0
    while at < len(calls):
        call = calls[at]
        end = end_of_call(calls, at)
        numbers = calls[at + 1:end]
        answer = changing_answer(hall, call, numbers) if call <= MARK else asking_answer(hall, call, numbers)
        told.append(len(answer))
        told.extend(answer)
        at = end
    return told
