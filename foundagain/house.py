"""The calls on a house and its disk, as they stand in one list of numbers, and what they answer."""

from foundagain.keeper import Keeper

PUT = 0
DROP = 1
MAKE = 2
BEGIN = 3
WORK = 4
END = 5
TIDY = 6
SEGMENTS = 7
FIND = 8
TEXT = 9
KEEP = 10
FAIL = 11
REOPEN = 12
DEEDS = 13
BLOCK = 14


def answers(calls):
    """For each call, in order, how many numbers are answered, then these."""
    keeper = Keeper()
    answered = []
    place = 0
    while place < len(calls):
        first = place + 2
        behind = first + calls[place + 1]
        answer = answer_of(keeper, calls[place], calls[first:behind])
        answered.append(len(answer))
        answered.extend(answer)
        # No call is handed a list: the count of its lists, always 0, is stepped over.
        place = behind + 1
    return answered


def answer_of(keeper, call, numbers):
    """What is answered to one call with these numbers."""
    if call <= TEXT:
        return answer_of_house(keeper.house, call, numbers)
    return answer_of_keeper(keeper, call, numbers)


def answer_of_house(house, call, numbers):
    """What the house answers to one of the calls that have nothing to do with its disk."""
    if call == PUT:
        return house.put(numbers[0], numbers[1:])
    if call == DROP:
        return house.drop(numbers[0])
    if call == MAKE:
        return house.make()
    if call == BEGIN:
        return house.begin(numbers)
    if call == WORK:
        return house.work(numbers[0], numbers[1])
    if call == END:
        return house.end(numbers[0])
    if call == TIDY:
        return house.tidy()
    if call == SEGMENTS:
        return house.segments()
    if call == FIND:
        return house.find(numbers)
    return house.text(numbers[0])


def answer_of_keeper(keeper, call, numbers):
    """What is answered to one of the calls about the disk."""
    if call == KEEP:
        return keeper.keep()
    if call == FAIL:
        return keeper.fail(numbers[0], numbers[1:])
    if call == REOPEN:
        return keeper.reopen()
    if call == DEEDS:
        return keeper.deeds()
    if call == BLOCK:
        return keeper.block(numbers[0])
    return keeper.free()
