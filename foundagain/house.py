"""The calls on a house, as they stand in one list of numbers, and what they answer."""

from foundagain.state import House

PUT = 0
DROP = 1
MAKE = 2
BEGIN = 3
WORK = 4
END = 5
TIDY = 6
SEGMENTS = 7


def answers(calls):
    """For each call, in order, how many numbers are answered, then these."""
    house = House()
    answered = []
    place = 0
    while place < len(calls):
        first = place + 2
        behind = first + calls[place + 1]
        answer = answer_of(house, calls[place], calls[first:behind])
        answered.append(len(answer))
        answered.extend(answer)
        # No call is handed a list: the count of its lists, always 0, is stepped over.
        place = behind + 1
    return answered


def answer_of(house, call, numbers):
    """What the house answers to one call with these numbers."""
    if call == PUT:
        return house.put(numbers[0], numbers[1:])
    if call == DROP:
        return house.drop(numbers[0])
    if call == MAKE:
        return house.make()
    if call == BEGIN:
        return house.begin(numbers)
    if call == WORK:
        return house.work(numbers[0], numbers[1])
    if call == END:
        return house.end(numbers[0])
    if call == TIDY:
        return house.tidy()
    if call == SEGMENTS:
        return house.segments()
    raise NotImplementedError("of the calls, put to segments are built so far")
