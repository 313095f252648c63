"""The house's calls, answered."""

from granthouse.calls import do_call, read_call
from granthouse.house import House
from granthouse.limits import FULL, MOST_DONE
from granthouse.reader import Reader


def answer(house, call):
    if house.done >= MOST_DONE:
        return [FULL]
    told = do_call(house, house.done + 1, call)
    if told > 0:
        house.done = house.done + 1
    return [told]


def answers(calls):
    """For each call, in order: how many numbers are answered, then these."""
    house = House()
    reader = Reader(calls)
    given = []
    while not reader.at_end():
        told = answer(house, read_call(reader))
        given.append(len(told))
        given.extend(told)
    return given
