"""The house's calls, answered."""

from granthouse.calls import does_something, read_call
from granthouse.house import House
from granthouse.limits import FULL, MOST_DONE
from granthouse.log import do_call
from granthouse.reader import Reader
from granthouse.tellings import tell_call


def answer(house, log, call):
    if not does_something(call):
        return tell_call(house, log, call)
    if len(log) >= MOST_DONE:
        return [FULL]
    told = do_call(house, len(log) + 1, call)
    if told > 0:
        log.append(call)
    return [told]


def answers(calls):
    """For each call, in order: how many numbers are answered, then these."""
    house = House()
    log = []
    reader = Reader(calls)
    given = []
    while not reader.at_end():
        told = answer(house, log, read_call(reader))
        given.append(len(told))
        given.extend(told)
    return given
