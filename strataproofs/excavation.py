"""The calls of a session, handed in as one list, and their answers."""

from strataproofs.operations import (
    add_above,
    add_date,
    add_find,
    add_same,
    add_unit,
    find_year_range,
    is_earlier,
    retract,
    year_range,
)
from strataproofs.record import Record
from strataproofs.refusals import Refusal

ADD_UNIT = 1
ADD_ABOVE = 2
ADD_SAME = 3
ADD_FIND = 4
ADD_DATE = 5
RETRACT = 6
IS_EARLIER = 7
YEAR_RANGE = 8

# How many arguments the operations have, in the order of their numbers from 1.
ARGUMENT_COUNTS = (0, 2, 2, 3, 3, 1, 2, 1, 1)


class UnknownOperation(Exception):
    """A call has the number of no operation that is built."""


def answers(calls):
    """The answers of the calls on a new session: for each how many numbers, then these."""
    record = Record()
    numbers = []
    place = 0
    while place < len(calls):
        end = place + 1 + argument_count(calls[place])
        answer = answer_of(record, calls[place:end])
        numbers.append(len(answer))
        numbers.extend(answer)
        place = end
    return numbers


def argument_count(operation):
    """How many arguments a call of the operation has."""
    if operation < 1 or operation > len(ARGUMENT_COUNTS):
        raise UnknownOperation(f"operation {operation} is not built")
    return ARGUMENT_COUNTS[operation - 1]


def answer_of(record, call):
    """What one call answers, be it refused or not."""
    try:
        return change(record, call) if call[0] <= RETRACT else question(record, call)
    except Refusal as refusal:
        return refusal.answer


def change(record, call):
    """Carries out a call that changes the session; gives back its answer."""
    operation = call[0]
    if operation == ADD_UNIT:
        return add_unit(record)
    if operation == ADD_ABOVE:
        return add_above(record, call[1], call[2])
    if operation == ADD_SAME:
        return add_same(record, call[1], call[2])
    if operation == ADD_FIND:
        return add_find(record, call[1], call[2], call[3])
    if operation == ADD_DATE:
        return add_date(record, call[1], call[2], call[3])
    return retract(record, call[1])


def question(record, call):
    """Gives back the answer of a call that changes nothing."""
    operation = call[0]
    if operation == IS_EARLIER:
        return is_earlier(record, call[1], call[2])
    if operation == YEAR_RANGE:
        return year_range(record, call[1])
    # Numbers beyond the last one were turned away when the call was taken from the list.
    return find_year_range(record, call[1])
