"""The calls of a session, handed in as one list, and their answers."""

from strataproofs.operation_numbers import (
    ADD_ABOVE,
    ADD_DATE,
    ADD_FIND,
    ADD_SAME,
    ADD_UNIT,
    ARGUMENT_COUNTS,
    BEST_QUESTION,
    COUNT_SEQUENCES,
    FIND_YEAR_RANGE,
    FIRST_SEQUENCE,
    HARRIS_MATRIX,
    IS_EARLIER,
    POSITION_RANGE,
    RETRACT,
    SAME_YEAR,
    STRATUM,
    YEAR_RANGE,
)
from strataproofs.operations import (
    add_above,
    add_date,
    add_find,
    add_same,
    add_unit,
    best_question,
    count_sequences,
    explain,
    find_year_range,
    first_sequence,
    harris_matrix,
    is_earlier,
    list_facts,
    position_range,
    retract,
    same_year,
    stratum,
    year_range,
)
from strataproofs.record import Record
from strataproofs.refusals import Refusal


def answers(calls):
    """The answers of the calls on a new session: for each how many numbers, then these."""
    record = Record()
    numbers = []
    place = 0
    while place < len(calls):
        end = place + 1 + ARGUMENT_COUNTS[calls[place] - 1]
        answer = answer_of(record, calls[place:end])
        numbers.append(len(answer))
        numbers.extend(answer)
        place = end
    return numbers


def answer_of(record, call):
    """What one call answers, be it refused or not."""
    try:
        if call[0] <= RETRACT:
            return change(record, call)
        return question(record, call) if len(call) > 1 else question_of_all(record, call[0])
    except Refusal as refusal:
        return refusal.answer


def change(record, call):
    """Carries out a call that changes the session; gives back its answer."""
    operation = call[0]
    if operation == ADD_UNIT:
        return add_unit(record)
    if operation == ADD_ABOVE:
        return add_above(record, call[1], call[2])
    if operation == ADD_SAME:
        return add_same(record, call[1], call[2])
    if operation == ADD_FIND:
        return add_find(record, call[1], call[2], call[3])
    if operation == ADD_DATE:
        return add_date(record, call[1], call[2], call[3])
    return retract(record, call[1])


def question(record, call):
    """Gives back the answer of a question about units or about a fact."""
    operation = call[0]
    if operation == IS_EARLIER:
        return is_earlier(record, call[1], call[2])
    if operation == YEAR_RANGE:
        return year_range(record, call[1])
    if operation == FIND_YEAR_RANGE:
        return find_year_range(record, call[1])
    if operation == STRATUM:
        return stratum(record, call[1])
    if operation == POSITION_RANGE:
        return position_range(record, call[1])
    if operation == SAME_YEAR:
        return same_year(record, call[1], call[2])
    return explain(record, call[1], call[2])


def question_of_all(record, operation):
    """Gives back the answer of a question about the whole session."""
    if operation == HARRIS_MATRIX:
        return harris_matrix(record)
    if operation == FIRST_SEQUENCE:
        return first_sequence(record)
    if operation == COUNT_SEQUENCES:
        return count_sequences(record)
    if operation == BEST_QUESTION:
        return best_question(record)
    return list_facts(record)
