"""The checks of arguments, each kind in the order in which errors are told."""

from strataproofs.limits import FIRST_YEAR, LAST_YEAR, MOST_FACTS, MOST_UNITS
from strataproofs.refusals import Inactive, Missing, OutOfRange


def check_unit(record, unit):
    """Refuses a unit number that is out of range, or of a unit that does not exist."""
    check_unit_range(unit)
    check_unit_exists(record, unit)


def check_units(record, a, b):
    """Refuses two unit numbers as `check_unit` does; the range of both comes first."""
    check_unit_range(a)
    check_unit_range(b)
    check_unit_exists(record, a)
    check_unit_exists(record, b)


def check_different_units(record, a, b):
    """Refuses two unit numbers as `check_units` does, and equal ones."""
    if a == b:
        raise OutOfRange()
    check_units(record, a, b)


def check_unit_and_years(record, unit, first, last):
    """Refuses a unit as `check_unit` does, and years out of range or in the wrong order."""
    check_unit_range(unit)
    if first < FIRST_YEAR or first > last or last > LAST_YEAR:
        raise OutOfRange()
    check_unit_exists(record, unit)


def check_active_fact(record, fact_id):
    """Refuses a fact id that is out of range, was never given, or is of a retracted fact."""
    if fact_id < 1 or fact_id > MOST_FACTS:
        raise OutOfRange()
    if fact_id > record.accepted_count:
        raise Missing()
    if fact_id not in record.active_facts:
        raise Inactive()


def check_unit_range(unit):
    """Refuses a number that no unit can have."""
    if unit < 0 or unit >= MOST_UNITS:
        raise OutOfRange()


def check_unit_exists(record, unit):
    """Refuses the number of a unit that was not added."""
    if unit >= record.unit_count:
        raise Missing()
