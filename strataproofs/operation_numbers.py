"""The numbers of the operations, by which a call names what it wants."""

ADD_UNIT = 1
ADD_ABOVE = 2
ADD_SAME = 3
ADD_FIND = 4
ADD_DATE = 5
RETRACT = 6
IS_EARLIER = 7
YEAR_RANGE = 8
FIND_YEAR_RANGE = 9
STRATUM = 10
POSITION_RANGE = 11
HARRIS_MATRIX = 12
FIRST_SEQUENCE = 13
COUNT_SEQUENCES = 14
SAME_YEAR = 15
EXPLAIN = 16
BEST_QUESTION = 17
LIST_FACTS = 18

# How many arguments the operations have, in the order of their numbers from 1.
ARGUMENT_COUNTS = (0, 2, 2, 3, 3, 1, 2, 1, 1, 1, 1, 0, 0, 0, 2, 2, 0, 0)
