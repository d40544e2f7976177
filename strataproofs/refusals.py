"""The refusals of calls, each with the numbers that are answered."""


class Refusal(Exception):
    """A call that is refused, with its answer."""

    def __init__(self, answer):
        self.answer = answer


class OutOfRange(Refusal):
    """An argument is outside its range, or the two units of a fact are equal."""

    def __init__(self):
        Refusal.__init__(self, [-1])


class Missing(Refusal):
    """A unit does not exist, or no fact with the id was ever accepted."""

    def __init__(self):
        Refusal.__init__(self, [-3])


class Inactive(Refusal):
    """A fact is no longer active."""

    def __init__(self):
        Refusal.__init__(self, [-8])


class Contradiction(Refusal):
    """A fact contradicts the active facts; the explanation is a list of fact ids."""

    def __init__(self, explanation):
        Refusal.__init__(self, [-4, len(explanation)] + explanation)


class NotFind(Refusal):
    """A fact is not a find fact."""

    def __init__(self):
        Refusal.__init__(self, [-4])


class NotEarlier(Refusal):
    """The first unit is not certainly earlier than the second."""

    def __init__(self):
        Refusal.__init__(self, [-4])


class NoneUndetermined(Refusal):
    """No pair of strata is undetermined."""

    def __init__(self):
        Refusal.__init__(self, [-4])


class Full(Refusal):
    """No further unit, or no further fact, has room."""

    def __init__(self):
        Refusal.__init__(self, [-9])
