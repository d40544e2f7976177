"""The state of a session."""


class Record:
    """The number of units, the active facts by their ids, and how many facts were ever accepted."""

    def __init__(self):
        self.unit_count = 0
        self.accepted_count = 0
        self.active_facts = {}

    def new_unit(self):
        """Adds a unit and gives back its number."""
        unit = self.unit_count
        self.unit_count = unit + 1
        return unit

    def accept(self, fact):
        """Makes a fact active and gives back its id."""
        fact_id = self.accepted_count + 1
        self.accepted_count = fact_id
        self.active_facts[fact_id] = fact
        return fact_id

    def withdraw(self, fact_id):
        """Makes an active fact inactive."""
        self.active_facts.pop(fact_id)
