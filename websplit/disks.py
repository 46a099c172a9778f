"""Disks: rows at places, written one behind the other, which may stop at any step."""

from websplit.errors import Fell


class Disk:
    """Rows at places; told to fall at a step it writes nothing from there on."""

    def __init__(self, *, rows=None, fall=None):
        self.lists = {} if rows is None else {place: list(rows[place]) for place in rows}
        self.fall_step = fall
        self.written_rows = 0
        self.has_fallen = False

    def write(self, place, row):
        """Writes a row at a place: the next step."""
        # Behind the fall nothing is counted any more, so the step stays the same.
        if self.written_rows == self.fall_step:
            self.has_fallen = True
            raise Fell(self.fall_step)
        self.lists.setdefault(place, []).append(row)
        self.written_rows += 1

    def rows(self):
        """The rows of each place that has some, in the order in which they were written."""
        return {place: list(self.lists[place]) for place in self.lists if self.lists[place]}

    def steps(self):
        """How many rows were written in this disk's life, those that it began with left out."""
        return self.written_rows

    def is_up(self):
        """Whether it hasn't fallen."""
        return not self.has_fallen
