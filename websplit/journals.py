"""Journals: entries on a disk, each of which is whole or not there at all, whatever step the disk falls at."""

FRONT = "front"


class Journal:
    """An entry is a note at each of some houses, and then a row at the front, which makes it whole.

    All rows of an entry begin with its number. Notes without a row at the front are of a deed that the disk fell amid:
    they count for nothing, and their number is never had again.
    """

    def __init__(self, disk):
        self.disk = disk
        rows = disk.rows()
        self.next_entry = 1 + max([row[0] for place in rows for row in rows[place]], default=-1)

    def enter(self, row, notes):
        """Writes an entry: the houses' notes, a dict, and the front's row."""
        for house in sorted(notes):
            self.disk.write(house, (self.next_entry, notes[house]))
        self.disk.write(FRONT, (self.next_entry, row))
        self.next_entry += 1

    def finished(self):
        """(row, notes) of all entries that are whole, in their order."""
        rows = self.disk.rows()
        notes = {}
        for house in [place for place in rows if place != FRONT]:
            for number, note in rows[house]:
                entry = notes.setdefault(number, {})
                entry[house] = note
        return [(row, notes.get(number, {})) for number, row in rows.get(FRONT, [])]
