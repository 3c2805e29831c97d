"""Changes, their hunks, and the positions between which these stand.

A position is a tuple of two numbers: of a line, the change that inserted it
and its number there; of the start or the end, one of those below and 0.
"""

AT_START = -1
AT_END = -2


class Hunk:
    """Lines that are inserted between two positions."""

    def __init__(self, before, after, positions, lines):
        self.before = before
        self.after = after
        self.positions = positions
        self.lines = lines


class Change:
    """Hunks, and the positions of the lines that are deleted."""

    def __init__(self, hunks, deleted):
        self.hunks = hunks
        self.deleted = deleted

    def dependencies(self):
        """The numbers of the changes it depends on, in increasing order."""
        positions = list(self.deleted)
        for hunk in self.hunks:
            positions.append(hunk.before)
            positions.append(hunk.after)
        return sorted(set([position[0] for position in positions if position[0] not in (AT_START, AT_END)]))
