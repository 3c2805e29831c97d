"""The changes and the branches of a session."""

from textgrafts.content import Content


class History:
    """All changes by their numbers, and the branches as lists of such numbers."""

    def __init__(self):
        self.changes = []
        self.branches = [[]]

    def has_branch(self, branch):
        return branch < len(self.branches)

    def has_change(self, change):
        return change < len(self.changes)

    def content(self, branch):
        return Content([self.changes[number] for number in self.branches[branch]])

    def include(self, branch, numbers):
        """Adds changes that the branch doesn't have."""
        # Kept in increasing order, so that the order of adding leaves no trace.
        self.branches[branch] = sorted(self.branches[branch] + numbers)

    def exclude(self, branch, change):
        """Removes a change that the branch has."""
        self.branches[branch] = [number for number in self.branches[branch] if number != change]

    def record(self, branch, change):
        """Numbers a new change, adds it to the branch and gives back its number."""
        number = len(self.changes)
        self.changes.append(change)
        self.include(branch, [number])
        return number
