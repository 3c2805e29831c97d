"""The operations on a history; each gives back its answer as a list of numbers.

The branches that are handed in exist. Every error is found before anything is
changed, so that an error leaves the history as it was.
"""

from textgrafts.changes import Change
from textgrafts.codes import CONFLICTS, DEPENDENCIES, LIMITS_EXCEEDED, NOTHING_CHANGES, NOT_THERE, TOO_MANY
from textgrafts.differences import difference
from textgrafts.writing import hunks_laid_down, lines_laid_down, pairs_laid_down, positions_laid_down

MOST_BRANCHES = 5
MOST_CHANGES = 12
MOST_LINES = 8
MOST_BYTES = 12


def create_branch(history, branch):
    """A new branch with the same changes."""
    if len(history.branches) >= MOST_BRANCHES:
        return [TOO_MANY]
    history.branches.append(list(history.branches[branch]))
    return [len(history.branches) - 1]


def exceed_limits(lines):
    return len(lines) > MOST_LINES or any([len(line) > MOST_BYTES for line in lines])


def write(history, branch, lines):
    """Records the change from the text of the branch to the lines."""
    if exceed_limits(lines):
        return [LIMITS_EXCEEDED]
    content = history.content(branch)
    if content.conflicts():
        return [CONFLICTS]
    if content.text() == lines:
        return [NOTHING_CHANGES]
    if len(history.changes) >= MOST_CHANGES:
        return [TOO_MANY]
    change = difference(len(history.changes), content.ordered, content.text(), lines)
    return [history.record(branch, change)]


def can_be_deleted(history, branch, positions):
    """Whether the positions are some, each given once and of a visible line."""
    if not positions or len(set(positions)) < len(positions):
        return False
    visible = history.content(branch).visible
    return all([position in visible for position in positions])


def delete(history, branch, positions):
    """Records a change that deletes the lines at the positions."""
    if not can_be_deleted(history, branch, positions):
        return [NOT_THERE]
    if len(history.changes) >= MOST_CHANGES:
        return [TOO_MANY]
    return [history.record(branch, Change([], positions))]


def apply_change(history, branch, change):
    """Adds a change to the branch."""
    if not history.has_change(change):
        return [NOT_THERE]
    present = history.branches[branch]
    if change in present:
        return [NOTHING_CHANGES]
    missing = [number for number in history.changes[change].dependencies() if number not in present]
    if missing:
        return [DEPENDENCIES, len(missing)] + missing
    history.include(branch, [change])
    return [len(history.branches[branch])]


def merge(history, branch, other):
    """Adds all changes of the other branch to the branch."""
    present = history.branches[branch]
    added = [number for number in history.branches[other] if number not in present]
    history.include(branch, added)
    return [len(added)]


def revert(history, branch, change):
    """Removes a change from the branch."""
    present = history.branches[branch]
    if change not in present:
        return [NOTHING_CHANGES]
    dependent = [number for number in present if change in history.changes[number].dependencies()]
    if dependent:
        return [DEPENDENCIES, len(dependent)] + dependent
    history.exclude(branch, change)
    return [len(history.branches[branch])]


def show(history, branch):
    """The text of the branch."""
    content = history.content(branch)
    conflicts = content.conflicts()
    if conflicts:
        return [CONFLICTS, len(conflicts)]
    text = content.text()
    return [len(text)] + lines_laid_down(text)


def tell_lines(history, branch):
    """The visible lines of the branch and the pairs in conflict, by their positions."""
    content = history.content(branch)
    conflicts = content.conflicts()
    visible = [len(content.ordered)] + positions_laid_down(content.ordered)
    return visible + [len(conflicts)] + pairs_laid_down(conflicts)


def tell_change(history, change):
    """What the change inserts, what it deletes, and on which changes it depends."""
    if not history.has_change(change):
        return [NOT_THERE]
    told = history.changes[change]
    inserted = [len(told.hunks)] + hunks_laid_down(told.hunks)
    deleted = [len(told.deleted)] + positions_laid_down(told.deleted)
    dependencies = told.dependencies()
    return inserted + deleted + [len(dependencies)] + dependencies
