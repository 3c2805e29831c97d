"""The change that leads from an old text to a new one."""

from textgrafts.changes import AT_END, AT_START, Change, Hunk

KEEP = "keep"
DELETE = "delete"
INSERT = "insert"


def kept_counts(old, new):
    """For each i and j, how many lines of old[i:] and new[j:] can be kept."""
    counts = [[0] * (len(new) + 1) for row in range(len(old) + 1)]
    for i in range(len(old) - 1, -1, -1):
        for j in range(len(new) - 1, -1, -1):
            if old[i] == new[j]:
                counts[i][j] = counts[i + 1][j + 1] + 1
            else:
                counts[i][j] = max(counts[i + 1][j], counts[i][j + 1])
    return counts


def next_step(old, new, i, j, counts):
    """What is done when i old and j new lines are behind."""
    if i == len(old):
        return INSERT
    if j == len(new):
        return DELETE
    if old[i] == new[j]:
        return KEEP
    if counts[i + 1][j] >= counts[i][j + 1]:
        return DELETE
    return INSERT


def edit_steps(old, new):
    """The steps in order, each with how many old and new lines are behind it."""
    counts = kept_counts(old, new)
    steps = []
    i = 0
    j = 0
    while i < len(old) or j < len(new):
        step = next_step(old, new, i, j, counts)
        steps.append((step, i, j))
        if step != INSERT:
            i += 1
        if step != DELETE:
            j += 1
    return steps


def hunks_in_gaps(number, positions, gaps):
    """One hunk for each gap with lines in it; gap 0 is ahead of the first position."""
    bounds = [(AT_START, 0)] + positions + [(AT_END, 0)]
    hunks = []
    count = 0
    for gap, lines in enumerate(gaps):
        if lines:
            inserted = [(number, count + k) for k in range(len(lines))]
            hunks.append(Hunk(bounds[gap], bounds[gap + 1], inserted, lines))
            count += len(lines)
    return hunks


def difference(number, positions, old, new):
    """The change with this number from the old lines, at these positions, to the new ones."""
    gaps = [[] for gap in range(len(old) + 1)]
    deleted = []
    for step, i, j in edit_steps(old, new):
        if step == INSERT:
            gaps[i].append(new[j])
        if step == DELETE:
            deleted.append(positions[i])
    return Change(hunks_in_gaps(number, positions, gaps), deleted)
