"""What changes make together: the visible lines, their order and their conflicts."""


def visible_lines(changes):
    """The lines that are inserted and not deleted, by their positions."""
    deleted = {}
    for change in changes:
        for position in change.deleted:
            deleted[position] = True
    visible = {}
    for change in changes:
        for hunk in change.hunks:
            for position, line in zip(hunk.positions, hunk.lines):
                if position not in deleted:
                    visible[position] = line
    return visible


def steps_forward(changes):
    """For each position, the ones that come next to it in some hunk."""
    steps = {}
    for change in changes:
        for hunk in change.hunks:
            chain = [hunk.before] + hunk.positions + [hunk.after]
            for earlier, later in zip(chain, chain[1:]):
                steps.setdefault(earlier, []).append(later)
    return steps


def reached_from(position, steps):
    """The positions that the given one precedes, as the keys of a dict."""
    reached = {}
    waiting = list(steps.get(position, []))
    while waiting:
        found = waiting.pop()
        if found not in reached:
            reached[found] = True
            waiting.extend(steps.get(found, []))
    return reached


def is_free(position, remaining, reached):
    """Whether none of the remaining positions precedes this one."""
    for other in remaining:
        if position in reached[other]:
            return False
    return True


def first_free(remaining, reached):
    """The first of the remaining positions that none of them precedes; there always is one."""
    for position in remaining:
        if is_free(position, remaining, reached):
            return position


def put_in_order(visible, reached):
    """The visible positions, each behind those that precede it."""
    remaining = sorted(visible)
    ordered = []
    while remaining:
        position = first_free(remaining, reached)
        remaining.remove(position)
        ordered.append(position)
    return ordered


class Content:
    """The visible lines of some changes."""

    def __init__(self, changes):
        steps = steps_forward(changes)
        self.visible = visible_lines(changes)
        self.reached = {}
        for position in self.visible:
            self.reached[position] = reached_from(position, steps)
        self.ordered = put_in_order(self.visible, self.reached)

    def text(self):
        """The visible lines in order."""
        return [self.visible[position] for position in self.ordered]

    def conflicts(self):
        """The pairs of positions in conflict, in the order of the first and then of the second."""
        pairs = []
        for k, first in enumerate(self.ordered):
            for second in self.ordered[k + 1:]:
                # The order never puts a line behind one that it precedes, so one way round is enough.
                if second not in self.reached[first]:
                    pairs.append((first, second))
        return pairs
