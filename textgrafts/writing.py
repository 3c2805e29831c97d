"""How what is answered is laid down as numbers, one thing behind another."""


def lines_laid_down(lines):
    """The lines, each behind its number of bytes."""
    numbers = []
    for line in lines:
        numbers.append(len(line))
        numbers.extend(line)
    return numbers


def positions_laid_down(positions):
    """The positions, two numbers for each."""
    numbers = []
    for position in positions:
        numbers.extend(position)
    return numbers


def hunks_laid_down(hunks):
    """The hunks: for each where it stands, how many lines it has, and these."""
    numbers = []
    for hunk in hunks:
        numbers.extend(positions_laid_down([hunk.before, hunk.after]))
        numbers.append(len(hunk.lines))
        numbers.extend(lines_laid_down(hunk.lines))
    return numbers


def pairs_laid_down(pairs):
    """The pairs of positions, four numbers for each."""
    numbers = []
    for pair in pairs:
        numbers.extend(positions_laid_down(pair))
    return numbers
