"""Plain searches through small numbers of cases, in lexicographic order."""


def all_places(many, below):
    """All tuples of so many numbers from 0 to below - 1, in lexicographic order."""
    rows = [()]
    for _ in range(many):
        rows = [(*row, number) for row in rows for number in range(below)]
    return rows


def longest_clique(together):
    """The longest ascending tuple of indices of which every two go together by a square of truths; the first one."""
    longest = ()
    rows = [()]
    while rows:
        # Rows of one length stand in lexicographic order, as those that they come from.
        longest = rows[0]
        rows = [(*row, number) for row in rows for number in range(len(together))
                if all([other < number and together[other][number] for other in row])]
    return longest


def first_colouring(apart, below):
    """The first tuple of numbers from 0 to below - 1, different where a square of truths says so; or None."""
    return coloured_on(apart, below, ())


def coloured_on(apart, below, ahead):
    """The first such tuple that begins with the numbers ahead, or None."""
    place = len(ahead)
    if place == len(apart):
        return ahead
    # Numbers that are not used yet differ in name only, so the least of them stands for all.
    for number in range(min(below, max([-1, *ahead]) + 2)):
        if any([apart[place][other] and ahead[other] == number for other in range(place)]):
            continue
        found = coloured_on(apart, below, (*ahead, number))
        if found is not None:
            return found
    return None
