"""Batches of products in a pipe, and the slop between them."""

from itertools import permutations


def normalize(sequence):
    """The normalized sequence of the same units."""
    rows = []
    for product, amount in sequence:
        if rows and rows[-1][0] == product:
            rows[-1] = (product, rows[-1][1] + amount)
        else:
            rows.append((product, amount))
    return tuple(rows)


def units(sequence):
    """The number of the units of a sequence."""
    return sum([batch[1] for batch in sequence])


def split_at(sequence, amount):
    """The first units of a sequence, so many, and the others."""
    ahead = []
    behind = []
    left = amount
    for product, many in sequence:
        taken = min(left, many)
        if taken > 0:
            ahead.append((product, taken))
        if taken < many:
            behind.append((product, many - taken))
        left -= taken
    return normalize(ahead), normalize(behind)


def push_a(pipe, load):
    """The pipe behind the pushing of a load in at A, and what comes out at B."""
    # Seen from B, the same pipe is pushed in at its other end.
    rest, out = push_b(pipe[::-1], load)
    return rest[::-1], out


def push_b(pipe, load):
    """The pipe behind the pushing of a load in at B, and what comes out at A."""
    out, rest = split_at([*pipe, *load], units(load))
    return rest, out


def purge(pipe, product):
    """How many units of a product, pushed in at A, and at B, leave no other product in the pipe."""
    rows = normalize(pipe)
    total = units(rows)
    kept = [amount if name == product else 0 for name, amount in (rows[0], rows[-1])]
    return total - kept[0], total - kept[1]


def arrival(pipe, batch):
    """For A and for B: how many units come out ahead of a batch, and how many when it is out."""
    rows = normalize(pipe)
    amount = rows[batch][1]
    ahead = units(rows[:batch])
    behind = units(rows[batch + 1:])
    return (ahead, ahead + amount), (behind, behind + amount)


def first_clean(rows, mixing):
    """For each batch, how many units ahead of its clean ones there are, as far as slop from ahead goes."""
    found = []
    ahead = 0
    reach = 0
    for number, (product, amount) in enumerate(rows):
        if number > 0:
            reach = max(reach, ahead + mixing[rows[number - 1][0]][product])
        found.append(max(reach, ahead))
        ahead += amount
    return found


def separate(sequence, mixing):
    """The runs of clean units, and the number of units that are slop."""
    rows = normalize(sequence)
    total = units(rows)
    lows = first_clean(rows, mixing)
    # Slop from behind is slop from ahead in the sequence that is turned round.
    highs = [total - low for low in first_clean(rows[::-1], mixing)][::-1]
    runs = [(rows[number][0], highs[number] - lows[number]) for number in range(len(rows))
            if lows[number] < highs[number]]
    return tuple(runs), total - units(runs)


def slop_of(sequence, mixing):
    """The number of units that are slop."""
    return separate(sequence, mixing)[1]


def best_sequence(batches, mixing):
    """The first order of batches with the fewest units of slop, and that number."""
    best = None
    least = 0
    for order in permutations(range(len(batches))):
        slop = slop_of([batches[number] for number in order], mixing)
        if best is None or slop < least:
            best = order
            least = slop
    return best, least
