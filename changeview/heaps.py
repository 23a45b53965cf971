"""Heaps: dicts from rows to how often they lie there, without the rows that lie there no time."""


def heaped(pairs):
    """The heap of a list of tuples (row, count), also with counts of nought and rows twice."""
    totals = {}
    for row, count in pairs:
        totals[row] = totals.get(row, 0) + count
    # A later pair may bring a row back from nought, so the rows at nought are left out last.
    return {row: total for row, total in totals.items() if total != 0}


def listed(heap):
    """The heap as a list of tuples (row, count), rising by rows."""
    # A row is in a heap once, so the counts never decide the order.
    return sorted(heap.items())


def added(one, other):
    """A new heap: both put together, row by row."""
    return heaped(list(one.items()) + list(other.items()))


def turned(heap):
    """A new heap: each count with the other sign."""
    return {row: -count for row, count in heap.items()}
