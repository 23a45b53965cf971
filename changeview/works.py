"""The words of views as works over heaps: each takes heaps and gives a new one."""

from changeview.heaps import heaped


def within(heap, column, low, high):
    """The rows whose number in the column is not below low and not above high; None is no end."""
    return {row: count for row, count in heap.items() if _lies_within(row[column], low, high)}


def columns(heap, picked):
    """Each row as the row of its numbers in the picked columns, in their order."""
    return heaped([(_picked_numbers(row, picked), count) for row, count in heap.items()])


def meet(one, other, pairs):
    """Each row of one with each of other behind it, where the columns of all pairs are the same."""
    lefts = [left for left, _ in pairs]
    rights = [right for _, right in pairs]
    # With the other's rows in places, a row of the one looks only at those that it fits.
    places = _placed(other, rights)
    return heaped([
        (row + behind, count * times)
        for row, count in one.items()
        for behind, times in places.get(_picked_numbers(row, lefts), [])
    ])


def once(heap):
    """Each row that lies there more often than no time, once."""
    return {row: 1 for row, count in heap.items() if count > 0}


def sums(heap, keys, column):
    """For each group one row, once: its keys, how often its rows lie there, the sum of the column."""
    groups = {}
    for row, count in heap.items():
        group = _picked_numbers(row, keys)
        times, total = groups.get(group, (0, 0))
        groups[group] = (times + count, total + row[column] * count)
    # A group at nought is told too: it is there because rows of it are.
    return {numbers + told: 1 for numbers, told in groups.items()}


def reach(heap):
    """Each (a, b) once where one can go from a to b by one or more steps that lie there."""
    steps = {}
    for start, end in once(heap):
        steps.setdefault(start, []).append(end)
    return {(start, end): 1 for start in steps for end in _reached_from(start, steps)}


def _lies_within(number, low, high):
    """Whether the number lies between the ends, both of them among it."""
    return (low is None or number >= low) and (high is None or number <= high)


def _picked_numbers(row, picked):
    """The row's numbers in the picked columns, a tuple."""
    return tuple([row[column] for column in picked])


def _placed(heap, picked):
    """The heap's pairs (row, count) as lists, by the rows' numbers in the picked columns."""
    places = {}
    for row, count in heap.items():
        places.setdefault(_picked_numbers(row, picked), []).append((row, count))
    return places


def _reached_from(start, steps):
    """All that can be reached from the start by one or more steps, a list."""
    # The start itself is not found ahead of the first step: only a way back reaches it.
    found = {}
    waiting = [start]
    while waiting:
        at = waiting.pop()
        for end in steps.get(at, []):
            if end not in found:
                found[end] = True
                waiting.append(end)
    return list(found)
