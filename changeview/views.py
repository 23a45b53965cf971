"""Views: how wide they are, whether they are let by, and what they answer."""

from changeview.errors import BadView
from changeview.heaps import added, turned
from changeview.works import columns, meet, once, reach, sums, within

WIDEST = 40


def width_of(view, widths):
    """The view's width over tables of these widths; BadView where it is not let by."""
    width = _told_width(view, widths)
    if width > WIDEST:
        raise BadView("a view is too wide")
    return width


def answered(view, heaps):
    """The answer, a new heap, of a view that is let by, over tables with these heaps."""
    match view:
        case ("table", number):
            # Put together with nothing it is a copy: the table itself is not handed out.
            return added(heaps[number], {})
        case ("within", inner, column, low, high):
            return within(answered(inner, heaps), column, low, high)
        case ("columns", inner, picked):
            return columns(answered(inner, heaps), picked)
        case ("both", one, other):
            first, second = _two_answers(one, other, heaps)
            return added(first, second)
        case ("less", one, other):
            first, second = _two_answers(one, other, heaps)
            return added(first, turned(second))
        case ("meet", one, other, pairs):
            first, second = _two_answers(one, other, heaps)
            return meet(first, second, pairs)
        case ("once", inner):
            return once(answered(inner, heaps))
        case ("sums", inner, keys, column):
            return sums(answered(inner, heaps), keys, column)
        case ("reach", inner):
            return reach(answered(inner, heaps))
        case _:
            raise BadView("a view begins with another word")


def _told_width(view, widths):
    """The view's width as it follows from its word, before it is known not to be too wide."""
    match view:
        case ("table", number):
            return _table_width(number, widths)
        case ("within", inner, column, _, _):
            return _width_with(inner, [column], widths)
        case ("columns", inner, picked):
            return _columns_width(inner, picked, widths)
        case ("both" | "less", one, other):
            return _like_width(one, other, widths)
        case ("meet", one, other, pairs):
            return _meet_width(one, other, pairs, widths)
        case ("once", inner):
            return width_of(inner, widths)
        case ("sums", inner, keys, column):
            _width_with(inner, [*keys, column], widths)
            return len(keys) + 2
        case ("reach", inner):
            return _reach_width(inner, widths)
        case _:
            raise BadView("a view begins with another word")


def _table_width(number, widths):
    if number < 0 or number >= len(widths):
        raise BadView("there is no such table")
    return widths[number]


def _width_with(view, picked, widths):
    """The view's width, all the picked columns being there."""
    width = width_of(view, widths)
    _check_columns(picked, width)
    return width


def _columns_width(view, picked, widths):
    _width_with(view, picked, widths)
    if len(picked) == 0:
        raise BadView("no column is picked")
    return len(picked)


def _like_width(one, other, widths):
    width, second = _two_widths(one, other, widths)
    if width != second:
        raise BadView("two views are not of the same width")
    return width


def _meet_width(one, other, pairs, widths):
    first, second = _two_widths(one, other, widths)
    _check_columns([left for left, _ in pairs], first)
    _check_columns([right for _, right in pairs], second)
    return first + second


def _reach_width(view, widths):
    width = width_of(view, widths)
    if width != 2:
        raise BadView("steps are not of width 2")
    return width


def _check_columns(picked, width):
    if any(column < 0 or column >= width for column in picked):
        raise BadView("there is no such column")


def _two_widths(one, other, widths):
    width = width_of(one, widths)
    # Views that are each put together with themselves would else be gone through a million
    # times at a depth of 20.
    if one == other:
        return width, width
    return width, width_of(other, widths)


def _two_answers(one, other, heaps):
    heap = answered(one, heaps)
    # As in _two_widths.
    if one == other:
        return heap, heap
    return heap, answered(other, heaps)
