"""The keeper: tables, and views whose answers are kept and told on by differences."""

from changeview.errors import BadRow, Full, Lacking, NoTable, NoView
from changeview.heaps import added, heaped, listed, turned
from changeview.views import answered, width_of

MOST_VIEWS = 20


class Keeper:
    """Keeps tables of rows, and the answers of views over them."""

    def __init__(self, widths):
        """All tables are empty at first; widths tells how wide each is."""
        self._widths = list(widths)
        self._heaps = [{} for _ in widths]
        self._views = []
        self._answers = []

    def put(self, view):
        """Keeps the view's answer from now on; gives the view's number. BadView or Full."""
        width_of(view, self._widths)
        if len(self._views) >= MOST_VIEWS:
            raise Full("there are as many views as there may be")
        self._views.append(view)
        self._answers.append(answered(view, self._heaps))
        return len(self._views) - 1

    def change(self, table, pairs):
        """Each row lies in the table count times more often; tells each view's differences."""
        # All refusals come ahead of the first thing that is changed.
        self._heaps[table] = self._changed(table, pairs)
        told = []
        for number in range(len(self._views)):
            told.append(self._renewed(number))
        return told

    def answer(self, number):
        """The answer of the view of this number, listed; NoView."""
        if number < 0 or number >= len(self._views):
            raise NoView("there is no view of this number")
        return listed(self._answers[number])

    def table(self, table):
        """What lies in the table, listed; NoTable."""
        self._check_table(table)
        return listed(self._heaps[table])

    def _check_table(self, table):
        if table < 0 or table >= len(self._heaps):
            raise NoTable("there is no such table")

    def _changed(self, table, pairs):
        """The table's heap behind the change, a new one; NoTable, BadRow or Lacking."""
        self._check_table(table)
        width = self._widths[table]
        if any(len(row) != width for row, _ in pairs):
            raise BadRow("a row is not as wide as the table")
        heap = added(self._heaps[table], heaped(pairs))
        if any(count < 0 for count in heap.values()):
            raise Lacking("a row would lie there less than no time")
        return heap

    def _renewed(self, number):
        """Keeps the view's answer as it is now; tells how it differs from the one kept so far."""
        ahead = self._answers[number]
        now = answered(self._views[number], self._heaps)
        self._answers[number] = now
        return listed(added(now, turned(ahead)))
