"""Views: their widths, which of them are let by, and their answers, nested."""

import collections
import copy
import itertools
import unittest

from changeview.errors import BadView, ChangeError
from changeview.views import answered, width_of

GREAT = 1234567890123456789012345678901234567890
WIDTHS = [1, 2, 3, 4, 5, 6]
T1, T2, T3, T4, T5, T6 = [("table", number) for number in range(6)]


def nestings(view, width):
    """The view within one view of each word and at each place that takes one."""
    alike = ("columns", T1, (0,) * width)
    return [
        ("within", view, 0, None, None),
        ("columns", view, (0,)),
        ("both", view, alike),
        ("both", alike, view),
        ("less", view, alike),
        ("less", alike, view),
        ("meet", view, T1, ((0, 0),)),
        ("meet", T1, view, ((0, 0),)),
        ("once", view),
        ("sums", view, (0,), 0),
        ("reach", ("columns", view, (0, 0))),
    ]


def table_of_width(width):
    """A view of any width up to 40, over a table of one column."""
    return ("columns", T1, (0,) * width)


class ViewCase(unittest.TestCase):
    def assert_refused(self, view, widths=None, width=None):
        """The view is refused, and within every other one, too."""
        tables = WIDTHS if widths is None else widths
        for whole in [view] + nestings(view, width or 1):
            with self.subTest(view=whole):
                with self.assertRaises(BadView):
                    width_of(whole, tables)

    def assert_width(self, view, width, widths=None):
        """The view is let by, and within every other one, too."""
        tables = WIDTHS if widths is None else widths
        self.assertIs(type(width_of(view, tables)), int)
        self.assertEqual(width_of(view, tables), width)
        told = [width, 1, width, width, width, width, width + 1, width + 1, width, 3, 2]
        for whole, wanted in zip(nestings(view, width), told):
            with self.subTest(view=whole):
                if wanted <= 40:
                    self.assertEqual(width_of(whole, tables), wanted)


class Width(ViewCase):
    def test_tables(self):
        for number, width in enumerate(WIDTHS):
            self.assert_width(("table", number), width)
        self.assert_width(("table", 9), 2, [1] * 9 + [2])

    def test_within_is_as_wide(self):
        for number, width in enumerate(WIDTHS):
            for column in range(width):
                self.assert_width(("within", ("table", number), column, 1, 2), width)

    def test_columns_is_as_wide_as_columns_are_told(self):
        self.assert_width(("columns", T3, (2,)), 1)
        self.assert_width(("columns", T3, (2, 0)), 2)
        self.assert_width(("columns", T3, (1, 1, 1, 1, 0)), 5)

    def test_both_and_less_are_as_wide_as_each(self):
        for word in ("both", "less"):
            for number, width in enumerate(WIDTHS):
                view = ("table", number)
                self.assert_width((word, view, ("once", view)), width)
                self.assert_width((word, view, view), width)
            self.assert_width((word, T3, ("sums", T2, (0,), 1)), 3)

    def test_meet_is_as_wide_as_both_together(self):
        self.assert_width(("meet", T2, T3, ((0, 2), (1, 0))), 5)
        self.assert_width(("meet", T3, T2, ()), 5)
        self.assert_width(("meet", T6, T6, ((5, 5),)), 12)

    def test_once_is_as_wide(self):
        for number, width in enumerate(WIDTHS):
            self.assert_width(("once", ("table", number)), width)

    def test_sums_is_two_wider_than_its_keys(self):
        self.assert_width(("sums", T4, (), 3), 2)
        self.assert_width(("sums", T4, (3,), 0), 3)
        self.assert_width(("sums", T4, (0, 1, 2, 3), 0), 6)
        self.assert_width(("sums", T1, (0, 0, 0), 0), 5)

    def test_reach_is_of_width_two(self):
        self.assert_width(("reach", T2), 2)
        self.assert_width(("reach", ("sums", T5, (), 0)), 2)
        self.assert_width(("reach", ("reach", T2)), 2)


class Refused(ViewCase):
    def test_it_is_a_refusal(self):
        with self.assertRaises(ChangeError):
            width_of(("table", 6), WIDTHS)

    def test_a_table_that_is_not_there(self):
        for number in (6, 7, GREAT, 10 ** 5000, -1, -6, -7, -GREAT, -(10 ** 5000)):
            for view in [("table", number), ("once", ("table", number))]:
                with self.assertRaises(BadView):
                    width_of(view, WIDTHS)
        self.assert_refused(("table", 6))
        self.assert_refused(("table", -1))
        self.assert_refused(("table", 0), [])
        self.assert_refused(("table", 1), [1])

    def test_a_column_that_is_not_there(self):
        for number, width in enumerate(WIDTHS):
            view = ("table", number)
            for column in (width, width + 1, GREAT, -1, -width, -width - 1, -GREAT):
                self.assert_refused(("within", view, column, None, None), width=width)
                self.assert_refused(("columns", view, (column,)))
                self.assert_refused(("columns", view, (0, column)), width=2)
                self.assert_refused(("columns", view, (column, 0)), width=2)
                self.assert_refused(("sums", view, (), column), width=2)
                self.assert_refused(("sums", view, (column,), 0), width=3)
                self.assert_refused(("sums", view, (0, column), 0), width=4)
                self.assert_refused(("meet", view, T1, ((column, 0),)), width=width + 1)
                self.assert_refused(("meet", T1, view, ((0, column),)), width=width + 1)
                self.assert_refused(("meet", view, T6, ((0, 5), (column, 0))), width=width + 6)

    def test_each_column_of_a_pair_is_one_of_its_own_view(self):
        self.assert_refused(("meet", T1, T3, ((2, 0),)), width=4)
        self.assert_refused(("meet", T3, T1, ((0, 2),)), width=4)
        self.assert_width(("meet", T3, T1, ((2, 0),)), 4)
        self.assert_width(("meet", T1, T3, ((0, 2),)), 4)

    def test_no_columns(self):
        for number in range(6):
            self.assert_refused(("columns", ("table", number), ()))

    def test_unlike_widths(self):
        for word in ("both", "less"):
            for one, other in itertools.permutations(range(6), 2):
                view = (word, ("table", one), ("table", other))
                self.assert_refused(view, width=one + 1)
            self.assert_refused((word, T2, ("sums", T2, (0,), 1)), width=2)
            self.assert_refused((word, ("columns", T2, (0,)), T2), width=1)

    def test_reach_over_another_width(self):
        for view in (T1, T3, T4, T5, T6, ("columns", T2, (0,)), ("meet", T2, T2, ((1, 0),))):
            self.assert_refused(("reach", view), width=2)

    def test_another_word(self):
        for word in ("", "Table", "tables", "and", "where", "sum", "both ", "more"):
            self.assert_refused((word, T1))
            self.assert_refused((word, 0))
            self.assert_refused((word, T1, T1))
            self.assert_refused((word, T1, 0, None, None))
            self.assert_refused((word,))

    def test_another_word_is_refused_by_answered_too(self):
        for view in (("more", T1), ("once", ("more", T1)), ("both", T1, ("more", T1))):
            with self.assertRaises(BadView):
                answered(view, [{}])


class Widest(ViewCase):
    def test_a_width_of_40_is_let_by(self):
        self.assert_width(table_of_width(40), 40)
        self.assert_width(("within", table_of_width(40), 39, None, 0), 40)
        self.assert_width(("once", table_of_width(40)), 40)
        self.assert_width(("both", table_of_width(40), table_of_width(40)), 40)
        self.assert_width(("less", table_of_width(40), ("once", table_of_width(40))), 40)
        self.assert_width(("meet", table_of_width(34), T6, ((33, 5),)), 40)
        self.assert_width(("meet", T1, table_of_width(39), ()), 40)
        self.assert_width(("sums", T1, (0,) * 38, 0), 40)
        self.assert_width(("columns", table_of_width(40), (39,)), 1)

    def test_wider_than_40_is_refused(self):
        self.assert_refused(table_of_width(41), width=41)
        self.assert_refused(table_of_width(100), width=100)
        self.assert_refused(("meet", table_of_width(35), T6, ()), width=41)
        self.assert_refused(("meet", T6, table_of_width(35), ((0, 0),)), width=41)
        self.assert_refused(("meet", table_of_width(40), T1, ()), width=41)
        self.assert_refused(("sums", T1, (0,) * 39, 0), width=41)

    def test_wider_than_40_within_a_narrow_one_is_refused(self):
        wide = ("meet", table_of_width(40), T1, ())
        self.assert_refused(("columns", wide, (0,)))
        self.assert_refused(("sums", ("columns", wide, (0, 1)), (), 0), width=2)
        self.assert_refused(("reach", ("columns", ("once", wide), (0, 40))), width=2)
        self.assert_refused(("both", T1, ("columns", ("within", wide, 0, 1, 1), (0,))))

    def test_meets_within_meets(self):
        view = T5
        for width in (10, 20, 40):
            view = ("meet", view, view, ((0, 0),))
            self.assert_width(view, width)
        self.assert_refused(("meet", view, view, ((0, 0),)), width=80)


class Answers(unittest.TestCase):
    HEAPS = [
        {(1,): 2, (3,): -1},
        {(1, 2): 2, (2, 3): 1, (3, 1): -1, (3, 3): 4},
        {(1, 2, 5): 3, (1, 3, 6): -3, (2, 2, 7): 1},
    ]

    def assert_answer(self, view, wanted, heaps=None):
        told = answered(view, self.HEAPS if heaps is None else heaps)
        self.assertIs(type(told), dict)
        self.assertEqual(told, wanted)
        self.assertNotIn(0, told.values())

    def test_tables(self):
        for number, heap in enumerate(self.HEAPS):
            self.assert_answer(("table", number), heap)

    def test_each_word_over_empty_tables(self):
        for number in range(3):
            for view in nestings(("table", number), number + 1):
                self.assert_answer(view, {}, [{}, {}, {}])

    def test_within(self):
        self.assert_answer(("within", T2, 0, 2, 3), {(2, 3): 1, (3, 1): -1, (3, 3): 4})
        self.assert_answer(("within", T2, 1, None, 2), {(1, 2): 2, (3, 1): -1})
        self.assert_answer(("within", T2, 1, 3, None), {(2, 3): 1, (3, 3): 4})
        self.assert_answer(("within", T2, 0, None, None), self.HEAPS[1])

    def test_columns(self):
        self.assert_answer(("columns", T2, (1, 0)), {(2, 1): 2, (3, 2): 1, (1, 3): -1, (3, 3): 4})
        self.assert_answer(("columns", T2, (0,)), {(1,): 2, (2,): 1, (3,): 3})
        self.assert_answer(("columns", T3, (0,)), {(2,): 1})
        self.assert_answer(("columns", T1, (0, 0)), {(1, 1): 2, (3, 3): -1})

    def test_both_and_less(self):
        first = ("columns", T2, (0,))
        self.assert_answer(("both", T1, first), {(1,): 4, (2,): 1, (3,): 2})
        self.assert_answer(("less", T1, first), {(2,): -1, (3,): -4})
        self.assert_answer(("less", first, T1), {(2,): 1, (3,): 4})

    def test_both_and_less_of_a_view_and_itself(self):
        self.assert_answer(("both", T1, T1), {(1,): 4, (3,): -2})
        self.assert_answer(("less", T1, T1), {})
        self.assert_answer(("both", ("once", T2), ("once", T2)), {(1, 2): 2, (2, 3): 2, (3, 3): 2})

    def test_both_of_rows_that_cancel(self):
        self.assert_answer(("both", T1, ("less", ("less", T1, T1), T1)), {})

    def test_meet(self):
        self.assert_answer(("meet", T1, T2, ((0, 1),)), {
            (1, 3, 1): -2, (3, 2, 3): -1, (3, 3, 3): -4,
        })
        self.assert_answer(("meet", T2, T1, ((1, 0),)), {
            (3, 1, 1): -2, (2, 3, 3): -1, (3, 3, 3): -4,
        })
        self.assert_answer(("meet", T1, T1, ()), {(1, 1): 4, (1, 3): -2, (3, 1): -2, (3, 3): 1})
        self.assert_answer(("meet", T2, T3, ((0, 0), (1, 1))), {(1, 2, 1, 2, 5): 6})

    def test_once(self):
        self.assert_answer(("once", T2), {(1, 2): 1, (2, 3): 1, (3, 3): 1})

    def test_sums(self):
        self.assert_answer(("sums", T3, (0,), 2), {(1, 0, -3): 1, (2, 1, 7): 1})
        self.assert_answer(("sums", T2, (), 0), {(6, 13): 1})
        self.assert_answer(("sums", T2, (0, 1), 1), {
            (1, 2, 2, 4): 1, (2, 3, 1, 3): 1, (3, 1, -1, -1): 1, (3, 3, 4, 12): 1,
        })

    def test_reach(self):
        self.assert_answer(("reach", T2), {(1, 2): 1, (1, 3): 1, (2, 3): 1, (3, 3): 1})

    def test_words_that_are_nested(self):
        ends = ("columns", ("meet", T2, T2, ((1, 0),)), (0, 3))
        self.assert_answer(ends, {(1, 3): 2, (2, 1): -1, (2, 3): 4, (3, 2): -2, (3, 1): -4, (3, 3): 16})
        self.assert_answer(("sums", ends, (1,), 0), {(3, 22, 58): 1, (1, -5, -14): 1, (2, -2, -6): 1})
        self.assert_answer(("reach", ("once", ends)), {(1, 3): 1, (2, 3): 1, (3, 3): 1})
        self.assert_answer(("once", ("less", ("once", ends), ("once", T2))), {(1, 3): 1})
        self.assert_answer(("within", ("less", ("reach", T2), ends), 0, 1, 2), {
            (1, 2): 1, (1, 3): -1, (2, 1): 1, (2, 3): -3,
        })

    def test_numbers_of_many_figures(self):
        heaps = [{}, {(GREAT, -GREAT): GREAT, (-GREAT, GREAT): -1}]
        ends = ("columns", ("meet", T2, T2, ((1, 0),)), (0, 3))
        self.assert_answer(ends, {(GREAT, GREAT): -GREAT, (-GREAT, -GREAT): -GREAT}, heaps)
        self.assert_answer(("sums", ends, (), 0), {(-2 * GREAT, 0): 1}, heaps)
        heaps = [{(10 ** 5000,): 10 ** 5000}]
        self.assert_answer(("sums", T1, (), 0), {(10 ** 5000, 10 ** 10000): 1}, heaps)

    def test_twenty_deep(self):
        heaps = [{}, {(1, 2): 3, (2, 1): -1}]
        for depth in (20, 30):
            view = T2
            for _ in range(depth):
                view = ("columns", view, (1, 0))
            self.assertEqual(width_of(view, WIDTHS), 2)
            self.assert_answer(view, heaps[1], heaps)
            for word, count in (("both", depth + 1), ("less", 1 - depth)):
                view = T2
                for _ in range(depth):
                    view = (word, view, T2)
                self.assertEqual(width_of(view, WIDTHS), 2)
                self.assert_answer(view, {(1, 2): 3 * count, (2, 1): -count}, heaps)

    def test_twenty_deep_and_put_together_with_itself_each_time(self):
        view = T2
        for _ in range(20):
            view = ("both", view, view)
        self.assertEqual(width_of(view, WIDTHS), 2)
        self.assert_answer(view, {(1, 2): 2 ** 20}, [{}, {(1, 2): 1}])


def told(view, heaps):
    """The answer of a view, read off the words of point 4 one by one, with counts of nought in it."""
    return globals()["told_" + view[0]](*view[1:], heaps)


def told_table(number, heaps):
    return heaps[number]


def told_within(view, column, low, high, heaps):
    answer = dict(told(view, heaps))
    for row in list(answer):
        if low is not None and row[column] < low or high is not None and row[column] > high:
            del answer[row]
    return answer


def told_columns(view, picked, heaps):
    answer = collections.Counter()
    for row, count in told(view, heaps).items():
        answer[tuple(row[column] for column in picked)] += count
    return answer


def told_both(view, other, heaps):
    one, two = told(view, heaps), told(other, heaps)
    return {row: one.get(row, 0) + two.get(row, 0) for row in set(one) | set(two)}


def told_less(view, other, heaps):
    one, two = told(view, heaps), told(other, heaps)
    return {row: one.get(row, 0) - two.get(row, 0) for row in set(one) | set(two)}


def told_meet(view, other, pairs, heaps):
    answer = {}
    for row, count in told(view, heaps).items():
        for behind, times in told(other, heaps).items():
            if all(row[c] == behind[d] for c, d in pairs):
                answer[row + behind] = count * times
    return answer


def told_once(view, heaps):
    return {row: 1 for row, count in told(view, heaps).items() if count > 0}


def told_sums(view, keys, column, heaps):
    groups = collections.defaultdict(list)
    for row, count in told(view, heaps).items():
        if count != 0:
            groups[tuple(row[key] for key in keys)].append((count, row[column] * count))
    return {
        group + (sum(count for count, _ in parts), sum(part for _, part in parts)): 1
        for group, parts in groups.items()
    }


def told_reach(view, heaps):
    ways = {row for row, count in told(view, heaps).items() if count > 0}
    while True:
        further = {(a, d) for a, b in ways for c, d in ways if b == c} - ways
        if not further:
            return {way: 1 for way in ways}
        ways |= further


class Views:
    """Nested views over tables of these widths that look like chance, the same each time."""

    def __init__(self, seed, widths):
        self.state = seed
        self.widths = widths

    def below(self, many):
        self.state = (self.state * 6364136223846793005 + 1442695040888963407) % 2 ** 64
        return (self.state >> 33) % many

    def picked(self, width, many):
        return tuple(self.below(width) for _ in range(many))

    def heap(self, width):
        heap = {self.picked(3, width): self.below(5) - 2 for _ in range(6)}
        return {row: count for row, count in heap.items() if count != 0}

    def next(self, depth):
        """A view nested so deep at most, and its width."""
        if depth == 0:
            number = self.below(len(self.widths))
            return ("table", number), self.widths[number]
        view, width = self.next(depth - 1)
        words = ("within", "columns", "both", "less", "meet", "once", "sums", "reach")
        return getattr(self, words[self.below(8)])(view, width, depth)

    def narrowed(self, view, width, many):
        """The view with so many columns of it."""
        return ("columns", view, self.picked(width, many))

    def within(self, view, width, _):
        ends = (None, 0, 1, 2)
        return ("within", view, self.below(width), ends[self.below(4)], ends[self.below(4)]), width

    def columns(self, view, width, _):
        many = 1 + self.below(3)
        return self.narrowed(view, width, many), many

    def both(self, view, width, depth, word="both"):
        other = self.next(self.below(depth))
        return (word, view, self.narrowed(*other, width)), width

    def less(self, view, width, depth):
        return self.both(view, width, depth, "less")

    def meet(self, view, width, depth):
        other, many = self.next(self.below(depth))
        if width + many > 6:
            view, other, width, many = (
                self.narrowed(view, width, 2), self.narrowed(other, many, 2), 2, 2)
        pairs = tuple(zip(self.picked(width, 2), self.picked(many, self.below(3))))
        return ("meet", view, other, pairs), width + many

    def once(self, view, width, _):
        return ("once", view), width

    def sums(self, view, width, _):
        many = self.below(3)
        return ("sums", view, self.picked(width, many), self.below(width)), many + 2

    def reach(self, view, width, _):
        return ("reach", self.narrowed(view, width, 2)), 2


class ByTheWords(unittest.TestCase):
    def test_nested_views_over_heaps_with_counts_below_nought(self):
        met = collections.Counter()
        for seed in range(1500):
            source = Views(seed, [1 + seed % 3, 2, 1 + seed % 2])
            heaps = [source.heap(width) for width in source.widths]
            view, width = source.next(1 + seed % 5)
            with self.subTest(view=view, heaps=heaps):
                self.assertEqual(width_of(view, source.widths), width)
                wanted = {row: count for row, count in told(view, heaps).items() if count != 0}
                self.assertEqual(answered(view, heaps), wanted)
                met[view[0]] += bool(wanted)
        # Each word stood outermost, over heaps that gave it something to tell.
        self.assertEqual(len(met), 8)
        self.assertGreater(min(met.values()), 20)


VIEWS = (
    T2, ("within", T2, 0, None, None), ("columns", T2, (0, 1)), ("both", T2, T2), ("less", T2, T2),
    ("both", T2, ("less", T2, T2)), ("meet", T2, T2, ()), ("once", T2), ("sums", T2, (0,), 1),
    ("reach", T2), ("once", ("once", T2)),
)


class HandedInAndOut(unittest.TestCase):
    """Promise 1: nothing that is handed in is changed, and what is handed out is new."""

    def test_widths_stay_as_they_were(self):
        widths = list(WIDTHS)
        for view in VIEWS:
            width_of(view, widths)
            self.assertEqual(widths, WIDTHS)
            with self.assertRaises(BadView):
                width_of(("both", view, T6), widths)
            self.assertEqual(widths, WIDTHS)

    def test_heaps_stay_as_they_were_and_the_answer_is_another_heap(self):
        for view in VIEWS:
            for heap in ({(1, 2): 1, (2, 1): 1}, {}):
                with self.subTest(view=view):
                    heaps = [{}, dict(heap)]
                    kept = copy.deepcopy(view)
                    told = answered(view, heaps)
                    again = copy.deepcopy(told)
                    self.assertEqual(heaps, [{}, heap])
                    told[(9, 9)] = 4
                    self.assertEqual(heaps, [{}, heap])
                    self.assertEqual(answered(view, heaps), again)
                    self.assertEqual(view, kept)

    def test_heaps_that_are_changed_later_change_no_answer(self):
        for view in VIEWS:
            with self.subTest(view=view):
                heaps = [{}, {(1, 2): 1, (2, 1): 1}]
                told = answered(view, heaps)
                again = copy.deepcopy(told)
                heaps[1].clear()
                heaps[1][(5, 5)] = 7
                heaps.clear()
                self.assertEqual(told, again)


if __name__ == "__main__":
    unittest.main()
