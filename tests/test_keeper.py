"""The keeper: tables, views, what is refused, and the differences that are told."""

import copy
import unittest

from changeview.errors import BadRow, BadView, Full, Lacking, NoTable, NoView
from changeview.heaps import added, heaped, listed
from changeview.keeper import Keeper
from changeview.views import answered

GREAT = 1234567890123456789012345678901234567890
HUGE = 10 ** 5000
T0, T1, T2 = ("table", 0), ("table", 1), ("table", 2)
WIDTHS = [2, 2, 1]

# Views of each word over tables of these widths, nested in one another, 20 of them.
ENDS = ("columns", ("meet", T0, T1, ((1, 0),)), (0, 3))
VIEWS = (
    T0,
    T2,
    ("within", T0, 1, 0, None),
    ("within", ("both", T0, T1), 0, -1, 1),
    ("columns", T0, (1,)),
    ("columns", T1, (1, 1, 0)),
    ("both", T0, ("columns", T1, (1, 0))),
    ("less", T0, T1),
    ("meet", T0, T2, ((0, 0),)),
    ("meet", T2, T2, ()),
    ENDS,
    ("once", T0),
    ("once", ("less", T1, T0)),
    ("sums", T0, (0,), 1),
    ("sums", ("less", T0, T1), (), 1),
    ("sums", ("meet", T1, T1, ((0, 1), (1, 0))), (0, 3), 2),
    ("reach", T0),
    ("reach", ("less", ("once", ("both", T0, T1)), ("within", T1, 1, 1, None))),
    ("sums", ("reach", ("both", T0, ENDS)), (1,), 0),
    ("less", ("columns", ("reach", T0), (0,)), ("columns", ("sums", T2, (0,), 0), (1,))),
)


class Chance:
    """Numbers that look like chance and are the same each time."""

    def __init__(self, seed):
        self.state = seed

    def below(self, many):
        self.state = (self.state * 6364136223846793005 + 1442695040888963407) % 2 ** 64
        return (self.state >> 33) % many


def next_change(chance, heaps, widths):
    """A change that is not refused: some rows put, some taken, some twice, some no time."""
    table = chance.below(len(widths))
    pairs = []
    for _ in range(chance.below(5)):
        row = tuple(chance.below(4) - 1 for _ in range(widths[table]))
        pairs.append((row, chance.below(4)))
    rows = sorted(heaps[table])
    for _ in range(chance.below(4)):
        if rows:
            pairs.append((rows[chance.below(len(rows))], -1))
    while any(count < 0 for count in added(heaps[table], heaped(pairs)).values()):
        pairs.pop()
    return table, pairs


class KeeperCase(unittest.TestCase):
    def told_by(self, keeper, tables, views):
        """All that a keeper of so many tables and views tells."""
        return ([keeper.table(number) for number in range(tables)],
                [keeper.answer(number) for number in range(views)])

    def assert_listed(self, told):
        """A heap, listed: rising by rows, each row once, no count of nought."""
        self.assertIs(type(told), list)
        rows = [row for row, _ in told]
        self.assertEqual(rows, sorted(set(rows)))
        for pair in told:
            self.assertIs(type(pair), tuple)
            self.assertIs(type(pair[0]), tuple)
            self.assertIs(type(pair[1]), int)
            self.assertNotEqual(pair[1], 0)


class Tables(KeeperCase):
    def test_all_are_empty_at_first(self):
        keeper = Keeper([1, 2, 3, 4, 5, 6, 1, 2, 3, 4])
        for number in range(10):
            self.assertEqual(keeper.table(number), [])

    def test_rows_are_put_and_taken(self):
        keeper = Keeper([1, 2])
        keeper.change(1, [((1, 2), 3), ((0, 5), 1)])
        self.assertEqual(keeper.table(0), [])
        self.assertEqual(keeper.table(1), [((0, 5), 1), ((1, 2), 3)])
        keeper.change(1, [((1, 2), -2)])
        self.assertEqual(keeper.table(1), [((0, 5), 1), ((1, 2), 1)])
        keeper.change(0, [((7,), 2)])
        self.assertEqual(keeper.table(0), [((7,), 2)])
        self.assertEqual(keeper.table(1), [((0, 5), 1), ((1, 2), 1)])

    def test_rows_that_lie_there_no_time_are_not_told(self):
        keeper = Keeper([1])
        keeper.change(0, [((1,), 3), ((2,), 0)])
        self.assertEqual(keeper.table(0), [((1,), 3)])
        keeper.change(0, [((1,), -3)])
        self.assertEqual(keeper.table(0), [])

    def test_each_width(self):
        for width in range(1, 7):
            keeper = Keeper([width])
            rows = [(0,) * (width - 1) + (last,) for last in (2, -1, 1)]
            keeper.change(0, [(row, 2) for row in rows])
            self.assertEqual(keeper.table(0), [(row, 2) for row in sorted(rows)])

    def test_a_list_of_nothing(self):
        keeper = Keeper([1])
        self.assertEqual(keeper.change(0, []), [])
        self.assertEqual(keeper.table(0), [])

    def test_rows_twice_with_nought_put_and_taken(self):
        keeper = Keeper([1])
        keeper.change(0, [((1,), 2), ((2,), 0), ((1,), 3), ((1,), -1), ((1,), 0), ((3,), 1)])
        self.assertEqual(keeper.table(0), [((1,), 4), ((3,), 1)])

    def test_only_behind_the_whole_change_may_no_row_lack(self):
        keeper = Keeper([1])
        keeper.change(0, [((1,), -5), ((1,), 2), ((1,), 3)])
        self.assertEqual(keeper.table(0), [])
        keeper.change(0, [((1,), -5), ((1,), 6)])
        self.assertEqual(keeper.table(0), [((1,), 1)])

    def test_two_keepers_share_nothing(self):
        one, other = Keeper([1]), Keeper([1])
        one.put(T0)
        one.change(0, [((1,), 2)])
        self.assertEqual(other.table(0), [])
        with self.assertRaises(NoView):
            other.answer(0)

    def test_numbers_of_many_figures(self):
        keeper = Keeper([2])
        keeper.put(T0)
        keeper.change(0, [((GREAT, -GREAT), GREAT), ((GREAT, 1 - GREAT), 1)])
        told = keeper.change(0, [((GREAT, -GREAT), 1 - GREAT), ((HUGE, -HUGE), HUGE)])
        self.assertEqual(told, [[((GREAT, -GREAT), 1 - GREAT), ((HUGE, -HUGE), HUGE)]])
        self.assertEqual(keeper.table(0), [
            ((GREAT, -GREAT), 1), ((GREAT, 1 - GREAT), 1), ((HUGE, -HUGE), HUGE),
        ])


class Views(KeeperCase):
    def test_views_are_numbered_from_nought(self):
        keeper = Keeper(WIDTHS)
        for number, view in enumerate(VIEWS[:7]):
            self.assertEqual(keeper.put(view), number)
            self.assertEqual(keeper.answer(number), [])

    def test_a_view_twice_has_two_numbers(self):
        keeper = Keeper([1])
        self.assertEqual([keeper.put(T0), keeper.put(T0)], [0, 1])
        self.assertEqual(keeper.change(0, [((1,), 2)]), [[((1,), 2)], [((1,), 2)]])

    def test_a_view_is_put_over_tables_as_they_are(self):
        keeper = Keeper([1])
        keeper.change(0, [((1,), 2)])
        keeper.put(("once", T0))
        self.assertEqual(keeper.answer(0), [((1,), 1)])
        self.assertEqual(keeper.change(0, [((2,), 3)]), [[((2,), 1)]])
        keeper.put(("sums", T0, (), 0))
        self.assertEqual(keeper.answer(1), [((5, 8), 1)])

    def test_putting_a_view_changes_no_table_and_no_other_answer(self):
        keeper = Keeper(WIDTHS)
        keeper.change(0, [((1, 2), 2), ((2, 1), 1)])
        keeper.put(T0)
        ahead = self.told_by(keeper, 3, 1)
        for view in VIEWS[1:]:
            keeper.put(view)
            self.assertEqual(self.told_by(keeper, 3, 1), ahead)

    def test_there_are_twenty_views_at_most(self):
        keeper = Keeper(WIDTHS)
        for number in range(20):
            self.assertEqual(keeper.put(VIEWS[number]), number)
        self.assertEqual(len(keeper.change(0, [((1, 2), 1)])), 20)
        ahead = self.told_by(keeper, 3, 20)
        for view in (T0, VIEWS[19]):
            with self.assertRaises(Full):
                keeper.put(view)
        with self.assertRaises(NoView):
            keeper.answer(20)
        self.assertEqual(self.told_by(keeper, 3, 20), ahead)
        self.assertEqual(len(keeper.change(0, [])), 20)

    def test_a_refused_view_takes_no_number(self):
        keeper = Keeper([1])
        for number in range(20):
            for view in (("table", 1), ("reach", T0), ("columns", T0, ()), ("more", T0)):
                with self.assertRaises(BadView):
                    keeper.put(view)
            with self.assertRaises(NoView):
                keeper.answer(number)
            self.assertEqual(keeper.put(T0), number)
        self.assertEqual(keeper.answer(19), [])

    def test_bad_view_comes_ahead_of_full(self):
        keeper = Keeper([1])
        for _ in range(20):
            keeper.put(T0)
        for view in (("table", 1), ("reach", T0), ("columns", T0, ()), ("more", T0)):
            with self.assertRaises(BadView):
                keeper.put(view)
        with self.assertRaises(Full):
            keeper.put(("once", T0))

    def test_views_are_refused_by_the_tables_of_the_keeper(self):
        for view, widths in (
            (("table", 2), [1, 1]), (("table", -1), [1]), (("table", 0), []),
            (("both", T0, T1), [1, 2]), (("reach", T0), [3]), (("within", T0, 2, 0, 0), [2, 3]),
            (("once", ("within", T0, -1, 0, 0)), [2]), (("columns", T0, (0,) * 41), [1]),
        ):
            with self.subTest(view=view):
                with self.assertRaises(BadView):
                    Keeper(widths).put(view)


class Refused(KeeperCase):
    def setUp(self):
        self.keeper = Keeper([2, 1])
        self.keeper.put(T0)
        self.keeper.put(("sums", T1, (), 0))
        self.keeper.change(0, [((1, 2), 2), ((3, 4), 1)])
        self.keeper.change(1, [((5,), 1)])

    def assert_refused(self, refusal, table, pairs):
        ahead = self.told_by(self.keeper, 2, 2)
        handed = list(pairs)
        with self.assertRaises(refusal):
            self.keeper.change(table, handed)
        self.assertEqual(handed, pairs)
        self.assertEqual(self.told_by(self.keeper, 2, 2), ahead)
        # Nothing of it comes to light behind the next change, either.
        self.assertEqual(self.keeper.change(0, []), [[], []])
        self.assertEqual(self.keeper.change(1, []), [[], []])
        self.assertEqual(self.told_by(self.keeper, 2, 2), ahead)

    def test_no_table(self):
        for table in (2, 3, GREAT, HUGE, -1, -2, -3, -GREAT, -HUGE):
            self.assert_refused(NoTable, table, [((1,), 1)])
            self.assert_refused(NoTable, table, [((1, 2), 1)])
            self.assert_refused(NoTable, table, [])
            with self.assertRaises(NoTable):
                self.keeper.table(table)

    def test_a_keeper_without_tables(self):
        keeper = Keeper([])
        for table in (0, -1):
            with self.assertRaises(NoTable):
                keeper.table(table)
            with self.assertRaises(NoTable):
                keeper.change(table, [])

    def test_bad_row(self):
        for row in ((), (1,), (1, 2, 3), (1, 2) * 5):
            self.assert_refused(BadRow, 0, [(row, 1)])
            self.assert_refused(BadRow, 0, [((1, 2), 1), (row, 1)])
            self.assert_refused(BadRow, 0, [(row, 1), ((1, 2), 1)])
        for row in ((), (1, 2)):
            self.assert_refused(BadRow, 1, [(row, 1)])

    def test_bad_row_also_where_it_would_lie_there_no_time(self):
        self.assert_refused(BadRow, 0, [((1,), 0)])
        self.assert_refused(BadRow, 0, [((1,), 3), ((1,), -3)])
        self.assert_refused(BadRow, 1, [((1, 2), 0), ((5,), 1)])

    def test_lacking(self):
        self.assert_refused(Lacking, 0, [((1, 2), -3)])
        self.assert_refused(Lacking, 0, [((9, 9), -1)])
        self.assert_refused(Lacking, 1, [((5,), -GREAT)])

    def test_lacking_behind_the_whole_change(self):
        self.assert_refused(Lacking, 0, [((1, 2), -2), ((7, 7), 5), ((1, 2), -1)])
        self.assert_refused(Lacking, 0, [((7, 7), 5), ((3, 4), -2), ((3, 4), 0)])
        self.assert_refused(Lacking, 0, [((8, 8), 3), ((8, 8), -4)])
        self.assert_refused(Lacking, 0, [((8, 8), -4), ((8, 8), 3), ((1, 2), 1)])

    def test_taking_all_is_not_lacking(self):
        told = self.keeper.change(0, [((1, 2), -2), ((3, 4), -1)])
        self.assertEqual(told, [[((1, 2), -2), ((3, 4), -1)], []])
        self.assertEqual(self.keeper.table(0), [])
        self.assert_refused(Lacking, 0, [((1, 2), -1)])

    def test_rows_of_another_table_are_no_help(self):
        self.assert_refused(Lacking, 1, [((1,), -1)])

    def test_the_first_that_is_so(self):
        self.assert_refused(NoTable, 2, [((1, 2, 3), 1), ((9, 9), -1)])
        self.assert_refused(NoTable, -1, [((1, 2, 3), -1)])
        self.assert_refused(BadRow, 0, [((9, 9), -1), ((1,), 1)])
        self.assert_refused(BadRow, 0, [((1,), -1)])
        self.assert_refused(BadRow, 1, [((5,), -7), ((), 0)])

    def test_no_view(self):
        ahead = self.told_by(self.keeper, 2, 2)
        for number in (2, 3, 20, GREAT, HUGE, -1, -2, -3, -GREAT, -HUGE):
            with self.assertRaises(NoView):
                self.keeper.answer(number)
        with self.assertRaises(NoView):
            Keeper([1]).answer(0)
        self.assertEqual(self.told_by(self.keeper, 2, 2), ahead)


class Differences(KeeperCase):
    def test_a_keeper_without_views_tells_none(self):
        self.assertEqual(Keeper([1]).change(0, [((1,), 1)]), [])

    def test_a_list_for_each_view_in_order(self):
        keeper = Keeper([1, 1])
        for view in (T1, T0, ("both", T0, T1)):
            keeper.put(view)
        self.assertEqual(keeper.change(0, [((1,), 2)]), [[], [((1,), 2)], [((1,), 2)]])
        self.assertEqual(keeper.change(1, [((1,), 1)]), [[((1,), 1)], [], [((1,), 1)]])

    def test_how_much_more_often(self):
        keeper = Keeper([1])
        keeper.put(T0)
        keeper.change(0, [((1,), 5), ((2,), 3), ((3,), 1)])
        told = keeper.change(0, [((3,), 4), ((1,), -5), ((4,), 2), ((2,), -1)])
        self.assertEqual(told, [[((1,), -5), ((2,), -1), ((3,), 4), ((4,), 2)]])

    def test_rows_that_lie_there_as_often_as_ahead_are_not_told(self):
        keeper = Keeper([2])
        for view in (T0, ("columns", T0, (0,)), ("once", T0), ("once", ("columns", T0, (0,)))):
            keeper.put(view)
        keeper.change(0, [((1, 2), 2)])
        told = keeper.change(0, [((1, 2), -1), ((1, 3), 1)])
        self.assertEqual(told, [[((1, 2), -1), ((1, 3), 1)], [], [((1, 3), 1)], []])
        self.assertEqual(keeper.change(0, [((1, 3), 1), ((1, 3), -1)]), [[], [], [], []])

    def test_of_each_word(self):
        keeper = Keeper([2])
        keeper.change(0, [((1, 2), 1), ((2, 3), 2)])
        for view in (
            ("within", T0, 0, 2, None), ("columns", T0, (1,)), ("both", T0, T0),
            ("less", ("once", T0), T0), ("meet", T0, T0, ((1, 0),)), ("once", T0),
            ("sums", T0, (), 0), ("reach", T0),
        ):
            keeper.put(view)
        self.assertEqual(keeper.change(0, [((3, 3), 2), ((1, 2), 1)]), [
            [((3, 3), 2)],
            [((2,), 1), ((3,), 2)],
            [((1, 2), 2), ((3, 3), 4)],
            [((1, 2), -1), ((3, 3), -1)],
            [((1, 2, 2, 3), 2), ((2, 3, 3, 3), 4), ((3, 3, 3, 3), 4)],
            [((3, 3), 1)],
            [((3, 5), -1), ((6, 12), 1)],
            [((3, 3), 1)],
        ])

    def test_a_step_that_is_taken_away(self):
        keeper = Keeper([2])
        keeper.put(("reach", T0))
        keeper.change(0, [((1, 2), 1), ((2, 3), 1), ((3, 1), 1), ((1, 3), 2)])
        self.assertEqual(keeper.change(0, [((1, 3), -1)]), [[]])
        self.assertEqual(keeper.change(0, [((1, 3), -1)]), [[]])
        self.assertEqual(keeper.change(0, [((2, 3), -1)]), [[
            ((1, 1), -1), ((1, 3), -1), ((2, 1), -1), ((2, 2), -1), ((2, 3), -1), ((3, 3), -1),
        ]])
        self.assertEqual(keeper.answer(0), [((1, 2), 1), ((3, 1), 1), ((3, 2), 1)])

    def test_a_group_that_comes_and_goes(self):
        keeper = Keeper([2])
        keeper.put(("sums", T0, (0,), 1))
        self.assertEqual(keeper.change(0, [((1, 0), 1)]), [[((1, 1, 0), 1)]])
        self.assertEqual(keeper.change(0, [((1, 5), 1)]), [[((1, 1, 0), -1), ((1, 2, 5), 1)]])
        self.assertEqual(keeper.change(0, [((1, 0), -1), ((1, 5), -1)]), [[((1, 2, 5), -1)]])
        self.assertEqual(keeper.answer(0), [])

    def test_a_change_that_is_taken_back(self):
        keeper = Keeper(WIDTHS)
        for view in VIEWS:
            keeper.put(view)
        keeper.change(0, [((0, 1), 2), ((1, 0), 1)])
        keeper.change(1, [((1, 2), 1), ((0, 1), 3)])
        ahead = self.told_by(keeper, 3, 20)
        for table, pairs in ((0, [((1, 2), 4), ((0, 1), -2)]), (1, [((1, 2), -1)]), (2, [((1,), 9)])):
            told = keeper.change(table, pairs)
            back = keeper.change(table, [(row, -count) for row, count in pairs])
            self.assertEqual(back, [[(row, -count) for row, count in heap] for heap in told])
            self.assertEqual(self.told_by(keeper, 3, 20), ahead)


class OverManyChanges(KeeperCase):
    """Promise 10, over changes that look like chance; views are put between them."""

    def check_changes(self, seed, many):
        chance = Chance(seed)
        keeper = Keeper(WIDTHS)
        heaps = [{}, {}, {}]
        views, first, since = [], [], []
        for at in range(many):
            if at % 3 == 0 and len(views) < 20:
                view = VIEWS[(len(views) * 7 + seed) % 20]
                self.assertEqual(keeper.put(view), len(views))
                views.append(view)
                first.append(keeper.answer(len(views) - 1))
                self.assertEqual(first[-1], listed(answered(view, heaps)))
                since.append([])
            table, pairs = next_change(chance, heaps, WIDTHS)
            ahead = [keeper.answer(number) for number in range(len(views))]
            told = keeper.change(table, pairs)
            heaps[table] = added(heaps[table], heaped(pairs))
            self.assertEqual([keeper.table(number) for number in range(3)],
                             [listed(heap) for heap in heaps])
            self.assertEqual(len(told), len(views))
            for number, view in enumerate(views):
                self.assert_listed(told[number])
                since[number] = since[number] + told[number]
                now = keeper.answer(number)
                self.assert_listed(now)
                self.assertEqual(now, listed(answered(view, heaps)))
                self.assertEqual(now, listed(heaped(ahead[number] + told[number])))
                self.assertEqual(now, listed(heaped(first[number] + since[number])))

    def test_differences_put_together_are_the_answers(self):
        for seed in range(1, 9):
            with self.subTest(seed=seed):
                self.check_changes(seed, 75)


class HandedInAndOut(KeeperCase):
    """Promise 1: nothing that is handed in is changed or kept, nothing handed out is kept."""

    def setUp(self):
        self.widths = [2, 2, 1]
        self.keeper = Keeper(self.widths)
        for view in VIEWS:
            self.keeper.put(view)
        self.pairs = [((1, 2), 2), ((0, 0), 0), ((2, 1), 1), ((1, 2), 1)]
        self.told = self.keeper.change(0, self.pairs)

    def test_what_is_handed_in_stays_as_it_was(self):
        self.assertEqual(self.widths, [2, 2, 1])
        self.assertEqual(self.pairs, [((1, 2), 2), ((0, 0), 0), ((2, 1), 1), ((1, 2), 1)])

    def test_widths_that_are_changed_later(self):
        self.widths.clear()
        self.widths.append(5)
        self.assertEqual(self.keeper.table(2), [])
        self.keeper.change(1, [((1, 2), 2)])
        with self.assertRaises(BadRow):
            self.keeper.change(0, [((1, 2, 3, 4, 5), 2)])
        other = Keeper(self.widths)
        self.widths[0] = 1
        self.assertEqual(other.put(("within", T0, 4, 0, 0)), 0)

    def test_pairs_that_are_changed_later(self):
        ahead = copy.deepcopy(self.told_by(self.keeper, 3, 20))
        self.pairs.clear()
        self.pairs.append(((9, 9), 9))
        self.assertEqual(self.told_by(self.keeper, 3, 20), ahead)
        self.assertEqual(self.keeper.change(0, []), [[]] * 20)

    def test_what_is_told_and_changed_later(self):
        ahead = copy.deepcopy(self.told_by(self.keeper, 3, 20))
        for told in self.told + self.told_by(self.keeper, 3, 20)[0] + self.told_by(self.keeper, 3, 20)[1]:
            told.reverse()
            told.append(((8, 8), 5))
        self.told.clear()
        self.assertEqual(self.told_by(self.keeper, 3, 20), ahead)
        self.assertEqual(self.keeper.change(0, []), [[]] * 20)
        self.assertEqual(self.told_by(self.keeper, 3, 20), ahead)

    def test_what_is_told_stays_as_it_was_behind_later_changes(self):
        told, answers = self.told, self.told_by(self.keeper, 3, 20)
        again = copy.deepcopy((told, answers))
        self.keeper.change(0, [((1, 2), -1), ((5, 5), 1)])
        self.assertEqual((told, answers), again)

    def test_lists_that_are_told_are_new_for_each_view(self):
        keeper = Keeper([1])
        keeper.put(T0)
        keeper.put(T0)
        first, second = keeper.change(0, [((1,), 1)])
        first.clear()
        self.assertEqual(second, [((1,), 1)])
        self.assertEqual([keeper.answer(0), keeper.answer(1)], [[((1,), 1)], [((1,), 1)]])


if __name__ == "__main__":
    unittest.main()
