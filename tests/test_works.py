"""The words of point 4 as works over heaps, each on ordinary heaps and at its edges."""

import copy
import itertools
import unittest

from changeview.works import columns, meet, once, reach, sums, within

GREAT = 1234567890123456789012345678901234567890
SPAN = (-1, 0, 1)
COUNTS = (-2, 0, 1, 3)


def heaps_over(rows, counts):
    """Every heap over the rows with these counts, nought among them for rows left out."""
    for chosen in itertools.product(counts, repeat=len(rows)):
        yield {row: count for row, count in zip(rows, chosen) if count != 0}


def without_noughts(counts):
    """The heap of a dict that may hold counts of nought."""
    return {row: count for row, count in counts.items() if count != 0}


def told_meet(one, other, pairs):
    """meet by its words: each row of one with each of other."""
    found = {}
    for row, count in one.items():
        for behind, times in other.items():
            if all(row[c] == behind[d] for c, d in pairs):
                found[row + behind] = count * times
    return found


def told_reach(heap):
    """reach by its words: steps put behind steps until nothing new comes of it."""
    found = {row for row, count in heap.items() if count > 0}
    while True:
        further = {(a, d) for a, b in found for c, d in found if b == c} - found
        if not further:
            return {row: 1 for row in found}
        found |= further


class WorkCase(unittest.TestCase):
    def assert_heap(self, heap, wanted):
        self.assertIs(type(heap), dict)
        self.assertEqual(heap, wanted)
        for row, count in heap.items():
            self.assertIs(type(row), tuple)
            self.assertIs(type(count), int)
            self.assertNotEqual(count, 0)


class Within(WorkCase):
    HEAP = {(1, 9): 2, (2, 8): -3, (3, 7): 1, (-4, 6): 5}

    def test_the_empty_heap(self):
        self.assert_heap(within({}, 0, 1, 2), {})
        self.assert_heap(within({}, 3, None, None), {})

    def test_both_ends_are_among_it(self):
        self.assert_heap(within(self.HEAP, 0, 1, 2), {(1, 9): 2, (2, 8): -3})
        self.assert_heap(within(self.HEAP, 0, 2, 2), {(2, 8): -3})
        self.assert_heap(within(self.HEAP, 0, -4, -4), {(-4, 6): 5})

    def test_the_column_that_is_told_decides(self):
        self.assert_heap(within(self.HEAP, 1, 1, 2), {})
        self.assert_heap(within(self.HEAP, 1, 7, 8), {(2, 8): -3, (3, 7): 1})

    def test_an_end_that_is_none_is_no_end(self):
        self.assert_heap(within(self.HEAP, 0, None, 1), {(1, 9): 2, (-4, 6): 5})
        self.assert_heap(within(self.HEAP, 0, 2, None), {(2, 8): -3, (3, 7): 1})
        self.assert_heap(within(self.HEAP, 0, None, None), self.HEAP)

    def test_an_end_of_nought_is_an_end(self):
        heap = {(-1,): 1, (0,): 2, (1,): 3}
        self.assert_heap(within(heap, 0, 0, None), {(0,): 2, (1,): 3})
        self.assert_heap(within(heap, 0, None, 0), {(-1,): 1, (0,): 2})
        self.assert_heap(within(heap, 0, 0, 0), {(0,): 2})

    def test_ends_the_other_way_round_leave_nothing(self):
        self.assert_heap(within(self.HEAP, 0, 3, 1), {})

    def test_every_small_heap_and_every_two_ends(self):
        rows = [(number,) for number in SPAN]
        ends = (None, -2, -1, 0, 1, 2)
        for heap in heaps_over(rows, COUNTS):
            for low, high in itertools.product(ends, repeat=2):
                wanted = dict(heap)
                for row in heap:
                    if low is not None and row[0] < low or high is not None and row[0] > high:
                        del wanted[row]
                self.assert_heap(within(heap, 0, low, high), wanted)

    def test_numbers_of_many_figures(self):
        heap = {(GREAT,): GREAT, (GREAT + 1,): -GREAT, (-GREAT,): 1}
        self.assert_heap(within(heap, 0, GREAT, GREAT), {(GREAT,): GREAT})
        self.assert_heap(within(heap, 0, GREAT + 1, None), {(GREAT + 1,): -GREAT})
        self.assert_heap(within(heap, 0, None, -GREAT), {(-GREAT,): 1})
        self.assert_heap(within(heap, 0, None, -GREAT - 1), {})


class Columns(WorkCase):
    def test_the_empty_heap(self):
        self.assert_heap(columns({}, (0,)), {})

    def test_the_order_told_is_the_order_of_the_columns(self):
        heap = {(1, 2, 3): 4, (5, 6, 7): -8}
        self.assert_heap(columns(heap, (2, 0)), {(3, 1): 4, (7, 5): -8})
        self.assert_heap(columns(heap, (1,)), {(2,): 4, (6,): -8})
        self.assert_heap(columns(heap, (0, 1, 2)), heap)

    def test_columns_twice(self):
        heap = {(1, 2): 4, (5, 6): -8}
        self.assert_heap(columns(heap, (0, 0)), {(1, 1): 4, (5, 5): -8})
        self.assert_heap(columns(heap, (1, 0, 1, 1)), {(2, 1, 2, 2): 4, (6, 5, 6, 6): -8})

    def test_rows_that_become_alike_lie_there_together(self):
        self.assert_heap(columns({(1, 2): 4, (1, 3): 5, (2, 3): 1}, (0,)), {(1,): 9, (2,): 1})
        self.assert_heap(columns({(1, 2): -4, (1, 3): -5}, (0,)), {(1,): -9})
        self.assert_heap(columns({(1, 2): 4, (1, 3): -5}, (0,)), {(1,): -1})

    def test_rows_that_become_alike_and_cancel(self):
        self.assert_heap(columns({(1, 2): 4, (1, 3): -4, (2, 3): 1}, (0,)), {(2,): 1})
        self.assert_heap(columns({(1, 2): 4, (1, 3): -3, (1, 4): -1}, (0, 0)), {})

    def test_every_small_heap(self):
        rows = list(itertools.product((0, 1), repeat=2))
        for heap in heaps_over(rows, COUNTS):
            for picked in ((0,), (1,), (0, 1), (1, 0), (1, 1), (0, 1, 0)):
                wanted = {}
                for row in itertools.product((0, 1), repeat=len(picked)):
                    wanted[row] = sum(
                        count for whole, count in heap.items()
                        if tuple(whole[c] for c in picked) == row)
                self.assert_heap(columns(heap, picked), without_noughts(wanted))

    def test_a_wide_row(self):
        row = tuple(range(40))
        self.assert_heap(columns({row: 2}, tuple(range(39, -1, -1))), {row[::-1]: 2})

    def test_numbers_of_many_figures(self):
        heap = {(GREAT, 1): GREAT, (GREAT, 2): 1 - GREAT, (-GREAT, 1): GREAT}
        self.assert_heap(columns(heap, (0,)), {(GREAT,): 1, (-GREAT,): GREAT})


class Meet(WorkCase):
    ONE = {(1, 10): 2, (2, 10): 3, (3, 20): -1}
    OTHER = {(10, 7): 5, (20, 8): -4, (30, 9): 1}

    def test_empty_heaps(self):
        for pairs in ((), ((0, 0),), ((1, 0), (0, 1))):
            self.assert_heap(meet({}, {}, pairs), {})
            self.assert_heap(meet(self.ONE, {}, pairs), {})
            self.assert_heap(meet({}, self.OTHER, pairs), {})

    def test_rows_with_the_same_number_stand_one_behind_the_other(self):
        self.assert_heap(meet(self.ONE, self.OTHER, ((1, 0),)), {
            (1, 10, 10, 7): 10, (2, 10, 10, 7): 15, (3, 20, 20, 8): 4,
        })

    def test_the_first_of_a_pair_is_the_column_of_the_first_view(self):
        self.assert_heap(meet(self.ONE, self.OTHER, ((0, 1),)), {})
        self.assert_heap(meet({(1, 2): 1}, {(2, 3): 1}, ((1, 0),)), {(1, 2, 2, 3): 1})
        self.assert_heap(meet({(1, 2): 1}, {(3, 1): 1}, ((1, 0),)), {})
        self.assert_heap(meet({(1, 2): 1}, {(3, 1): 1}, ((0, 1),)), {(1, 2, 3, 1): 1})

    def test_all_pairs_are_to_be_the_same(self):
        one, other = {(1, 2): 1, (1, 3): 1}, {(1, 2): 1, (4, 3): 1}
        self.assert_heap(meet(one, other, ((0, 0), (1, 1))), {(1, 2, 1, 2): 1})
        self.assert_heap(meet(one, other, ((1, 1),)), {(1, 2, 1, 2): 1, (1, 3, 4, 3): 1})

    def test_one_column_with_two_others(self):
        other = {(1, 1): 2, (1, 2): 3, (2, 2): 5}
        self.assert_heap(meet({(1,): 7, (2,): 11}, other, ((0, 0), (0, 1))), {
            (1, 1, 1): 14, (2, 2, 2): 55,
        })
        self.assert_heap(meet({(1, 1): 7, (1, 2): 11}, {(1,): 2, (2,): 3}, ((0, 0), (1, 0))), {
            (1, 1, 1): 14,
        })

    def test_no_pairs_each_row_with_each(self):
        self.assert_heap(meet({(1,): 2, (2,): -3}, {(3, 4): 5, (5, 6): -7}, ()), {
            (1, 3, 4): 10, (1, 5, 6): -14, (2, 3, 4): -15, (2, 5, 6): 21,
        })

    def test_a_pair_twice_is_as_once(self):
        for pairs in (((1, 0), (1, 0)), ((1, 0),) * 5):
            self.assert_heap(meet(self.ONE, self.OTHER, pairs), meet(self.ONE, self.OTHER, ((1, 0),)))

    def test_the_product_of_counts_below_nought(self):
        self.assert_heap(meet({(1,): -2}, {(1,): -3}, ((0, 0),)), {(1, 1): 6})
        self.assert_heap(meet({(1,): -2}, {(1,): 3}, ((0, 0),)), {(1, 1): -6})
        self.assert_heap(meet({(1,): 2}, {(1,): -3}, ((0, 0),)), {(1, 1): -6})

    def test_several_rows_of_both_with_the_same_number(self):
        one, other = {(1, 0): 2, (2, 0): 3}, {(0, 5): 7, (0, 6): -1}
        self.assert_heap(meet(one, other, ((1, 0),)), {
            (1, 0, 0, 5): 14, (1, 0, 0, 6): -2, (2, 0, 0, 5): 21, (2, 0, 0, 6): -3,
        })

    def test_a_heap_with_itself(self):
        heap = {(1, 2): 3, (2, 1): -1}
        self.assert_heap(meet(heap, heap, ((1, 0),)), {(1, 2, 2, 1): -3, (2, 1, 1, 2): -3})

    def test_small_heaps(self):
        rows = list(itertools.product((0, 1), repeat=2))
        ways = ((), ((0, 0),), ((0, 1),), ((1, 0), (0, 1)), ((1, 1), (1, 0)), ((0, 0), (0, 0)))
        ones = list(heaps_over(rows, (-2, 0, 3)))
        others = list(heaps_over(rows[:3], (-1, 0, 2)))
        for one, other in itertools.product(ones, others):
            for pairs in ways:
                self.assert_heap(meet(one, other, pairs), told_meet(one, other, pairs))

    def test_numbers_of_many_figures(self):
        one, other = {(GREAT, 1): GREAT}, {(2, GREAT): -GREAT, (2, GREAT + 1): 1}
        self.assert_heap(meet(one, other, ((0, 1),)), {(GREAT, 1, 2, GREAT): -GREAT * GREAT})


class Once(WorkCase):
    def test_the_empty_heap(self):
        self.assert_heap(once({}), {})

    def test_more_often_than_no_time_is_once(self):
        self.assert_heap(once({(1, 2): 1, (3, 4): 2, (5, 6): GREAT}), {(1, 2): 1, (3, 4): 1, (5, 6): 1})

    def test_less_than_no_time_is_not_there(self):
        self.assert_heap(once({(1,): -1, (2,): -GREAT, (3,): 4}), {(3,): 1})
        self.assert_heap(once({(1,): -1}), {})

    def test_every_small_heap(self):
        for heap in heaps_over([(number,) for number in SPAN], COUNTS):
            self.assert_heap(once(heap), {row: 1 for row in heap if heap[row] > 0})


class Sums(WorkCase):
    HEAP = {(1, 5, 7): 2, (1, 6, 8): 3, (2, 5, 9): 1, (2, 5, -9): 4}

    def test_the_empty_heap_has_no_group(self):
        self.assert_heap(sums({}, (0,), 0), {})
        self.assert_heap(sums({}, (), 0), {})

    def test_keys_then_how_often_then_the_sum(self):
        self.assert_heap(sums(self.HEAP, (0,), 2), {(1, 5, 38): 1, (2, 5, -27): 1})
        self.assert_heap(sums(self.HEAP, (1,), 0), {(5, 7, 12): 1, (6, 3, 3): 1})

    def test_several_keys_in_their_order_and_twice(self):
        self.assert_heap(sums(self.HEAP, (1, 0), 2), {
            (5, 1, 2, 14): 1, (6, 1, 3, 24): 1, (5, 2, 5, -27): 1,
        })
        self.assert_heap(sums(self.HEAP, (0, 0), 1), {(1, 1, 5, 28): 1, (2, 2, 5, 25): 1})

    def test_the_column_may_be_a_key(self):
        self.assert_heap(sums(self.HEAP, (0,), 0), {(1, 5, 5): 1, (2, 5, 10): 1})

    def test_no_keys_all_rows_are_one_group(self):
        self.assert_heap(sums(self.HEAP, (), 1), {(10, 53): 1})
        self.assert_heap(sums({(3,): -2}, (), 0), {(-2, -6): 1})

    def test_counts_below_nought(self):
        self.assert_heap(sums({(1, 5): -2, (1, 6): 1}, (0,), 1), {(1, -1, -4): 1})
        self.assert_heap(sums({(1, -5): -2}, (0,), 1), {(1, -2, 10): 1})

    def test_a_group_whose_count_comes_to_nought_is_told(self):
        self.assert_heap(sums({(1, 5): 2, (1, 6): -2}, (0,), 1), {(1, 0, -2): 1})
        self.assert_heap(sums({(5,): 2, (6,): -2}, (), 0), {(0, -2): 1})

    def test_a_group_whose_sum_comes_to_nought_is_told(self):
        self.assert_heap(sums({(1, 5): 2, (1, -10): 1}, (0,), 1), {(1, 3, 0): 1})
        self.assert_heap(sums({(1, 0): 4}, (0,), 1), {(1, 4, 0): 1})

    def test_a_group_whose_count_and_sum_come_to_nought_is_told(self):
        self.assert_heap(sums({(1, 5, 0): 1, (1, 5, 1): -1}, (0,), 1), {(1, 0, 0): 1})
        self.assert_heap(sums({(5, 0): 1, (5, 1): -1}, (), 0), {(0, 0): 1})

    def test_every_small_heap(self):
        rows = list(itertools.product((0, 2), repeat=2))
        for heap in heaps_over(rows, COUNTS):
            for keys in ((), (0,), (1,), (1, 0), (0, 0)):
                wanted = {}
                for row in heap:
                    front = tuple(row[k] for k in keys)
                    group = [whole for whole in heap if tuple(whole[k] for k in keys) == front]
                    times = sum(heap[whole] for whole in group)
                    total = sum(heap[whole] * whole[1] for whole in group)
                    wanted[front + (times, total)] = 1
                self.assert_heap(sums(heap, keys, 1), wanted)

    def test_numbers_of_many_figures(self):
        heap = {(GREAT, GREAT): GREAT, (GREAT, 1 - GREAT): GREAT, (-GREAT, 1): 1}
        self.assert_heap(sums(heap, (0,), 1), {(GREAT, 2 * GREAT, GREAT): 1, (-GREAT, 1, 1): 1})


class Reach(WorkCase):
    def reached(self, *steps):
        return sorted(reach({step: 1 for step in steps}))

    def test_the_empty_heap(self):
        self.assert_heap(reach({}), {})

    def test_one_step_goes_one_way(self):
        self.assert_heap(reach({(1, 2): 1}), {(1, 2): 1})

    def test_steps_one_behind_the_other(self):
        self.assertEqual(self.reached((1, 2), (2, 3)), [(1, 2), (1, 3), (2, 3)])
        self.assertEqual(self.reached((2, 3), (1, 2)), [(1, 2), (1, 3), (2, 3)])
        self.assertEqual(self.reached((1, 2), (3, 4)), [(1, 2), (3, 4)])
        self.assertEqual(self.reached((1, 2), (3, 2)), [(1, 2), (3, 2)])

    def test_each_way_is_told_once_however_often_it_can_be_gone(self):
        heap = {(1, 2): 5, (2, 4): 7, (1, 3): 2, (3, 4): 9, (1, 4): GREAT}
        wanted = {(1, 2): 1, (2, 4): 1, (1, 3): 1, (3, 4): 1, (1, 4): 1}
        self.assert_heap(reach(heap), wanted)

    def test_a_step_to_itself(self):
        self.assertEqual(self.reached((1, 1)), [(1, 1)])
        self.assertEqual(self.reached((1, 1), (1, 2)), [(1, 1), (1, 2)])
        self.assertEqual(self.reached((1, 2), (2, 2)), [(1, 2), (2, 2)])

    def test_loops(self):
        self.assertEqual(self.reached((1, 2), (2, 1)), [(1, 1), (1, 2), (2, 1), (2, 2)])
        three = [(a, b) for a in (1, 2, 3) for b in (1, 2, 3)]
        self.assertEqual(self.reached((1, 2), (2, 3), (3, 1)), three)
        self.assertEqual(self.reached((0, 1), (1, 2), (2, 1), (2, 9)), [
            (0, 1), (0, 2), (0, 9), (1, 1), (1, 2), (1, 9), (2, 1), (2, 2), (2, 9),
        ])

    def test_no_step_at_all_is_no_way(self):
        self.assertNotIn((1, 1), reach({(1, 2): 1, (2, 3): 1}))

    def test_rows_that_lie_there_less_than_no_time_are_no_steps(self):
        self.assert_heap(reach({(1, 2): 1, (2, 3): -1, (3, 4): 1}), {(1, 2): 1, (3, 4): 1})
        self.assert_heap(reach({(1, 1): -4}), {})

    def test_a_long_way(self):
        many = 400
        heap = {(at, at + 1): 1 for at in range(many)}
        wanted = {(a, b): 1 for a in range(many) for b in range(a + 1, many + 1)}
        self.assert_heap(reach(heap), wanted)

    def test_a_long_loop(self):
        many = 150
        heap = {(at, (at + 1) % many): 1 for at in range(many)}
        self.assert_heap(reach(heap), {(a, b): 1 for a in range(many) for b in range(many)})

    def test_every_small_heap(self):
        steps = list(itertools.product((1, 2, 3), repeat=2))
        for heap in heaps_over(steps, (0, 2)):
            self.assert_heap(reach(heap), told_reach(heap))
        for heap in heaps_over(steps[:6], (-1, 0, 1)):
            self.assert_heap(reach(heap), told_reach(heap))

    def test_numbers_of_many_figures(self):
        self.assertEqual(self.reached((GREAT, -GREAT), (-GREAT, GREAT + 1)), [
            (-GREAT, GREAT + 1), (GREAT, -GREAT), (GREAT, GREAT + 1),
        ])


# One call of each work, with what it is handed and what it tells.
CALLS = (
    (within, ({(2, 1): 2, (0, 0): -4}, 0, None, None), {(2, 1): 2, (0, 0): -4}),
    (columns, ({(2, 1): 2, (0, 0): -4}, (0, 1)), {(2, 1): 2, (0, 0): -4}),
    (meet, ({(2,): 2, (0,): -4}, {(0, 1): 1}, ((0, 0),)), {(0, 0, 1): -4}),
    (once, ({(2, 1): 1},), {(2, 1): 1}),
    (sums, ({(2, 1): 2, (0, 0): -4}, (0,), 1), {(2, 2, 2): 1, (0, -4, 0): 1}),
    (reach, ({(2, 1): 1, (1, 0): 1, (2, 0): 1},), {(2, 1): 1, (1, 0): 1, (2, 0): 1}),
    (within, ({}, 0, None, None), {}),
    (columns, ({}, (0,)), {}),
    (meet, ({}, {}, ()), {}),
    (once, ({},), {}),
    (sums, ({}, (), 0), {}),
    (reach, ({},), {}),
)


class HandedInAndOut(unittest.TestCase):
    """Promise 1: nothing that is handed in is changed, and what is handed out is new."""

    def test_what_is_handed_in_stays_as_it_was(self):
        for work, given, wanted in CALLS:
            with self.subTest(work=work.__name__):
                handed = copy.deepcopy(given)
                self.assertEqual(work(*handed), wanted)
                self.assertEqual(handed, given)
                for thing, ahead in zip(handed, given):
                    if isinstance(thing, dict):
                        self.assertEqual(list(thing), list(ahead))

    def test_what_is_handed_out_is_new_each_time(self):
        for work, given, wanted in CALLS:
            with self.subTest(work=work.__name__):
                handed = copy.deepcopy(given)
                first, second = work(*handed), work(*handed)
                self.assertIsNot(first, second)
                for thing in handed:
                    self.assertIsNot(first, thing)
                first[(8, 8)] = 5
                self.assertEqual(second, wanted)
                self.assertEqual(handed, given)
                self.assertEqual(work(*handed), wanted)

    def test_what_is_handed_in_and_changed_later_changes_nothing_told(self):
        for work, given, wanted in CALLS:
            with self.subTest(work=work.__name__):
                handed = copy.deepcopy(given)
                told = work(*handed)
                for thing in handed:
                    if isinstance(thing, dict):
                        thing.clear()
                        thing[(8, 8)] = 5
                self.assertEqual(told, wanted)


if __name__ == "__main__":
    unittest.main()
