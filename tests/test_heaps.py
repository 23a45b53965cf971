"""Heaps: made of pairs, listed, put together and turned."""

import copy
import itertools
import unittest

from changeview.heaps import added, heaped, listed, turned

GREAT = 1234567890123456789012345678901234567890
WIDTHS = (1, 2, 3, 4, 5, 6)


def rows_of(width):
    """Rows of one width, falling: they differ in the last column, in the first one or in all."""
    return [
        (GREAT,) * width,
        (10,) + (0,) * (width - 1),
        (9,) * width,
        (0,) * (width - 1) + (2,),
        (0,) * (width - 1) + (1,),
        (0,) * (width - 1) + (-1,),
        (-9,) * width,
        (-10,) + (0,) * (width - 1),
        (-GREAT,) * width,
    ]


def tally(pairs, row):
    """How often one row is told in pairs, counted in another way than heaped does."""
    return sum(count for one, count in pairs if one == row)


def small_pair_lists():
    """Every list of up to three pairs over two rows and the counts -2 to 2."""
    pairs = [(row, count) for row in ((-1,), (3,)) for count in (-2, -1, 0, 1, 2)]
    for length in range(4):
        for chosen in itertools.product(pairs, repeat=length):
            yield list(chosen)


def small_heaps():
    """Every heap over two rows and the counts -2 to 2."""
    for first, second in itertools.product((-2, -1, 0, 1, 2), repeat=2):
        heap = {}
        if first != 0:
            heap[(-1,)] = first
        if second != 0:
            heap[(3,)] = second
        yield heap


class HeapCase(unittest.TestCase):
    def assert_heap(self, heap, wanted):
        self.assertIs(type(heap), dict)
        self.assertEqual(heap, wanted)
        for row, count in heap.items():
            self.assertIs(type(row), tuple)
            self.assertIs(type(count), int)
            self.assertNotEqual(count, 0)


class Heaped(HeapCase):
    def test_no_pairs(self):
        self.assert_heap(heaped([]), {})

    def test_one_pair_of_each_width(self):
        for width in WIDTHS:
            row = tuple(range(-1, width - 1))
            with self.subTest(width=width):
                self.assert_heap(heaped([(row, 3)]), {row: 3})
                self.assert_heap(heaped([(row, -3)]), {row: -3})

    def test_many_rows_of_each_width(self):
        for width in WIDTHS:
            rows = rows_of(width)
            pairs = [(row, count) for count, row in enumerate(rows, -4)] + [(rows[4], 7)]
            wanted = {row: tally(pairs, row) for row in rows}
            with self.subTest(width=width):
                self.assert_heap(heaped(pairs), wanted)

    def test_rows_that_are_alike_in_the_first_columns_stay_apart(self):
        for width in WIDTHS:
            first, second = (5,) * (width - 1) + (1,), (5,) * (width - 1) + (2,)
            with self.subTest(width=width):
                self.assert_heap(heaped([(first, 1), (second, 2)]), {first: 1, second: 2})

    def test_the_order_of_the_columns_counts(self):
        self.assert_heap(heaped([((1, 2), 1), ((2, 1), 1)]), {(1, 2): 1, (2, 1): 1})

    def test_counts_above_and_below_nought(self):
        self.assert_heap(heaped([((1,), 2), ((2,), -5)]), {(1,): 2, (2,): -5})

    def test_a_row_twice_is_put_together(self):
        self.assert_heap(heaped([((1, 2), 2), ((0, 0), 1), ((1, 2), 3)]), {(1, 2): 5, (0, 0): 1})
        self.assert_heap(heaped([((1, 2), -2), ((1, 2), -3)]), {(1, 2): -5})

    def test_the_same_pair_twice_counts_twice(self):
        self.assert_heap(heaped([((4,), 1), ((4,), 1)]), {(4,): 2})

    def test_a_count_of_nought_leaves_no_row(self):
        self.assert_heap(heaped([((1,), 0)]), {})
        self.assert_heap(heaped([((1,), 0), ((2,), 1)]), {(2,): 1})

    def test_a_count_of_nought_takes_nothing_away(self):
        self.assert_heap(heaped([((1,), 4), ((1,), 0)]), {(1,): 4})
        self.assert_heap(heaped([((1,), 0), ((1,), -4)]), {(1,): -4})

    def test_counts_that_cancel_leave_no_row(self):
        self.assert_heap(heaped([((1,), 4), ((2,), 1), ((1,), -4)]), {(2,): 1})
        self.assert_heap(heaped([((1,), -1), ((1,), -2), ((1,), 3)]), {})

    def test_a_row_comes_back_from_nought(self):
        self.assert_heap(heaped([((1,), 4), ((1,), -4), ((1,), 2)]), {(1,): 2})
        self.assert_heap(heaped([((1,), 4), ((1,), -5)]), {(1,): -1})

    def test_forty_figures(self):
        pairs = [((GREAT, -GREAT), GREAT), ((GREAT, -GREAT), 1), ((GREAT + 1, -GREAT), -GREAT)]
        self.assert_heap(heaped(pairs), {(GREAT, -GREAT): GREAT + 1, (GREAT + 1, -GREAT): -GREAT})
        self.assert_heap(heaped([((0,), GREAT), ((0,), 1 - GREAT)]), {(0,): 1})
        self.assert_heap(heaped([((0,), GREAT), ((0,), -GREAT)]), {})

    def test_every_small_list(self):
        for pairs in small_pair_lists():
            counts = {row: tally(pairs, row) for row in ((-1,), (3,))}
            wanted = {row: count for row, count in counts.items() if count != 0}
            self.assert_heap(heaped(pairs), wanted)


class Listed(HeapCase):
    def assert_listed(self, heap, wanted):
        pairs = listed(heap)
        self.assertIs(type(pairs), list)
        self.assertEqual(pairs, wanted)
        for pair in pairs:
            self.assertIs(type(pair), tuple)
            self.assertIs(type(pair[0]), tuple)

    def test_the_empty_heap(self):
        self.assert_listed({}, [])

    def test_rising_by_rows_of_each_width_whatever_the_counts(self):
        for width in WIDTHS:
            falling = rows_of(width)
            rising = falling[::-1]
            mixed = falling[1::2] + falling[::2]
            for order in (falling, rising, mixed):
                for sign in (1, -1):
                    heap = {row: sign * (falling.index(row) + 1) for row in order}
                    wanted = [(row, heap[row]) for row in rising]
                    with self.subTest(width=width, sign=sign, order=order):
                        self.assert_listed(heap, wanted)

    def test_the_first_column_that_differs_decides(self):
        for width in WIDTHS:
            for at in range(width):
                low = (0,) * at + (-1,) + (7,) * (width - at - 1)
                high = (0,) * at + (1,) + (-7,) * (width - at - 1)
                with self.subTest(width=width, at=at):
                    self.assert_listed({high: 1, low: 2}, [(low, 2), (high, 1)])
                    self.assert_listed({low: 2, high: 1}, [(low, 2), (high, 1)])

    def test_the_order_is_that_of_numbers_and_not_of_their_figures(self):
        heap = {(10,): 1, (9,): 1, (-9,): 1, (-10,): 1, (100,): 1}
        self.assert_listed(heap, [((-10,), 1), ((-9,), 1), ((9,), 1), ((10,), 1), ((100,), 1)])

    def test_counts_are_told_as_they_are(self):
        self.assert_listed({(2,): -3, (1,): 5}, [((1,), 5), ((2,), -3)])

    def test_forty_figures(self):
        heap = {(GREAT + 1,): -GREAT, (-GREAT,): 1, (GREAT,): GREAT, (-GREAT - 1,): 2}
        wanted = [((-GREAT - 1,), 2), ((-GREAT,), 1), ((GREAT,), GREAT), ((GREAT + 1,), -GREAT)]
        self.assert_listed(heap, wanted)

    def test_a_heap_of_its_own_list_is_the_heap(self):
        for heap in small_heaps():
            self.assert_heap(heaped(listed(heap)), heap)


class Added(HeapCase):
    def test_empty_heaps(self):
        self.assert_heap(added({}, {}), {})
        self.assert_heap(added({(1,): 2}, {}), {(1,): 2})
        self.assert_heap(added({}, {(1,): 2}), {(1,): 2})

    def test_row_by_row_at_each_width(self):
        for width in WIDTHS:
            first, second, third = (0,) * width, (0,) * (width - 1) + (1,), (-1,) * width
            with self.subTest(width=width):
                both = added({first: 2, second: -3}, {second: -4, third: 6})
                self.assert_heap(both, {first: 2, second: -7, third: 6})

    def test_counts_that_cancel_leave_no_row(self):
        self.assert_heap(added({(1,): 3, (2,): 1}, {(1,): -3}), {(2,): 1})
        self.assert_heap(added({(1,): -3}, {(1,): 3, (2,): -1}), {(2,): -1})
        self.assert_heap(added({(1, 1): 3}, {(1, 1): -3}), {})

    def test_counts_pass_nought_either_way(self):
        self.assert_heap(added({(1,): 3}, {(1,): -5}), {(1,): -2})
        self.assert_heap(added({(1,): -3}, {(1,): 5}), {(1,): 2})

    def test_a_heap_to_itself(self):
        heap = {(1,): 3, (2,): -1}
        self.assert_heap(added(heap, heap), {(1,): 6, (2,): -2})
        self.assertEqual(heap, {(1,): 3, (2,): -1})

    def test_forty_figures(self):
        both = added({(GREAT,): GREAT, (-GREAT,): GREAT}, {(GREAT,): 1 - GREAT, (-GREAT,): GREAT})
        self.assert_heap(both, {(GREAT,): 1, (-GREAT,): 2 * GREAT})
        self.assert_heap(added({(GREAT,): -GREAT}, {(GREAT,): GREAT}), {})

    def test_every_two_small_heaps(self):
        for one, other in itertools.product(list(small_heaps()), repeat=2):
            wanted = {}
            for row in ((-1,), (3,)):
                count = one.get(row, 0) + other.get(row, 0)
                if count != 0:
                    wanted[row] = count
            self.assert_heap(added(one, other), wanted)


class Turned(HeapCase):
    def test_the_empty_heap(self):
        self.assert_heap(turned({}), {})

    def test_each_count_has_the_other_sign_at_each_width(self):
        for width in WIDTHS:
            first, second = (-1,) * width, (-1,) * (width - 1) + (4,)
            with self.subTest(width=width):
                self.assert_heap(turned({first: 2, second: -3}), {first: -2, second: 3})

    def test_forty_figures(self):
        heap = {(GREAT, -GREAT): GREAT, (-GREAT, GREAT): -GREAT - 1}
        self.assert_heap(turned(heap), {(GREAT, -GREAT): -GREAT, (-GREAT, GREAT): GREAT + 1})

    def test_turned_twice_it_is_the_heap_and_added_to_it_nothing(self):
        for heap in small_heaps():
            self.assert_heap(turned(turned(heap)), heap)
            self.assert_heap(added(heap, turned(heap)), {})


# One call of each function, with what it is handed and what it tells.
CALLS = (
    (heaped, ([((2, 1), 1), ((1, 2), 0), ((2, 1), 1), ((0, 0), -4)],), {(2, 1): 2, (0, 0): -4}),
    (heaped, ([],), {}),
    (listed, ({(2, 1): 2, (0, 0): -4},), [((0, 0), -4), ((2, 1), 2)]),
    (listed, ({},), []),
    (added, ({(2, 1): 2, (0, 0): -4}, {(0, 0): 4, (3, 3): 1}), {(2, 1): 2, (3, 3): 1}),
    (added, ({(2, 1): 2}, {}), {(2, 1): 2}),
    (added, ({}, {(2, 1): 2}), {(2, 1): 2}),
    (added, ({}, {}), {}),
    (turned, ({(2, 1): 2, (0, 0): -4},), {(2, 1): -2, (0, 0): 4}),
    (turned, ({},), {}),
)


def spoil(thing):
    """Changes a heap or a list of pairs, as its owner may."""
    if isinstance(thing, dict):
        for row in thing:
            thing[row] += 11
        thing[(8, 8)] = 5
    else:
        thing.reverse()
        thing.append(((8, 8), 5))


class HandedInAndOut(unittest.TestCase):
    """Promise 1: nothing that is handed in is changed, nothing handed in or out is kept."""

    def each_call(self):
        for function, given, wanted in CALLS:
            yield function, copy.deepcopy(given), wanted

    def test_what_is_handed_in_stays_as_it_was(self):
        for function, given, _ in self.each_call():
            ahead = copy.deepcopy(given)
            orders = [list(thing) for thing in given]
            function(*given)
            self.assertEqual(given, ahead)
            self.assertEqual([list(thing) for thing in given], orders)

    def test_what_is_handed_out_is_new_each_time(self):
        for function, given, wanted in self.each_call():
            first = function(*given)
            second = function(*given)
            self.assertIsNot(first, second)
            for thing in given:
                self.assertIsNot(first, thing)
            self.assertEqual(first, wanted)
            self.assertEqual(second, wanted)

    def test_what_is_handed_out_and_changed_changes_nothing_else(self):
        for function, given, wanted in self.each_call():
            ahead = copy.deepcopy(given)
            first = function(*given)
            second = function(*given)
            spoil(first)
            self.assertEqual(given, ahead)
            self.assertEqual(second, wanted)
            self.assertEqual(function(*given), wanted)

    def test_what_is_handed_in_and_changed_later_changes_nothing_told(self):
        for function, given, wanted in self.each_call():
            ahead = copy.deepcopy(given)
            told = function(*given)
            for thing in given:
                spoil(thing)
            self.assertEqual(told, wanted)
            self.assertEqual(function(*ahead), wanted)

    def test_what_is_handed_in_and_changed_is_answered_anew(self):
        for function, given, _ in self.each_call():
            function(*given)
            for thing in given:
                spoil(thing)
            alike = copy.deepcopy(given)
            self.assertEqual(function(*given), function(*alike))
        heap = {(1,): 2}
        self.assertEqual(listed(heap), [((1,), 2)])
        heap[(0,)] = -3
        self.assertEqual(listed(heap), [((0,), -3), ((1,), 2)])
        self.assertEqual(turned(heap), {(0,): 3, (1,): -2})
        self.assertEqual(added(heap, heap), {(0,): -6, (1,): 4})


if __name__ == "__main__":
    unittest.main()
