"""Promises [12] and [13]: marks, the list of a row, and the row of a list."""

import random
import unittest

from creelway.errors import BadTrains, TooMany
from creelway.peels import sizes_by_rounds
from creelway.rows import look_row
from creelway.trains import mark, row_of, trains
from tests.plain import (
    FAR, SoonCase, far_parts, far_shifts, joined, many_lists, many_rows, plain_mark, plain_trains, small_lists,
    small_rows,
)

WRONG = (
    ([(0, 5)], 0), ([(-1, 5)], 0), ([(-FAR, 0)], 0), ([(1, 0), (0, 0)], 1), ([(1, 0), (0, 0), (-3, 0)], 1),
    ([(0, 1), (5, 0), (0, 1)], 0), ([(2, 0), (3, 0), (-1, 0), (4, 0), (0, 0)], 2), ([(1, 7)] * 59 + [(0, 7)], 59),
)
WRONG_AND_TOO_MANY = (
    ([(61, 0), (0, 0)], 1), ([(0, 0), (61, 0)], 0), ([(FAR, 0), (-FAR, 0)], 1), ([(1, 0)] * 61 + [(0, 0)], 61),
    ([(30, 0), (30, 0), (30, 0), (-30, 0)], 3), ([(1, 0)] * 150 + [(0, 4)] * 50, 150),
)
TOO_MANY = (
    [(61, 0)], [(60, 0), (1, 0)], [(1, 0)] * 61, [(1, 5)] * 200, [(FAR, 0)], [(31, -FAR), (30, FAR)],
    [(20, 1), (20, 2), (21, 3)],
)
TAKEN = ([], [(60, 0)], [(1, 0)] * 60, [(30, FAR), (30, -FAR)], [(59, 0), (1, 0)], [(1, 0), (59, 10 ** 60 - 1)])
CALLS = {
    "mark": lambda pairs: mark(trains=pairs, size=2, place=5),
    "row_of": lambda pairs: row_of(trains=pairs),
}


class Marks(SoonCase):
    def test_written_out(self):
        self.assertEqual(mark([], 0, 7), 7)
        self.assertEqual(mark([], 5, -7), -7)
        self.assertEqual(mark([(3, 100)], 0, 7), 7)
        self.assertEqual(mark([(3, 100)], 1, 7), 5)
        self.assertEqual(mark([(3, 100)], 3, 7), 1)
        self.assertEqual(mark([(3, 100)], 4, 7), 1)
        self.assertEqual(mark([(3, 100), (1, 0), (1, 0), (5, -4)], 2, 0), -12)
        self.assertEqual(mark([(3, 100), (1, 0), (1, 0), (5, -4)], 10 ** 50, FAR), FAR - 20)

    def test_train_by_train(self):
        for some in small_lists()[::7] + many_lists(100):
            for size in (0, 1, 2, 3, 5, 10, 30, 59, 60, 61, 10 ** 50):
                for place in (-10 ** 50, -3, 0, 1, 60, FAR):
                    self.assertEqual(mark(some, size, place), plain_mark(some, size, place))

    def test_the_offsets_have_no_part_in_it(self):
        for some in many_lists(40):
            others = [(size, 9) for size, offset in reversed(some)]
            self.assertEqual(mark(some, 4, 11), mark(others, 4, 11))


class ListOfARow(SoonCase):
    def test_written_out(self):
        self.assertEqual(trains([]), [])
        self.assertEqual(trains([0]), [(1, -2)])
        self.assertEqual(trains([7]), [(1, 5)])
        self.assertEqual(trains([5, 6, 7]), [(3, 1)])
        self.assertEqual(trains([0, 2]), [(1, -2), (1, -2)])
        self.assertEqual(trains([0, 3]), [(1, -2), (1, -1)])
        self.assertEqual(trains([0, 1, 3, 4]), [(1, -1), (3, -4)])
        self.assertEqual(trains([0, 1, 10]), [(1, 6), (2, -3)])
        self.assertEqual(trains([-FAR, 0, FAR]), [(1, -FAR - 2), (1, -4), (1, FAR - 6)])
        self.assertEqual(trains(list(range(60))), [(60, -61)])
        self.assertEqual(trains(list(range(0, 120, 2))), [(1, -2)] * 60)

    def test_stone_by_stone(self):
        for row in small_rows() + many_rows(150):
            self.assertEqual(trains(row), plain_trains(row))
        for parts in far_parts():
            row = joined(parts, far_shifts(parts))
            self.assertEqual(trains(row), plain_trains(row))

    def test_one_of_the_longest_takes_the_stone(self):
        # Both trains are ready for a stone at 5: their offsets are the marks of their sizes at 4.
        some = trains([1, 2, 4])
        self.assertEqual(some, [(1, 0), (2, -2)])
        self.assertEqual([mark(some, 1, 4), mark(some, 2, 4)], [0, -2])
        self.assertEqual(trains([1, 2, 4, 5]), [(1, 0), (3, -3)])

    def test_rising_pairs_with_the_sizes_of_the_row(self):
        for row in small_rows() + many_rows(150):
            told = trains(row)
            self.assertEqual(told, sorted(told))
            self.assertEqual([size for size, offset in told], sizes_by_rounds(row))

    def test_unlike_rows_have_unlike_lists(self):
        rows = small_rows()
        self.assertEqual(len({tuple(trains(row)) for row in rows}), len(rows))


class RowOfAList(SoonCase):
    def test_written_out(self):
        self.assertEqual(row_of([]), [])
        self.assertEqual(row_of([(1, -2)]), [0])
        self.assertEqual(row_of([(3, 1)]), [5, 6, 7])
        self.assertEqual(row_of([(1, -2), (1, -2)]), [0, 2])
        self.assertEqual(row_of([(3, -4), (1, -1)]), [0, 1, 3, 4])
        self.assertEqual(row_of([(2, -3), (1, 6)]), [0, 1, 10])
        self.assertEqual(row_of([(1, FAR - 6), (1, -FAR - 2), (1, -4)]), [-FAR, 0, FAR])
        self.assertEqual(row_of([(60, -61)]), list(range(60)))
        self.assertEqual(row_of([(1, -2)] * 60), list(range(0, 120, 2)))

    def test_it_is_the_row_whose_list_it_is(self):
        for row in small_rows() + many_rows(150):
            self.assertEqual(row_of(plain_trains(row)), row)
        for parts in far_parts():
            row = joined(parts, far_shifts(parts))
            self.assertEqual(row_of(plain_trains(row)), row)

    def test_each_list_is_that_of_its_row(self):
        for some in small_lists() + many_lists(250):
            row = row_of(some)
            look_row(row)
            self.assertEqual(len(row), sum(size for size, offset in some))
            self.assertEqual(plain_trains(row), sorted(some))

    def test_unlike_lists_have_unlike_rows(self):
        lists = small_lists()
        self.assertEqual(len({tuple(row_of(some)) for some in lists}), len(lists))

    def test_in_whatever_order(self):
        source = random.Random(6)
        for some in small_lists()[::9] + many_lists(100):
            row = row_of(some)
            for other in (sorted(some), sorted(some, reverse=True), source.sample(some, len(some))):
                self.assertEqual(row_of(other), row)

    def test_offsets_of_sixty_figures(self):
        end = 10 ** 60 - 1
        for some in ([(1, end), (59, -end)], [(59, end), (1, -end)], [(30, end), (30, end)], [(7, -end), (7, end)]):
            self.assertEqual(plain_trains(row_of(some)), sorted(some))


class ListRefusals(SoonCase):
    def test_lists_of_up_to_60_stones_are_taken(self):
        for some in TAKEN:
            for name, call in CALLS.items():
                with self.subTest(name, some=some):
                    call(list(some))

    def test_the_first_size_below_1(self):
        for some, at in WRONG + WRONG_AND_TOO_MANY:
            for name, call in CALLS.items():
                with self.subTest(name, some=some):
                    with self.assertRaises(BadTrains) as told:
                        call(list(some))
                    self.assertEqual(told.exception.at, at)

    def test_more_than_60_stones_in_all(self):
        for some in TOO_MANY:
            for name, call in CALLS.items():
                with self.subTest(name, some=some), self.assertRaises(TooMany):
                    call(list(some))

    def test_what_is_refused_stays_as_it_was_and_changes_nothing(self):
        for name, call in CALLS.items():
            right = call([(2, 4), (1, -3)])
            for some in [list(some) for some, at in WRONG + WRONG_AND_TOO_MANY] + [list(some) for some in TOO_MANY]:
                kept = list(some)
                with self.assertRaises((BadTrains, TooMany)):
                    call(some)
                self.assertEqual(some, kept, name)
                self.assertEqual(call([(2, 4), (1, -3)]), right, name)


class NothingChangedOrKept(SoonCase):
    def test_a_list_that_is_handed_in_stays_as_it_was(self):
        for some in small_lists()[::5] + many_lists(60):
            for name, call in CALLS.items():
                kept = list(some)
                call(some)
                self.assertEqual(some, kept, name)

    def test_a_list_that_is_changed_behind_a_call_changes_nothing(self):
        some = [(2, 4), (1, -3), (2, 4)]
        row = row_of(some)
        right = list(row)
        some.clear()
        self.assertEqual(row, right)
        self.assertEqual(row_of([(2, 4), (1, -3), (2, 4)]), right)

    def test_a_told_row_is_changed_and_the_same_is_told_again(self):
        for some in ([], [(2, 4), (1, -3)], [(1, 0)] * 60):
            told = row_of(some)
            right = list(told)
            told.append(3)
            told.reverse()
            self.assertEqual(row_of(some), right)
            self.assertIsNot(row_of(some), some)


class Kinds(unittest.TestCase):
    def test_a_list_of_pairs_of_whole_numbers(self):
        for row in ([], [0], [1, 2, 5], list(range(60))):
            told = trains(row)
            self.assertIs(type(told), list)
            for pair in told:
                self.assertIs(type(pair), tuple)
                self.assertEqual([type(thing) for thing in pair], [int, int])

    def test_a_row_of_whole_numbers(self):
        for some in ([], [(1, 4)], [(2, 4), (1, -3)]):
            told = row_of(some)
            self.assertIs(type(told), list)
            self.assertTrue(all(type(place) is int for place in told))

    def test_a_mark_is_a_whole_number(self):
        for some in ([], [(1, 4)], [(2, 4), (1, -3)]):
            self.assertIs(type(mark(some, 2, 3)), int)


if __name__ == "__main__":
    unittest.main()
