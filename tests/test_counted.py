"""Promises [19] and [20]: sober rows, how many there are with told sizes, and their numbers."""

import math
import random
import unittest

from creelway.counted import how_many, number_of, row_numbered
from creelway.errors import BadNumber, BadRow, BadSizes, TooMany
from creelway.trains import trains
from tests.plain import END, FAR, SoonCase, long_rows, many_rows, plain_trains, sixty, small_rows, wrong_rows

WRONG_NICHES = (-1, -2, -200, -END, 201, 202, FAR, END)
WRONG_SIZES = (
    ([0], 0), ([-1], 0), ([1, 0], 1), ([0, -1], 0), ([5, 5, -FAR, 0], 2), ([61, 0], 1), ([0, 61], 0),
    ([1] * 199 + [0], 199), ([1, -5], 1), ([60, 60, -119], 2),
)
LONG_SIZES = ([61], [60, 1], [1, 60], [1] * 61, [30, 31], [FAR], [20, 20, 21], [1] * 200)
TAKEN_SIZES = ([], [1], [60], [1] * 60, [30, 30], [3, 1, 2], [59, 1], [2, 2, 1, 2])


def is_sober(niches, row):
    """Whether a row is sober, counted place by place."""
    full = 0
    for place in range(1, niches + 1):
        full += place in row
        if full > place - full:
            return False
    return all(1 <= place <= niches for place in row)


def rows_within(first, last):
    """All rows that have stones from the first place to the last one alone."""
    niches = last - first + 1
    return [[first + at for at in range(niches) if mask >> at & 1] for mask in range(1 << max(niches, 0))]


def sober_by_sizes(niches):
    """All sober rows over so many niches: for each of their sizes, rising, the rows in the order of their lists."""
    found = {}
    for row in rows_within(1, niches):
        if is_sober(niches, row):
            some = plain_trains(row)
            found.setdefault(tuple(size for size, offset in some), []).append((some, row))
    return {sizes: [row for some, row in sorted(pairs)] for sizes, pairs in found.items()}


def partitions(stones, greatest):
    """All lists of sizes, falling, that come together to so many stones, none beyond the greatest."""
    if stones == 0:
        return [[]]
    return [
        [size] + rest for size in range(min(stones, greatest), 0, -1) for rest in partitions(stones - size, size)
    ]


def plain_room(niches, sizes, size):
    for other in sizes:
        niches -= 2 * min(size, other)
    return niches


def plain_next(niches, some):
    """The list that comes next in order, or None: the last train that can be is moved, those behind begin anew."""
    sizes = [size for size, offset in some]
    for at in range(len(some) - 1, -1, -1):
        size, offset = some[at]
        if offset < plain_room(niches, sizes, size):
            later = [(other, offset + 1 if other == size else 0) for other in sizes[at:]]
            return some[:at] + later
    return None


def many_sizes(count, seed=11):
    """Lists of sizes in any order, of up to 60 stones, all of which some row over 200 niches has."""
    source = random.Random(seed)
    lists = [list(sizes) for sizes in TAKEN_SIZES]
    while len(lists) < count:
        stones = source.choice((1, 5, 20, 40, 59, 60, source.randint(1, 60)))
        longest = source.choice((1, 2, 4, 10, 60))
        sizes = []
        while stones:
            sizes.append(source.randint(1, min(stones, longest)))
            stones -= sizes[-1]
        source.shuffle(sizes)
        lists.append(sizes)
    return lists


def numbers_for(many, source):
    """Numbers from 0 to one less than so many, of at most sixty figures: the ends and some between."""
    last = min(many - 1, END)
    near = {0, 1, 2, last, last - 1, last // 2} & set(range(last + 1)) if last < 10 else {0, 1, 2, last, last - 1}
    return sorted(near | {source.randint(0, last) for trial in range(10)})


class AllOfThem(SoonCase):
    def test_how_many(self):
        for niches in range(12):
            found = sober_by_sizes(niches)
            for stones in range(8):
                for sizes in partitions(stones, stones):
                    self.assertEqual(how_many(niches, sizes), len(found.get(tuple(sorted(sizes)), [])))

    def test_rows_by_numbers_and_numbers_by_rows(self):
        for niches in range(12):
            for sizes, rows in sober_by_sizes(niches).items():
                for number, row in enumerate(rows):
                    self.assertEqual(row_numbered(niches, list(sizes), number), row)
                    self.assertEqual(row_numbered(niches, list(sizes)[::-1], number), row)
                    self.assertEqual(number_of(niches, row), number)
                for number in (-1, -len(rows), len(rows), len(rows) + 1):
                    with self.assertRaises(BadNumber):
                        row_numbered(niches, list(sizes), number)

    def test_rows_that_are_not_sober(self):
        for niches in range(8):
            for row in rows_within(-1, niches + 2):
                if is_sober(niches, row):
                    number_of(niches, row)
                else:
                    with self.subTest(niches=niches, row=row), self.assertRaises(BadNumber):
                        number_of(niches, row)

    def test_sober_just_where_each_offset_is_from_0_to_the_room(self):
        for niches in range(8):
            for row in rows_within(-1, niches + 2):
                some = trains(row)
                sizes = [size for size, offset in some]
                rooms = [plain_room(niches, sizes, size) for size in sizes]
                fits = all(0 <= offset <= room for (size, offset), room in zip(some, rooms))
                self.assertIs(fits, is_sober(niches, row))


class Counts(SoonCase):
    def test_written_out(self):
        self.assertEqual(how_many(niches=0, sizes=[]), 1)
        self.assertEqual(how_many(200, []), 1)
        self.assertEqual(how_many(0, [1]), 0)
        self.assertEqual(how_many(1, [1]), 0)
        self.assertEqual(how_many(2, [1]), 1)
        self.assertEqual(how_many(200, [1]), 199)
        self.assertEqual(how_many(4, [1, 1]), 1)
        self.assertEqual(how_many(5, [1, 1]), 3)
        self.assertEqual(how_many(5, [2, 1]), 0)
        self.assertEqual(how_many(6, [2, 1]), 3)
        self.assertEqual(how_many(6, [1, 2]), 3)
        self.assertEqual(how_many(119, [60]), 0)
        self.assertEqual(how_many(120, [60]), 1)
        self.assertEqual(how_many(200, [60]), 81)
        self.assertEqual(how_many(120, [1] * 60), 1)
        self.assertEqual(how_many(119, [1] * 60), 0)
        self.assertEqual(how_many(200, [1] * 60), math.comb(140, 60))
        self.assertEqual(how_many(200, [30, 30]), math.comb(82, 2))
        self.assertEqual(how_many(200, [20, 20, 10, 10]), math.comb(122, 2) * math.comb(82, 2))

    def test_nought_where_a_room_is_below_nought(self):
        # The room of the lesser size is above nought here, that of the greater one isn't.
        self.assertEqual(how_many(9, [1, 4]), 0)
        self.assertEqual(how_many(9, [4, 1]), 0)
        self.assertEqual(how_many(10, [1, 4]), 7)
        # Two rooms below nought don't make something of it, nor do rooms far below.
        self.assertEqual(how_many(0, [1, 2]), 0)
        self.assertEqual(how_many(1, [1, 1, 2, 2]), 0)
        self.assertEqual(how_many(0, [1] * 60), 0)
        self.assertEqual(how_many(3, [5, 5, 5, 4, 4, 1]), 0)

    def test_all_sizes_come_together_to_all_sober_rows(self):
        for niches, stones in ((200, 20), (100, 25), (61, 30), (60, 30), (59, 30), (200, 1), (7, 3)):
            every = math.comb(niches, stones) - math.comb(niches, stones - 1)
            told = sum(how_many(niches, sizes) for sizes in partitions(stones, stones))
            self.assertEqual(told, max(every, 0))

    def test_by_the_ways_to_choose(self):
        for sizes in many_sizes(60):
            for niches in (0, 60, 119, 120, 150, 199, 200):
                want = 1
                for size in set(sizes):
                    room = plain_room(niches, sizes, size)
                    many = sizes.count(size)
                    want *= math.comb(room + many, many) if room >= 0 else 0
                self.assertEqual(how_many(niches, sizes), want)


class Numbers(SoonCase):
    def test_written_out(self):
        self.assertEqual(row_numbered(niches=0, sizes=[], number=0), [])
        self.assertEqual(number_of(niches=0, row=[]), 0)
        self.assertEqual(number_of(200, []), 0)
        self.assertEqual([row_numbered(5, [1, 1], number) for number in range(3)], [[2, 4], [2, 5], [3, 5]])
        self.assertEqual([row_numbered(6, [2, 1], number) for number in range(3)], [[2, 5, 6], [3, 5, 6], [3, 4, 6]])
        self.assertEqual(row_numbered(200, [60], 0), list(range(61, 121)))
        self.assertEqual(row_numbered(200, [60], 80), list(range(141, 201)))
        self.assertEqual(number_of(200, list(range(141, 201))), 80)
        self.assertEqual(row_numbered(120, [1] * 60, 0), list(range(2, 121, 2)))
        self.assertEqual(row_numbered(200, [1] * 60, math.comb(140, 60) - 1), list(range(82, 201, 2)))

    def test_great_numbers(self):
        source = random.Random(12)
        for sizes in many_sizes(40):
            many = how_many(200, sizes)
            for number in numbers_for(many, source):
                row = row_numbered(200, sizes, number)
                some = plain_trains(row)
                self.assertTrue(is_sober(200, row))
                self.assertEqual([size for size, offset in some], sorted(sizes))
                self.assertEqual(number_of(200, row), number)
                if number < min(many - 1, END):
                    self.assertEqual(plain_trains(row_numbered(200, sizes, number + 1)), plain_next(200, some))

    def test_the_first_and_the_last_one(self):
        for sizes in many_sizes(60):
            for niches in (sum(sizes) * 2, 199, 200):
                many = how_many(niches, sizes)
                first = plain_trains(row_numbered(niches, sizes, 0))
                self.assertEqual(first, [(size, 0) for size in sorted(sizes)])
                if many <= END:
                    last = plain_trains(row_numbered(niches, sizes, many - 1))
                    self.assertEqual(last, [(size, plain_room(niches, sizes, size)) for size in sorted(sizes)])
                    with self.assertRaises(BadNumber):
                        row_numbered(niches, sizes, many)

    def test_numbers_that_no_row_has(self):
        for sizes in many_sizes(40):
            for niches in (0, 60, 200):
                many = how_many(niches, sizes)
                for number in (-1, -2, -many, -END, many, many + 1):
                    if number < 0 or number >= many:
                        with self.subTest(sizes=sizes, number=number), self.assertRaises(BadNumber):
                            row_numbered(niches, sizes, number)

    def test_where_there_is_no_sober_row(self):
        for niches, sizes in ((0, [1]), (1, [1]), (5, [1, 2]), (119, [60]), (119, [1] * 60)):
            for number in (-1, 0, 1, END):
                with self.assertRaises(BadNumber):
                    row_numbered(niches, sizes, number)

    def test_just_sober_and_just_not(self):
        for niches, row in ((2, [2]), (4, [3, 4]), (4, [2, 4]), (120, list(range(61, 121)))):
            number_of(niches, row)
            with self.assertRaises(BadNumber):
                number_of(niches - 1, row)
            with self.assertRaises(BadNumber):
                number_of(niches, [place - 1 for place in row])
        for row in ([0], [1], [-1], [201], [2, 3], [2, 201], [0, 5], [-FAR], [FAR], [2, 4, 6, 7, 8, 9]):
            with self.subTest(row=row), self.assertRaises(BadNumber):
                number_of(200, row)

    def test_rows_of_any_kind(self):
        seen = {True: 0, False: 0}
        for row in small_rows() + many_rows(150) + [sorted(200 - place for place in row) for row in many_rows(150)]:
            for niches in (0, 3, 4, 100, 200):
                sober = is_sober(niches, row)
                seen[sober] += bool(row)
                if sober:
                    number = number_of(niches, row)
                    sizes = [size for size, offset in plain_trains(row)]
                    self.assertIn(number, range(how_many(niches, sizes)))
                    if number <= END:
                        self.assertEqual(row_numbered(niches, sizes, number), row)
                else:
                    with self.assertRaises(BadNumber):
                        number_of(niches, row)
        self.assertGreater(seen[True], 50)
        self.assertGreater(seen[False], 50)


class Refusals(SoonCase):
    def test_niches(self):
        for niches in WRONG_NICHES:
            for sizes in list(TAKEN_SIZES) + list(LONG_SIZES) + [sizes for sizes, at in WRONG_SIZES]:
                with self.subTest(niches=niches, sizes=sizes):
                    with self.assertRaises(BadNumber):
                        how_many(niches, list(sizes))
                    for number in (-1, 0, END):
                        with self.assertRaises(BadNumber):
                            row_numbered(niches, list(sizes), number)
            for row in ([], [2], [2, 4], sixty()):
                with self.subTest(niches=niches, row=row), self.assertRaises(BadNumber):
                    number_of(niches, row)

    def test_niches_that_are_taken(self):
        for niches in (0, 1, 199, 200):
            self.assertEqual(how_many(niches, []), 1)
            self.assertEqual(row_numbered(niches, [], 0), [])
            self.assertEqual(number_of(niches, []), 0)

    def test_the_first_size_below_1(self):
        for sizes, at in WRONG_SIZES:
            for niches in (0, 1, 200):
                with self.subTest(sizes=sizes, niches=niches):
                    with self.assertRaises(BadSizes) as told:
                        how_many(niches, list(sizes))
                    self.assertEqual(told.exception.at, at)
                    for number in (-1, 0, END):
                        with self.assertRaises(BadSizes) as told:
                            row_numbered(niches, list(sizes), number)
                        self.assertEqual(told.exception.at, at)

    def test_more_than_60_stones(self):
        for sizes in LONG_SIZES:
            for niches in (0, 1, 200):
                with self.subTest(sizes=sizes, niches=niches):
                    with self.assertRaises(TooMany):
                        how_many(niches, list(sizes))
                    for number in (-1, 0, END):
                        with self.assertRaises(TooMany):
                            row_numbered(niches, list(sizes), number)

    def test_sizes_that_are_taken(self):
        for sizes in TAKEN_SIZES:
            self.assertGreater(how_many(200, list(sizes)), 0)
            self.assertEqual(len(row_numbered(200, list(sizes), 0)), sum(sizes))

    def test_the_row_goes_ahead_of_the_niches(self):
        for niches in (0, 200) + WRONG_NICHES:
            for row in long_rows():
                with self.assertRaises(TooMany):
                    number_of(niches, row)
            for row, at in wrong_rows():
                with self.assertRaises(BadRow) as told:
                    number_of(niches, row)
                self.assertEqual(told.exception.at, at)


class NothingChangedOrKept(SoonCase):
    def test_what_is_handed_in_stays_as_it_was(self):
        wrong = [list(sizes) for sizes in LONG_SIZES] + [list(sizes) for sizes, at in WRONG_SIZES]
        for sizes in many_sizes(30) + wrong:
            for niches in (-1, 3, 200):
                kept = list(sizes)
                for call in (lambda: how_many(niches, sizes), lambda: row_numbered(niches, sizes, 1)):
                    try:
                        call()
                    except (BadNumber, BadSizes, TooMany):
                        pass
                    self.assertEqual(sizes, kept)
        for row in small_rows() + long_rows() + [row for row, at in wrong_rows()]:
            kept = list(row)
            try:
                number_of(200, row)
            except (BadNumber, BadRow, TooMany):
                pass
            self.assertEqual(row, kept)

    def test_a_told_row_is_changed_and_the_same_is_told_again(self):
        sizes = [3, 1, 2]
        told = row_numbered(20, sizes, 17)
        right = list(told)
        told.clear()
        self.assertEqual(row_numbered(20, sizes, 17), right)
        self.assertEqual(sizes, [3, 1, 2])
        again = row_numbered(20, sizes, 17)
        sizes.clear()
        self.assertEqual(again, right)
        self.assertEqual(row_numbered(20, [1, 2, 3], 17), right)

    def test_changed_sizes_and_rows_change_no_later_answer(self):
        sizes, row = [3, 1, 2], [2, 4, 7]
        right = (how_many(20, sizes), number_of(20, row))
        sizes.append(1)
        row.append(9)
        self.assertEqual((how_many(20, [3, 1, 2]), number_of(20, [2, 4, 7])), right)


class Kinds(unittest.TestCase):
    def test_kinds(self):
        self.assertIs(type(how_many(20, [1, 2])), int)
        self.assertIs(type(how_many(0, [1, 2])), int)
        self.assertIs(type(number_of(20, [2, 4])), int)
        for told in (row_numbered(20, [], 0), row_numbered(20, [1, 2], 3)):
            self.assertIs(type(told), list)
            self.assertTrue(all(type(place) is int for place in told))


if __name__ == "__main__":
    unittest.main()
