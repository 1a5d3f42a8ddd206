"""Promise [16]: a row laid behind another one, what it refuses in which order, and the list of the two together."""

import random
import unittest

from creelway.errors import Bare, BadRow, TooMany, TooNear
from creelway.joins import behind
from creelway.trains import trains
from tests.plain import (
    END, FAR, SoonCase, far_parts, far_shifts, joined, long_rows, many_rows, plain_trains, sixty, small_rows,
    wrong_rows,
)


def road_of(row):
    """What lies in each niche from the first stone to the last one."""
    return [niche in row for niche in range(row[0], row[-1] + 1)]


def plain_laid(one, other, gap):
    """The roads of both with empty niches between, niche by niche."""
    road = road_of(one) + [False] * gap + road_of(other)
    return [one[0] + at for at, stone in enumerate(road) if stone]


def plain_list(one, other, told):
    """The list of the two together by their own lists, train by train."""
    ahead = plain_trains(one)
    by = told[len(one)] - other[0]
    later = []
    for size, offset in plain_trains(other):
        offset += by
        for train in ahead:
            offset -= 2 * min(size, train[0])
        later.append((size, offset))
    return sorted(ahead + later)


def pairs_of_rows(count, seed=21):
    """Pairs of rows with stones, at most 60 in all, with just 60 among them."""
    source = random.Random(seed)
    few = [row for row in small_rows() if row]
    more = many_rows(200, seed) + [row[:30] for row in many_rows(60, seed)]
    pairs = [(sixty()[:59], [4]), ([4], sixty()[:59]), (list(range(30)), list(range(30))), (sixty()[:30], sixty()[30:])]
    while len(pairs) < count:
        one, other = source.choice(few + more), source.choice(few + more)
        if len(one) + len(other) <= 60:
            pairs.append((one, other))
    return pairs


class LaidBehind(SoonCase):
    def test_written_out(self):
        self.assertEqual(behind(one=[0], other=[0], gap=1), [0, 2])
        self.assertEqual(behind([0, 1], [5, 7], 2), [0, 1, 4, 6])
        self.assertEqual(behind([0, 1], [5, 7], 3), [0, 1, 5, 7])
        self.assertEqual(behind([-9, 4], [-20, -19, 1], 3), [-9, 4, 8, 9, 29])
        self.assertEqual(behind([7], [-FAR, FAR], 2), [7, 10, 10 + 2 * FAR])
        self.assertEqual(behind([0, FAR], [1], END), [0, FAR, FAR + END + 1])
        self.assertEqual(behind([5 - END], [END], 1), [5 - END, 7 - END])

    def test_niche_by_niche(self):
        for one, other in pairs_of_rows(400):
            for more in (0, 1, 2, 50):
                gap = len(other) + more
                self.assertEqual(behind(one, other, gap), plain_laid(one, other, gap))

    def test_great_gaps_and_rows_that_reach_far(self):
        for parts in far_parts():
            one = joined(parts[:2], far_shifts(parts[:2]))
            other = joined(parts, far_shifts(parts))
            if len(one) + len(other) <= 60:
                for gap in (len(other), FAR, END):
                    told = behind(one, other, gap)
                    self.assertEqual(told[:len(one)], one)
                    self.assertEqual(told[len(one)] - one[-1] - 1, gap)
                    by = told[len(one)] - other[0]
                    self.assertEqual(told[len(one):], [place + by for place in other])

    def test_a_row_behind_itself(self):
        for row in [row for row in small_rows() if row] + [row for row in many_rows(40) if len(row) <= 30]:
            for gap in (len(row), len(row) + 1, FAR):
                told = behind(row, row, gap)
                by = row[-1] - row[0] + gap + 1
                self.assertEqual(told, row + [place + by for place in row])

    def test_where_the_row_that_is_laid_lies_is_all_one(self):
        for one, other in pairs_of_rows(40):
            right = behind(one, other, 60)
            for by in (1, -1, 77, FAR, -FAR):
                self.assertEqual(behind(one, [place + by for place in other], 60), right)


class ListOfBoth(SoonCase):
    def test_the_list_of_the_two_together(self):
        for one, other in pairs_of_rows(400):
            for more in (0, 1, 2, 50, FAR, END - 60):
                told = behind(one, other, len(other) + more)
                want = plain_list(one, other, told)
                self.assertEqual(trains(told), want)
                self.assertEqual(plain_trains(told), want)

    def test_rows_with_alike_trains(self):
        for one, other in (([0, 2], [0, 2]), ([0, 1, 4, 5], [0, 1]), (list(range(0, 60, 2)), list(range(0, 60, 2)))):
            told = behind(one, other, len(other))
            self.assertEqual(trains(told), plain_list(one, other, told))
        self.assertEqual(trains(behind([0, 2], [0, 2], 2)), [(1, -2), (1, -2), (1, -1), (1, -1)])

    def test_nearer_it_would_be_another_list(self):
        unlike = 0
        for one, other in pairs_of_rows(400):
            gap = len(other) - 1
            if gap > 0:
                near = plain_laid(one, other, gap)
                unlike += plain_trains(near) != plain_list(one, other, near)
        self.assertGreater(unlike, 0)


class Refusals(SoonCase):
    def test_without_stones(self):
        for one, other in (([], []), ([], [3]), ([3], []), ([], sixty()), (sixty(), [])):
            for gap in (-FAR, -1, 0, 1, 60, FAR):
                with self.subTest(one=one, other=other, gap=gap), self.assertRaises(Bare):
                    behind(list(one), list(other), gap)

    def test_more_than_60_stones_in_all(self):
        for one, other in ((sixty(), [3]), ([3], sixty()), (sixty(), sixty()), (sixty()[:31], sixty()[:30])):
            for gap in (-FAR, -1, 0, 1, 60, FAR):
                with self.subTest(one=one, other=other, gap=gap), self.assertRaises(TooMany):
                    behind(list(one), list(other), gap)

    def test_sixty_stones_in_all_are_taken(self):
        for many in (1, 2, 29, 30, 31, 58, 59):
            one, other = sixty()[:many], sixty()[many:]
            self.assertEqual(len(behind(one, other, 60 - many)), 60)

    def test_too_near(self):
        for one, other in pairs_of_rows(100):
            for gap in {len(other) - 1, 0, -1, -len(other), -FAR, -END}:
                with self.subTest(one=one, other=other, gap=gap), self.assertRaises(TooNear):
                    behind(list(one), list(other), gap)
            behind(one, other, len(other))

    def test_how_wide_the_gap_is_goes_by_the_row_that_is_laid_behind(self):
        self.assertEqual(behind(list(range(20)), [0], 1), list(range(20)) + [21])
        with self.assertRaises(TooNear):
            behind([0], list(range(20)), 19)
        self.assertEqual(behind([0], list(range(20)), 20), [0] + list(range(21, 41)))

    def test_both_rows_are_looked_at_first_the_first_one_whole(self):
        for gap in (-1, 0, 60):
            for wrong, at in wrong_rows():
                for right in ([], [3], sixty()):
                    for one, other in ((wrong, right), (right, wrong), (wrong, long_rows()[0]), (wrong, [2, 2])):
                        with self.assertRaises(BadRow) as told:
                            behind(list(one), list(other), gap)
                        self.assertEqual(told.exception.at, at)
            for wrong in long_rows():
                for one, other in ((wrong, []), ([], wrong), (wrong, [4, 4]), ([3], wrong)):
                    with self.assertRaises(TooMany):
                        behind(list(one), list(other), gap)

    def test_of_two_wrong_rows_the_first_one_is_told(self):
        for one, other, at in (([1, 2, 2], [1, 1], 2), ([1, 1], [1, 2, 2], 1), ([3, 1], [7] * 61, 1)):
            with self.assertRaises(BadRow) as told:
                behind(one, other, -1)
            self.assertEqual(told.exception.at, at)
        with self.assertRaises(TooMany):
            behind([7] * 61, [3, 1], -1)


class NothingChangedOrKept(SoonCase):
    def test_what_is_handed_in_stays_as_it_was(self):
        for one, other in pairs_of_rows(60) + [([], [1]), ([1], []), ([2, 2], [1]), ([1], [7] * 61)]:
            for gap in (-1, 0, 60, FAR):
                kept = (list(one), list(other))
                try:
                    behind(one, other, gap)
                except (Bare, TooMany, TooNear, BadRow):
                    pass
                self.assertEqual((one, other), kept)

    def test_rows_that_are_changed_behind_a_call_change_nothing(self):
        one, other = [0, 1], [5, 7]
        told = behind(one, other, 2)
        one.clear()
        other.append(8)
        self.assertEqual(told, [0, 1, 4, 6])
        self.assertEqual(behind([0, 1], [5, 7], 2), [0, 1, 4, 6])

    def test_a_told_row_is_changed_and_the_same_is_told_again(self):
        one, other = [0, 1], [5, 7]
        for change in (list.clear, list.reverse, list.pop):
            change(behind(one, other, 2))
            self.assertEqual((one, other), ([0, 1], [5, 7]))
            self.assertEqual(behind(one, other, 2), [0, 1, 4, 6])

    def test_a_row_behind_itself_stays_as_it_was(self):
        row = [0, 1]
        told = behind(row, row, 2)
        told.append(99)
        self.assertEqual(row, [0, 1])
        self.assertEqual(behind(row, row, 2), [0, 1, 4, 5])


class Kinds(unittest.TestCase):
    def test_a_list_of_whole_numbers(self):
        told = behind([0, 1], [5, 7], 2)
        self.assertIs(type(told), list)
        self.assertEqual({type(place) for place in told}, {int})


if __name__ == "__main__":
    unittest.main()
