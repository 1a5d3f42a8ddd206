"""Promises [8], [14] and [15]: lists and rows behind walks of any counts, and ranked rows."""

import random
import unittest

from creelway.carriers import walked, walked_back
from creelway.errors import BadCreel, BadRow, BadTrains, TooMany
from creelway.far import added, far, is_ranked, rank_count
from creelway.rows import mirrored, moved, stretches
from creelway.trains import row_of, trains
from tests.plain import (
    END, FAR, WRONG_WALKS, SoonCase, creels_for, far_parts, far_shifts, joined, many_lists, many_rows, many_walks,
    plain_added, plain_behind, plain_rank_count, plain_ranked, plain_trains, small_lists, small_rows,
)


def far_rows():
    return [joined(parts, far_shifts(parts)) for parts in far_parts()]


def ranked_rows(count, seed=7):
    """Ranked rows, as lists of pairs (first, length), often with gaps that are just wide enough."""
    source = random.Random(seed)
    rows = []
    while len(rows) < count:
        lengths = sorted(source.randint(1, source.choice((1, 3, 8))) for stretch in range(source.randint(1, 7)))
        wider = source.choice((0, 1, 30, FAR))
        place, pairs = source.randint(-50, 50), []
        for length in lengths:
            pairs.append((place, length))
            place += 2 * length + source.choice((0, source.randint(0, wider)))
        rows.append(pairs)
    return rows


def laid(pairs):
    """The row of stretches that are told as pairs (first, length)."""
    return sorted(first + more for first, length in pairs for more in range(length))


class Added(SoonCase):
    def test_written_out(self):
        self.assertEqual(added([], [(2, 5)]), [])
        self.assertEqual(added([(3, 7), (1, -2)], []), [(1, -2), (3, 7)])
        self.assertEqual(added([(3, 7), (1, -2)], [(2, 5)]), [(1, 3), (3, 17)])
        self.assertEqual(added([(3, 7), (1, -2)], [(2, -5)]), [(1, -7), (3, -3)])
        self.assertEqual(added([(3, 7), (1, -2)], [(2, 0), (9, 0)]), [(1, -2), (3, 7)])
        self.assertEqual(added([(3, 7), (1, -2)], [(2, 5), (3, -5), (2, 5)]), [(1, 3), (3, 12)])
        self.assertEqual(added([(2, 4), (2, 4), (2, -4)], [(1, 1)]), [(2, -3), (2, 5), (2, 5)])
        self.assertEqual(added([(60, 0)], [(10 ** 50, END)]), [(60, 60 * END)])

    def test_walk_by_walk(self):
        lists = small_lists()[::11] + many_lists(50)
        for walks in many_walks(15, 6) + many_walks(15, END):
            for some in lists:
                self.assertEqual(added(some, walks), plain_added(some, walks))

    def test_it_is_the_list_of_the_row_behind_the_walks(self):
        for row in small_rows()[::4] + many_rows(25):
            for walks in many_walks(12, 4):
                self.assertEqual(added(trains(row), walks), plain_trains(plain_behind(row, walks)))

    def test_each_single_walk(self):
        for row in small_rows() + many_rows(40) + far_rows():
            some = plain_trains(row)
            for creel in (1, 2, 3, 5, 60, 10 ** 50):
                self.assertEqual(added(some, [(creel, 1)]), plain_trains(walked(row, creel)))
                self.assertEqual(added(some, [(creel, -1)]), plain_trains(walked_back(row, creel)))


class MovedAndMirrored(SoonCase):
    def test_moving_adds_to_each_offset(self):
        for row in small_rows()[::3] + many_rows(40) + far_rows():
            for by in (0, 1, -1, 40, -FAR, END):
                self.assertEqual(trains(moved(row, by)), [(size, offset + by) for size, offset in trains(row)])

    def test_mirroring_turns_each_offset(self):
        for row in small_rows() + many_rows(100) + far_rows():
            some = trains(row)
            want = []
            for size, offset in some:
                want.append((size, -1 - size - offset - 2 * sum(min(size, other) for other, far_off in some)))
            self.assertEqual(trains(mirrored(row)), sorted(want))


class Far(SoonCase):
    def test_written_out(self):
        self.assertEqual(far([], [(2, FAR)]), [])
        self.assertEqual(far([5], [(2, FAR), (3, -1)]), [FAR + 4])
        self.assertEqual(far([0, 1, 2, 10], []), [0, 1, 2, 10])
        self.assertEqual(far([0, 1, 2, 10], [(2, 0)]), [0, 1, 2, 10])
        self.assertEqual(far([0, 1, 2, 10], [(3, 4)]), [12, 14, 15, 16])
        self.assertEqual(far([0, 1, 2, 10], [(2, -3), (1, 5)]), [-1, 0, 1, 12])
        self.assertEqual(far([0, 1, 2, 10], [(3, FAR)]), [FAR + 8] + [3 * FAR + more for more in (2, 3, 4)])
        self.assertEqual(far([0, 1, 2, 10], [(3, -FAR)]), [-3 * FAR, 1 - 3 * FAR, 2 - 3 * FAR, 10 - FAR])

    def test_niche_by_niche(self):
        for row in small_rows()[::2] + many_rows(30):
            for walks in many_walks(12, 4):
                self.assertEqual(far(row, walks), plain_behind(row, walks))

    def test_one_by_one(self):
        for row in small_rows()[::5] + many_rows(30) + far_rows()[:20]:
            for creel in (1, 2, 3, 7, 60, 10 ** 50):
                there, back = row, row
                for count in range(1, 8):
                    there, back = walked(there, creel), walked_back(back, creel)
                    self.assertEqual(far(row, [(creel, count)]), there)
                    self.assertEqual(far(row, [(creel, -count)]), back)

    def test_great_counts(self):
        for row in small_rows()[::5] + many_rows(25) + far_rows()[:10]:
            for walks in many_walks(10, FAR) + many_walks(10, END):
                behind = far(row, walks)
                self.assertEqual(plain_trains(behind), plain_added(plain_trains(row), walks))

    def test_walks_that_undo_one_another(self):
        for row in small_rows()[::5] + many_rows(30):
            for walks in many_walks(10, END):
                back = [(creel, -count) for creel, count in walks]
                self.assertEqual(far(far(row, walks), back), row)
                self.assertEqual(far(row, walks + back), row)
                self.assertEqual(far(row, walks[::-1]), far(row, walks))

    def test_a_creel_of_1_moves_the_row(self):
        for row in small_rows()[::5] + many_rows(30) + far_rows()[:20]:
            for count in (0, 1, -1, 77, -FAR, END, -END):
                self.assertEqual(far(row, [(1, count)]), moved(row, count))

    def test_a_greater_creel_than_the_stones_are_many_does_the_same(self):
        for row in many_rows(40):
            for count in (3, -FAR, END):
                self.assertEqual(far(row, [(len(row), count)]), far(row, [(END, count)]))

    def test_two_hundred_walks(self):
        source = random.Random(8)
        walks = [(source.randint(1, 70), source.randint(-END, END)) for walk in range(200)]
        for row in many_rows(20):
            self.assertEqual(plain_trains(far(row, walks)), plain_added(plain_trains(row), walks))


class Ranked(SoonCase):
    def test_written_out(self):
        for row in ([], [7], [0, 1, 2], [0, 2], [0, 2, 3], [0, 5, 6], [0, 1, 4, 5], [0, 2, 3, 6, 7], [-FAR, FAR]):
            self.assertIs(is_ranked(row), True, row)
        for row in ([0, 1, 3], [0, 1, 4], [0, 1, 3, 4], [0, 1, FAR], [0, 2, 3, 5, 6], [0, 2, 3, 6], [0, 1, 3, 4, 5]):
            self.assertIs(is_ranked(row), False, row)

    def test_by_the_lengths_of_the_runs(self):
        for row in small_rows() + many_rows(300):
            self.assertIs(is_ranked(row), plain_ranked(row))

    def test_just_ranked_and_just_not(self):
        seen = 0
        for pairs in ranked_rows(300):
            self.assertTrue(is_ranked(laid(pairs)))
            for at in range(1, len(pairs)):
                (first, length), (start, longer) = pairs[at - 1:at + 1]
                narrow = start - first - 2 * length + 1
                nearer = pairs[:at] + [(place - narrow, many) for place, many in pairs[at:]]
                if length > 1:
                    self.assertFalse(is_ranked(laid(nearer)))
                    self.assertTrue(is_ranked(laid(pairs[:at] + [(place + 1, many) for place, many in nearer[at:]])))
                    self.assertFalse(is_ranked(laid(pairs[:at] + [(start, length - 1)] + pairs[at + 1:])))
                    seen += 1
        self.assertGreater(seen, 100)

    def test_each_stretch_is_one_train(self):
        for pairs in ranked_rows(300):
            some = trains(laid(pairs))
            self.assertEqual([size for size, offset in some], [length for first, length in pairs])
            ahead = 0
            for (first, length), (size, offset) in zip(pairs, some):
                self.assertEqual(first, offset + size + 1 + 2 * ahead)
                ahead += size

    def test_a_walk_moves_each_stretch_and_leaves_the_row_ranked(self):
        for pairs in ranked_rows(100):
            row = laid(pairs)
            for creel in creels_for(row):
                want = laid([(first + min(creel, length), length) for first, length in pairs])
                self.assertEqual(walked(row, creel), want)
                self.assertTrue(is_ranked(want))
                much = laid([(first + END * min(creel, length), length) for first, length in pairs])
                self.assertEqual(far(row, [(creel, END)]), much)
                self.assertTrue(is_ranked(much))

    def test_the_stretches_of_a_row_that_has_become_ranked(self):
        for some in many_lists(150):
            row = row_of(some)
            behind = far(row, [(60, rank_count(row))])
            lengths = [last - first + 1 for first, last in stretches(behind)]
            self.assertEqual(lengths, sorted(size for size, offset in some))


class RankCount(SoonCase):
    def test_written_out(self):
        self.assertEqual(rank_count([]), 0)
        self.assertEqual(rank_count([7]), 0)
        self.assertEqual(rank_count([0, 2, 3, 6, 7]), 0)
        self.assertEqual(rank_count([0, 1, 3]), 1)
        self.assertEqual(rank_count([0, 1, 3, 4]), 1)
        self.assertEqual(rank_count([0, 1, 2, 10]), 4)
        self.assertEqual(rank_count([0, 1, 10]), 8)
        self.assertEqual(rank_count([0, 1, 2, 5, 6, 20]), 15)
        self.assertEqual(rank_count([-FAR, 1 - FAR, FAR]), 2 * FAR - 2)
        self.assertEqual(rank_count([0, 1, 2, FAR]), FAR // 2 - 1)
        self.assertEqual(rank_count([0, 1, 2, FAR + 1]), FAR // 2)
        self.assertEqual(rank_count([0, 1, 2, FAR + 2]), FAR // 2)

    def test_walk_by_walk(self):
        for row in small_rows() + many_rows(150):
            self.assertEqual(rank_count(row), plain_rank_count(row))

    def test_it_is_nought_just_where_the_row_is_ranked(self):
        for row in small_rows() + many_rows(100) + far_rows() + [laid(pairs) for pairs in ranked_rows(50)]:
            self.assertIs(rank_count(row) == 0, is_ranked(row))

    def test_ranked_behind_that_many_and_not_behind_one_less(self):
        for row in far_rows() + [row_of(some) for some in many_lists(150)]:
            count = rank_count(row)
            self.assertGreaterEqual(count, 0)
            self.assertTrue(is_ranked(far(row, [(60, count)])))
            self.assertTrue(is_ranked(far(row, [(60, count + 1)])))
            if count:
                self.assertFalse(is_ranked(far(row, [(60, count - 1)])))


class Refusals(SoonCase):
    def test_the_first_creel_below_1(self):
        for walks in WRONG_WALKS:
            for some in ([], [(1, 0)], [(2, 4), (1, -3)], [(1, 0)] * 60):
                with self.subTest(walks=walks, some=some), self.assertRaises(BadCreel):
                    added(trains=list(some), walks=list(walks))
            for row in ([], [0], [1, 2, 5], list(range(60))):
                with self.subTest(walks=walks, row=row), self.assertRaises(BadCreel):
                    far(row=row, walks=list(walks))

    def test_counts_of_any_sign_are_taken(self):
        for count in (0, 1, -1, END, -END):
            self.assertEqual(far([3], [(1, count)]), [3 + count])
            self.assertEqual(added([(1, 3)], [(END, count)]), [(1, 3 + count)])

    def test_the_first_size_below_1_goes_ahead_of_all(self):
        lists = (
            ([(0, 5)], 0), ([(1, 0), (-1, 0)], 1), ([(61, 0), (0, 0)], 1), ([(1, 0)] * 70 + [(0, 0), (-1, 0)], 70),
        )
        for some, at in lists:
            for walks in ([], [(2, 3)]) + WRONG_WALKS:
                with self.subTest(walks=walks, some=some):
                    with self.assertRaises(BadTrains) as told:
                        added(list(some), list(walks))
                    self.assertEqual(told.exception.at, at)

    def test_more_than_60_stones_go_ahead_of_the_creel(self):
        for some in ([(61, 0)], [(60, 0), (1, 0)], [(1, 0)] * 61, [(FAR, 1)]):
            for walks in ([], [(2, 3)]) + WRONG_WALKS:
                with self.subTest(walks=walks, some=some), self.assertRaises(TooMany):
                    added(list(some), list(walks))
        self.assertEqual(added([(1, 0)] * 60, [(2, 3)]), [(1, 3)] * 60)

    def test_the_row_goes_ahead_of_the_creel(self):
        for walks in ([], [(2, 3)]) + WRONG_WALKS:
            with self.assertRaises(TooMany):
                far([5] * 61, list(walks))
            with self.assertRaises(BadRow) as told:
                far([1, 4, 4, 0], list(walks))
            self.assertEqual(told.exception.at, 2)


class NothingChangedOrKept(SoonCase):
    def test_lists_that_are_handed_in_stay_as_they_were(self):
        for walks in many_walks(12, END):
            for some in small_lists()[::40] + many_lists(30):
                kept = (list(some), list(walks))
                added(some, walks)
                self.assertEqual((some, walks), kept)
                row = row_of(some)
                kept = (list(row), list(walks))
                far(row, walks)
                self.assertEqual((row, walks), kept)

    def test_what_is_refused_stays_as_it_was(self):
        for walks in [list(walks) for walks in WRONG_WALKS]:
            some, row, kept = [(2, 4), (1, -3)], [1, 2, 5], list(walks)
            for call, thing in ((added, some), (far, row)):
                right = call(thing, [(2, 7)])
                with self.assertRaises(BadCreel):
                    call(thing, walks)
                self.assertEqual(walks, kept)
                self.assertEqual(call(thing, [(2, 7)]), right)
            self.assertEqual((some, row), ([(2, 4), (1, -3)], [1, 2, 5]))

    def test_lists_that_are_changed_behind_a_call_change_nothing(self):
        for call, thing in ((added, [(2, 4), (1, -3)]), (far, [1, 2, 5])):
            kept, walks = list(thing), [(2, 3), (1, -1)]
            told = call(thing, walks)
            right = list(told)
            walks.clear()
            thing.reverse()
            thing.pop()
            self.assertEqual(told, right)
            self.assertEqual(call(kept, [(2, 3), (1, -1)]), right)

    def test_a_told_list_is_changed_and_the_same_is_told_again(self):
        for call, thing in ((added, []), (added, [(2, 4), (1, -3)]), (far, []), (far, [1, 2, 5])):
            for walks in ([], [(2, 0)], [(2, 3), (1, -1)]):
                told = call(thing, walks)
                self.assertIsNot(told, thing)
                self.assertIsNot(told, walks)
                right = list(told)
                told.append((9, 9))
                told.reverse()
                self.assertEqual(call(thing, walks), right)


class Kinds(unittest.TestCase):
    def test_a_list_of_pairs_of_whole_numbers(self):
        for some in ([], [(1, 4)], [(2, 4), (1, -3)]):
            for walks in ([], [(2, 3)]):
                told = added(some, walks)
                self.assertIs(type(told), list)
                for pair in told:
                    self.assertIs(type(pair), tuple)
                    self.assertEqual([type(thing) for thing in pair], [int, int])


if __name__ == "__main__":
    unittest.main()
