"""Promises [17] and [18]: rows that are kin and not, walks tidied, and walks told apart."""

import itertools
import random
import unittest

from creelway.errors import BadCreel, BadNumber, BadRow, TooMany
from creelway.far import far
from creelway.kin import kin, parting, tidied
from creelway.trains import row_of
from tests.plain import (
    END, FAR, WRONG_WALKS, SoonCase, far_parts, far_shifts, is_equally_far, joined, long_rows, many_lists, many_rows,
    many_walks, offsets_of, plain_added, plain_behind, plain_kin, plain_trains, plain_walk, plain_walk_back, sixty,
    sizes_of, small_rows, wrong_rows,
)

WRONG_STONES = (0, -1, -60, -END, 61, 62, FAR, END)


def rows_near(row, steps):
    """All rows that up to so many walks, each niche by niche, lead to."""
    found, last = {tuple(row)}, {tuple(row)}
    for step in range(steps):
        there = {tuple(plain_walk(some, creel)[0]) for some in last for creel in range(1, len(row) + 1)}
        back = {tuple(plain_walk_back(some, creel)) for some in last for creel in range(1, len(row) + 1)}
        last = (there | back) - found
        found |= last
    return [list(some) for some in sorted(found)]


def can_be_walked(row, walks):
    """Whether the walks are few and the row short enough to go through them niche by niche."""
    return sum(abs(count) for creel, count in walks) < 40 and max(row, default=0) - min(row, default=0) < 1000


def plain_tidied(walks, stones):
    """The walks tidied: for each creel in turn its counts are looked for."""
    pairs = []
    for creel in range(1, stones + 1):
        count = 0
        for other, many in walks:
            if other == creel or creel == stones and other > creel:
                count += many
        if count:
            pairs.append((creel, count))
    return pairs


def unkin_pairs():
    """Pairs of rows that are no kin, by sizes or by offsets, with trains near and far."""
    pairs = [([], [0]), ([0], []), ([0, 1], [0, 2]), ([0, 2], [0, 3]), ([0, 2], [0, FAR]), ([], sixty())]
    pairs += [([0, 1, 2], [0, 1, 5]), (list(range(60)), sixty()), ([0, 1, 9], [0, 1, 9, 20])]
    for some in many_lists(60):
        if len(some) > 1:
            (size, offset), rest = some[0], some[1:]
            pairs.append((row_of(some), row_of(rest)))
            pairs.append((row_of(some), row_of(rest + [(size, offset + 1)])))
            pairs.append((row_of(some), row_of(rest + [(size, offset - FAR)])))
            if size > 1:
                pairs.append((row_of(some), row_of(rest + [(size - 1, offset), (1, offset)])))
    return pairs


class Kin(SoonCase):
    def hold_walks(self, one, other, told):
        """What is told are walks of the form asked for, which lead from the one to the other."""
        self.assertEqual(told[0], "walks", (one, other))
        walks = told[1]
        creels = [creel for creel, count in walks]
        self.assertEqual(len(creels), len(set(creels)))
        for creel, count in walks:
            self.assertIn(creel, range(1, max(sizes_of(one)) + 1))
            self.assertNotEqual(count, 0)
        self.assertEqual(plain_added(plain_trains(one), walks), plain_trains(other))
        if can_be_walked(one, walks):
            self.assertEqual(plain_behind(one, walks), other)

    def hold_size(self, one, other, told):
        """What is told is a size by which the two are no kin."""
        word, size = told
        if word == "sizes":
            self.assertNotEqual(len(offsets_of(one, size)), len(offsets_of(other, size)))
        else:
            self.assertEqual(word, "apart")
            self.assertEqual(sizes_of(one), sizes_of(other))
            self.assertFalse(is_equally_far(offsets_of(one, size), offsets_of(other, size)))

    def hold(self, one, other):
        told = kin(one, other)
        if plain_kin(one, other):
            self.hold_walks(one, other, told)
        else:
            self.hold_size(one, other, told)

    def test_written_out(self):
        self.assertEqual(kin(one=[], other=[]), ("walks", []))
        self.assertEqual(kin([3], [3]), ("walks", []))
        self.assertEqual(kin([3], [-4]), ("walks", [(1, -7)]))
        self.assertEqual(kin([0, 2], [5, 7]), ("walks", [(1, 5)]))
        self.assertEqual(kin([0, 2], [FAR, FAR + 2]), ("walks", [(1, FAR)]))
        self.assertEqual(kin([0, 2], [5, 8]), ("apart", 1))
        self.assertEqual(kin([0, 1, 10, 11], [0, 1, 12, 13]), ("apart", 2))
        self.assertEqual(kin([], [4]), ("sizes", 1))
        self.assertEqual(kin([4, 5], []), ("sizes", 2))

    def test_small_rows_with_one_another(self):
        rows = [row for row in small_rows() if set(row) <= set(range(-4, 2))]
        self.assertEqual(len(rows), 64)
        kinds = set()
        for one in rows:
            for other in rows:
                self.hold(one, other)
                kinds.add(kin(one, other)[0])
        self.assertEqual(kinds, {"walks", "sizes", "apart"})

    def test_every_row_that_walks_lead_to_is_kin(self):
        for row in ([0], [0, 1], [0, 2], [0, 1, 3], [0, 1, 2], [0, 2, 3, 8], [0, 1, 3, 4], [0, 1, 2, 5, 6]):
            near = rows_near(row, 3)
            self.assertGreater(len(near), 5)
            for other in near:
                self.hold_walks(row, other, kin(row, other))
                self.hold_walks(other, row, kin(other, row))

    def test_behind_walks_niche_by_niche(self):
        for row in [row for row in small_rows()[::9] + many_rows(20) if row]:
            for walks in many_walks(8, 4):
                other = plain_behind(row, walks)
                self.hold_walks(row, other, kin(row, other))

    def test_behind_walks_of_great_counts(self):
        rows = [joined(parts, far_shifts(parts)) for parts in far_parts()[:20]]
        for row in rows + [row_of(some) for some in many_lists(30)]:
            for walks in many_walks(8, FAR) + many_walks(8, END):
                other = far(row, walks)
                self.hold_walks(row, other, kin(row, other))

    def test_what_is_no_kin(self):
        words = []
        for one, other in unkin_pairs():
            if not plain_kin(one, other):
                for first, second in ((one, other), (other, one)):
                    told = kin(first, second)
                    self.hold_size(first, second, told)
                    words.append(told[0])
        self.assertGreater(words.count("sizes"), 50)
        self.assertGreater(words.count("apart"), 50)

    def test_pairs_of_any_rows(self):
        for one, other in unkin_pairs():
            self.hold(one, other)
            self.hold(one, one)

    def test_alike_trains_lie_equally_far(self):
        one, other = row_of([(2, 0), (2, 0), (2, 4)]), row_of([(2, 7), (2, 7), (2, 11)])
        self.hold_walks(one, other, kin(one, other))
        apart = row_of([(2, 7), (2, 8), (2, 11)])
        self.assertEqual(kin(one, apart), ("apart", 2))

    def test_sizes_go_ahead_of_offsets(self):
        one, other = row_of([(1, 0), (1, 5), (3, 0)]), row_of([(1, 0), (1, 6), (4, 0)])
        word, size = kin(one, other)
        self.assertEqual(word, "sizes")
        self.assertIn(size, (3, 4))


class KinRefusals(SoonCase):
    def test_the_rows_refusals_the_first_one_whole_ahead(self):
        for wrong, at in wrong_rows():
            for one, other in ((wrong, [1]), ([1], wrong), (wrong, [2, 2]), (wrong, [7] * 61), ([], wrong)):
                with self.assertRaises(BadRow) as told:
                    kin(list(one), list(other))
                self.assertEqual(told.exception.at, at)
        for wrong in long_rows():
            for one, other in ((wrong, [1]), ([1], wrong), (wrong, [2, 2]), ([], wrong)):
                with self.assertRaises(TooMany):
                    kin(list(one), list(other))

    def test_of_two_wrong_rows_the_first_one_is_told(self):
        for one, other, at in (([1, 2, 2], [1, 1], 2), ([1, 1], [1, 2, 2], 1)):
            with self.assertRaises(BadRow) as told:
                kin(one, other)
            self.assertEqual(told.exception.at, at)

    def test_nothing_is_changed_or_kept(self):
        for one, other in [([0, 1, 3], [7, 8, 10]), ([0, 2], [0, 9]), ([], [3]), ([2, 2], [1]), ([1], [1, 0])]:
            kept = (list(one), list(other))
            try:
                kin(one, other)
            except BadRow:
                pass
            self.assertEqual((one, other), kept)
        one, other = [0, 1, 3], [2, 7, 8]
        told = kin(one, other)
        right = (told[0], list(told[1]))
        told[1].append((9, 9))
        told[1].reverse()
        self.assertEqual(kin(one, other), right)
        again = kin(one, other)
        one.clear()
        other[0] = 1
        self.assertEqual(again, right)
        self.assertEqual(kin([0, 1, 3], [2, 7, 8]), right)

    def test_kinds(self):
        for one, other in (([0, 1, 3], [2, 7, 8]), ([], []), ([0, 2], [0, 9]), ([0], [])):
            told = kin(one, other)
            self.assertIs(type(told), tuple)
            self.assertEqual(len(told), 2)
            if told[0] == "walks":
                self.assertIs(type(told[1]), list)
                for pair in told[1]:
                    self.assertIs(type(pair), tuple)
                    self.assertEqual([type(thing) for thing in pair], [int, int])
            else:
                self.assertIs(type(told[1]), int)


class Tidied(SoonCase):
    def test_written_out(self):
        self.assertEqual(tidied(walks=[], stones=1), [])
        self.assertEqual(tidied([(3, 2), (1, 5)], 60), [(1, 5), (3, 2)])
        self.assertEqual(tidied([(3, 2), (1, 5), (3, -7)], 3), [(1, 5), (3, -5)])
        self.assertEqual(tidied([(3, 2), (1, 5), (3, -2)], 3), [(1, 5)])
        self.assertEqual(tidied([(3, 2), (2, 5), (9, -2)], 3), [(2, 5)])
        self.assertEqual(tidied([(3, 2), (2, 5), (9, -2)], 2), [(2, 5)])
        self.assertEqual(tidied([(3, 2), (2, 5), (9, -2)], 1), [(1, 5)])
        self.assertEqual(tidied([(3, 2), (2, 5), (9, -2)], 60), [(2, 5), (3, 2), (9, -2)])
        self.assertEqual(tidied([(60, 1), (61, 1), (END, 1), (59, 1)], 60), [(59, 1), (60, 3)])
        self.assertEqual(tidied([(2, 0), (4, 0)], 5), [])
        self.assertEqual(tidied([(2, END), (2, END), (9, -END)], 2), [(2, END)])

    def test_creel_by_creel(self):
        for walks in many_walks(150, 3) + many_walks(50, END):
            for stones in (1, 2, 3, 4, 5, 12, 13, 58, 59, 60):
                self.assertEqual(tidied(walks, stones), plain_tidied(walks, stones))

    def test_two_hundred_walks(self):
        source = random.Random(9)
        walks = [(source.randint(1, 70), source.randint(-END, END)) for walk in range(200)]
        for stones in range(1, 61):
            self.assertEqual(tidied(walks, stones), plain_tidied(walks, stones))
        self.assertEqual(tidied([(7, END)] * 200, 60), [(7, 200 * END)])
        self.assertEqual(tidied([(7, END), (7, -END)] * 100, 60), [])

    def test_tidied_walks_do_the_same(self):
        for row in [row for row in small_rows()[::7] + many_rows(10) if row]:
            for walks in many_walks(10, 3):
                behind = plain_behind(row, walks)
                for stones in {len(row), min(60, len(row) + 1), 60}:
                    self.assertEqual(plain_behind(row, tidied(walks, stones)), behind)

    def test_tidied_again_they_stay(self):
        for walks in many_walks(100, END):
            for stones in (1, 2, 5, 60):
                told = tidied(walks, stones)
                self.assertEqual(tidied(told, stones), told)
                self.assertEqual(tidied(walks[::-1], stones), told)


class Parting(SoonCase):
    def hold(self, one, other, stones):
        told = parting(one, other, stones)
        if plain_tidied(one, stones) == plain_tidied(other, stones):
            self.assertIsNone(told)
            return
        self.assertIs(type(told), list)
        self.assertIn(len(told), range(1, stones + 1))
        self.assertEqual(told, list(range(told[0], told[0] + len(told))))
        ends = [plain_added(plain_trains(told), walks) for walks in (one, other)]
        self.assertNotEqual(ends[0], ends[1])
        if can_be_walked(told, one + other):
            self.assertNotEqual(plain_behind(told, one), plain_behind(told, other))

    def test_written_out(self):
        self.assertIsNone(parting(one=[], other=[], stones=1))
        self.assertIsNone(parting([(3, 1)], [(4, 1)], 3))
        self.assertIsNone(parting([(3, 1), (2, -1)], [(4, 1), (2, 1), (2, -2)], 3))
        self.assertIsNone(parting([(2, 0)], [], 60))
        self.assertEqual(len(parting([(3, 1)], [(4, 1)], 4)), 4)
        self.assertEqual(len(parting([(59, 1)], [(60, 1)], 60)), 60)
        self.assertIsNone(parting([(59, 1)], [(60, 1)], 59))
        self.assertIsNone(parting([(60, END)], [(61, END)], 60))

    def test_pairs_of_lists(self):
        for greatest in (1, 3, END):
            lists = many_walks(40, greatest)
            for one in lists:
                for other in lists[::3]:
                    for stones in (1, 2, 5, 59, 60):
                        self.hold(one, other, stones)

    def test_walks_that_do_the_same_to_one_of_the_stretches_alone(self):
        for stones in (2, 3, 10, 60):
            for length in range(1, stones + 1):
                one, other = [(length, 1)], [(1, length)]
                self.hold(one, other, stones)
                self.hold([(length, END)], [(1, END * length)], stones)

    def test_none_just_where_all_rows_are_led_to_the_same(self):
        lists = [list(walks) for walks in itertools.product([(1, 1), (2, 1), (3, -1), (4, 1), (2, -1)], repeat=2)]
        for stones in (1, 2, 3):
            rows = [row for row in small_rows()[::3] if len(row) <= stones]
            ends = [[plain_behind(row, walks) for row in rows] for walks in lists]
            for one, first in zip(lists, ends):
                for other, second in zip(lists, ends):
                    if parting(one, other, stones) is None:
                        self.assertEqual(first, second)

    def test_two_hundred_walks(self):
        source = random.Random(10)
        walks = [(source.randint(1, 70), source.randint(-END, END)) for walk in range(200)]
        other = walks[:199] + [(walks[199][0], walks[199][1] + 1)]
        for stones in (1, 2, 30, 60):
            self.hold(walks, walks[::-1], stones)
            self.hold(walks, other, stones)


class WalksRefusals(SoonCase):
    def test_numbers_of_stones(self):
        for stones in WRONG_STONES:
            for walks in ([], [(2, 3)]) + WRONG_WALKS:
                with self.subTest(stones=stones, walks=walks):
                    with self.assertRaises(BadNumber):
                        tidied(list(walks), stones)
                    for one, other in ((walks, []), ([], walks), (walks, walks)):
                        with self.assertRaises(BadNumber):
                            parting(list(one), list(other), stones)
        for stones in (1, 2, 59, 60):
            self.assertEqual(tidied([(1, 1)], stones), [(1, 1)])
            self.assertIsNone(parting([(1, 1)], [(1, 1)], stones))

    def test_creels_below_1(self):
        for walks in WRONG_WALKS:
            for stones in (1, 2, 60):
                with self.subTest(walks=walks, stones=stones):
                    with self.assertRaises(BadCreel):
                        tidied(list(walks), stones)
                    for one, other in ((walks, []), ([], walks), (walks, walks), ([(1, 5)], walks)):
                        with self.assertRaises(BadCreel):
                            parting(list(one), list(other), stones)

    def test_nothing_is_changed_or_kept(self):
        for walks in many_walks(20, 5) + [list(walks) for walks in WRONG_WALKS]:
            for stones in (0, 1, 3, 60, 61):
                other, kept = [(2, 1), (1, 0)], list(walks)
                for call in (lambda: tidied(walks, stones), lambda: parting(walks, other, stones)):
                    try:
                        call()
                    except (BadNumber, BadCreel):
                        pass
                    self.assertEqual(walks, kept)
                    self.assertEqual(other, [(2, 1), (1, 0)])

    def test_told_lists_are_changed_and_the_same_is_told_again(self):
        walks, other = [(1, 2), (5, -3)], [(1, 2)]
        for call in (lambda: tidied(walks, 7), lambda: parting(walks, other, 7)):
            told = call()
            right = list(told)
            self.assertIsNot(told, walks)
            told.append((9, 9))
            told.reverse()
            self.assertEqual(call(), right)
            self.assertEqual((walks, other), ([(1, 2), (5, -3)], [(1, 2)]))

    def test_lists_that_are_changed_behind_a_call_change_nothing(self):
        walks, other = [(1, 2), (5, -3)], [(1, 2)]
        told = (tidied(walks, 7), parting(walks, other, 7))
        right = [list(some) for some in told]
        walks.clear()
        other.append((3, 3))
        self.assertEqual(list(told), right)
        self.assertEqual([tidied([(1, 2), (5, -3)], 7), parting([(1, 2), (5, -3)], [(1, 2)], 7)], right)

    def test_kinds(self):
        told = tidied([(2, 3), (1, 4)], 5)
        self.assertIs(type(told), list)
        self.assertEqual([type(pair) for pair in told], [tuple, tuple])
        self.assertEqual({type(thing) for pair in told + [tuple(parting([], told, 5))] for thing in pair}, {int})


if __name__ == "__main__":
    unittest.main()
