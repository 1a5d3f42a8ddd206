"""Promises [9], [10] and [11]: peeled rows and rounds, the sizes of the trains, and heads and tails."""

import unittest

from creelway.carriers import carried, walked, walked_back
from creelway.peels import heads, peeled, rounds, sizes_by_loads, sizes_by_rounds
from creelway.rows import mirrored, moved, stretches
from tests.plain import (
    FAR, SoonCase, creels_for, far_parts, far_shifts, joined, many_rows, plain_heads, plain_peel, plain_rounds,
    plain_sizes, plain_walk, small_rows,
)


def far_rows():
    return [joined(parts, far_shifts(parts)) for parts in far_parts()]


class Peeling(SoonCase):
    def test_written_out(self):
        self.assertEqual(peeled([]), [])
        self.assertEqual(peeled([7]), [])
        self.assertEqual(peeled([-1, 0, 1]), [-1, 0])
        self.assertEqual(peeled([0, 2, 4]), [])
        self.assertEqual(peeled([0, 1, 3, 4]), [0, 1])
        self.assertEqual(peeled([0, 1, 4, 5]), [0, 2])
        self.assertEqual(peeled([-5, -3, -2, 0, 4, 5, 6]), [-5, -2, -1])
        self.assertEqual(peeled(list(range(60))), list(range(59)))
        self.assertEqual(peeled([-FAR, 1 - FAR, 0, FAR, FAR + 1]), [-FAR, FAR - 4])

    def test_rounds_written_out(self):
        self.assertEqual(rounds([]), [])
        self.assertEqual(rounds([7]), [1])
        self.assertEqual(rounds([-1, 0, 1]), [1, 1, 1])
        self.assertEqual(rounds([0, 2, 4]), [3])
        self.assertEqual(rounds([0, 1, 3, 4]), [2, 1, 1])
        self.assertEqual(rounds([0, 1, 4, 5]), [2, 2])
        self.assertEqual(rounds([-5, -3, -2, 0, 4, 5, 6]), [4, 2, 1])
        self.assertEqual(rounds(list(range(60))), [1] * 60)
        self.assertEqual(rounds(list(range(0, 120, 2))), [60])
        self.assertEqual(rounds([-FAR, 0, 1, FAR]), [3, 1])

    def test_niche_by_niche(self):
        for row in small_rows() + many_rows(300):
            self.assertEqual(peeled(row), plain_peel(row))
            self.assertEqual(rounds(row), plain_rounds(row))

    def test_each_stone_that_stays_is_less_by_twice_the_stretches_ahead(self):
        for row in small_rows() + many_rows(100) + far_rows():
            lasts = [last for first, last in stretches(row)]
            want = [place - 2 * sum(last < place for last in lasts) for place in row if place not in lasts]
            self.assertEqual(peeled(row), want)

    def test_rounds_of_far_parts_are_summed_up(self):
        for parts in far_parts():
            counts = [plain_rounds(part) + [0] * 60 for part in parts]
            want = [sum(several) for several in zip(*counts)]
            self.assertEqual(rounds(joined(parts, far_shifts(parts))), [many for many in want if many])


class Sizes(SoonCase):
    def test_written_out(self):
        for tell in (sizes_by_rounds, sizes_by_loads):
            self.assertEqual(tell([]), [])
            self.assertEqual(tell([7]), [1])
            self.assertEqual(tell([-1, 0, 1]), [3])
            self.assertEqual(tell([0, 2, 4]), [1, 1, 1])
            self.assertEqual(tell([0, 1, 3, 4]), [1, 3])
            self.assertEqual(tell([0, 1, 4, 5]), [2, 2])
            self.assertEqual(tell([-5, -3, -2, 0, 4, 5, 6]), [1, 1, 2, 3])
            self.assertEqual(tell(list(range(60))), [60])
            self.assertEqual(tell(list(range(0, 120, 2))), [1] * 60)
            self.assertEqual(tell([-FAR, 0, 1, FAR]), [1, 1, 2])

    def test_by_plain_peelings(self):
        for row in small_rows() + many_rows(200):
            want = plain_sizes(plain_rounds(row))
            self.assertEqual(sizes_by_rounds(row), want)
            self.assertEqual(sizes_by_loads(row), want)
            self.assertEqual(sum(want), len(row))

    def test_by_plain_walks(self):
        for row in small_rows() + many_rows(60):
            loads = [plain_walk(row, creel)[1] for creel in range(1, len(row) + 2)]
            want = plain_sizes([load - less for load, less in zip(loads, [0] + loads)])
            self.assertEqual(sizes_by_loads(row), want)
            self.assertEqual(sizes_by_rounds(row), want)

    def test_what_is_carried_is_the_sum_of_the_lesser_ones(self):
        for row in small_rows() + many_rows(60) + far_rows():
            sizes = sizes_by_rounds(row)
            for creel in creels_for(row):
                want = sum(min(creel, size) for size in sizes)
                self.assertEqual(carried(row, creel), want)
                self.assertEqual(carried(mirrored(row), creel), want)

    def test_both_are_told_alike_far_apart(self):
        for parts in far_parts():
            row = joined(parts, far_shifts(parts))
            want = sorted(sum([plain_sizes(plain_rounds(part)) for part in parts], []))
            self.assertEqual(sizes_by_rounds(row), want)
            self.assertEqual(sizes_by_loads(row), want)

    def test_no_walk_no_mirroring_and_no_moving_changes_them(self):
        for row in small_rows()[::3] + many_rows(60) + far_rows()[:20]:
            want = sizes_by_rounds(row)
            others = [mirrored(row), moved(row, 17), moved(row, -10 ** 50)]
            others += [way(row, creel) for way in (walked, walked_back) for creel in (1, 2, 3, 8, 60, 10 ** 50)]
            for other in others:
                self.assertEqual(sizes_by_rounds(other), want)
                self.assertEqual(sizes_by_loads(other), want)


class Heads(SoonCase):
    def test_written_out(self):
        self.assertEqual(heads([]), [])
        self.assertEqual(heads([7]), [((7,), (8,))])
        self.assertEqual(heads([-1, 0, 1]), [((-1, 0, 1), (2, 3, 4))])
        self.assertEqual(heads([0, 2]), [((0,), (1,)), ((2,), (3,))])
        self.assertEqual(heads([0, 1, 4]), [((4,), (5,)), ((0, 1), (2, 3))])
        self.assertEqual(heads(list(range(60))), [(tuple(range(60)), tuple(range(60, 120)))])

    def test_an_empty_run_ahead_of_a_longer_one_with_stones(self):
        self.assertEqual(heads([0, 1, 3, 4]), [((3,), (2,)), ((0, 1, 4), (5, 6, 7))])
        want = [((10,), (11,)), ((5, 6), (3, 4)), ((0, 1, 2, 7), (8, 9, 12, 13))]
        self.assertEqual(heads([0, 1, 2, 5, 6, 7, 10]), want)

    def test_niche_by_niche(self):
        for row in small_rows() + many_rows(150):
            self.assertEqual(heads(row), plain_heads(row))

    def test_far_apart(self):
        end = 10 ** 60 - 1
        self.assertEqual(heads([-end, end - 1, end]), [((-end,), (1 - end,)), ((end - 1, end), (end + 1, end + 2))])
        for parts in far_parts():
            shifts = far_shifts(parts)
            want = []
            for part, by in zip(parts, shifts):
                for pair in plain_heads(part):
                    want.append(tuple(tuple(niche + by for niche in niches) for niches in pair))
            want.sort(key=lambda pair: (len(pair[0]), pair))
            self.assertEqual(heads(joined(parts, shifts)), want)

    def test_as_many_of_each_size_and_each_stone_once(self):
        for row in small_rows() + many_rows(150) + far_rows():
            told = heads(row)
            self.assertEqual([len(full) for full, bare in told], sizes_by_rounds(row))
            self.assertEqual([len(bare) for full, bare in told], sizes_by_rounds(row))
            self.assertEqual(sorted(niche for full, bare in told for niche in full), row)
            tails = [niche for full, bare in told for niche in bare]
            self.assertEqual(len(set(tails)), len(row))
            self.assertFalse(set(tails) & set(row))

    def test_the_tails_become_heads_behind_a_creel_that_holds_all(self):
        for row in small_rows() + many_rows(150) + far_rows():
            behind = walked(row, 10 ** 50)
            tails = sorted(bare for full, bare in heads(row))
            self.assertEqual(sorted(full for full, bare in heads(behind)), tails)

    def test_the_order(self):
        for row in small_rows() + many_rows(100) + far_rows():
            told = [(len(pair[0]), pair) for pair in heads(row)]
            self.assertEqual(told, sorted(told))
            for size, pair in told:
                for niches in pair:
                    self.assertEqual(niches, tuple(sorted(niches)))


if __name__ == "__main__":
    unittest.main()
