"""Promises [6] and [7]: walks there and back, what is carried and held, and how walks go together."""

import unittest

from creelway.carriers import carried, holding, walked, walked_back
from creelway.rows import closings, mirrored, moved
from tests.plain import (
    FAR, SoonCase, creels_for, far_parts, far_shifts, joined, many_rows, plain_walk, plain_walk_back, small_rows,
)


class WrittenOut(unittest.TestCase):
    def test_without_stones(self):
        for creel in (1, 2, 10 ** 50):
            self.assertEqual(walked([], creel), [])
            self.assertEqual(walked_back([], creel), [])
            self.assertEqual(carried([], creel), 0)
            for place in (-10 ** 50, -1, 0, 1, 10 ** 50):
                self.assertEqual(holding([], creel, place), 0)

    def test_one_stone(self):
        for creel in (1, 2, 10 ** 50):
            for place in (-FAR, -1, 0, 5, FAR):
                self.assertEqual(walked([place], creel), [place + 1])
                self.assertEqual(walked_back([place], creel), [place - 1])
                self.assertEqual(carried([place], creel), 1)

    def test_one_stretch(self):
        self.assertEqual(walked([0, 1, 2], 1), [1, 2, 3])
        self.assertEqual(walked([0, 1, 2], 2), [2, 3, 4])
        self.assertEqual(walked([0, 1, 2], 3), [3, 4, 5])
        self.assertEqual(walked_back([0, 1, 2], 2), [-2, -1, 0])
        self.assertEqual([carried([0, 1, 2], creel) for creel in (1, 2, 3, 4)], [1, 2, 3, 3])
        self.assertEqual([holding([0, 1, 2], 2, place) for place in range(-1, 6)], [0, 1, 2, 2, 1, 0, 0])

    def test_several_stretches(self):
        row = [-4, -3, -2, 0, 1, 4]
        self.assertEqual(walked(row, 2), [-2, -1, 1, 2, 3, 5])
        self.assertEqual(walked(row, 6), [-1, 2, 3, 5, 6, 7])
        self.assertEqual(walked_back(row, 2), [-6, -5, -4, -3, -1, 3])
        self.assertEqual(carried(row, 2), 4)
        self.assertEqual([holding(row, 3, place) for place in range(-5, 8)], [0, 1, 2, 3, 2, 3, 3, 2, 1, 2, 1, 0, 0])


class AgainstPlainWalks(SoonCase):
    def test_walks_there_and_what_is_carried(self):
        for row in small_rows() + many_rows(250):
            for creel in creels_for(row):
                behind, count, holds = plain_walk(row, creel)
                self.assertEqual(walked(row, creel), behind)
                self.assertEqual(carried(row, creel), count)

    def test_walks_back(self):
        for row in small_rows() + many_rows(250):
            for creel in creels_for(row):
                self.assertEqual(walked_back(row, creel), plain_walk_back(row, creel))

    def test_creels_from_1_to_70(self):
        for row in [row for row in many_rows(60) if len(row) >= 59]:
            for creel in range(1, 71):
                self.assertEqual(walked(row, creel), plain_walk(row, creel)[0])
                self.assertEqual(walked_back(row, creel), plain_walk_back(row, creel))
                self.assertEqual(carried(row, creel), plain_walk(row, creel)[1])

    def test_what_is_held_behind_each_niche(self):
        for row in small_rows()[::5] + many_rows(25):
            for creel in (1, 2, 3, 5, 9, max(1, len(row) - 1), len(row) + 1, 10 ** 50):
                for place, held in plain_walk(row, creel)[2].items():
                    self.assertEqual(holding(row, creel, place), held)

    def test_nothing_is_held_ahead_of_the_stones_and_behind_the_emptying(self):
        for row in small_rows()[1:] + many_rows(50):
            for creel in creels_for(row):
                ahead = [row[0] - more for more in (1, 2, 100, FAR, 10 ** 50)]
                beyond = [row[-1] + len(row) + more for more in (0, 1, 100, FAR, 10 ** 50)]
                for place in ahead + beyond:
                    self.assertEqual(holding(row, creel, place), 0)


class FarApart(SoonCase):
    def test_written_out(self):
        row = [-FAR, 1 - FAR, 0, FAR, FAR + 1, FAR + 2]
        self.assertEqual(walked(row, 2), [2 - FAR, 3 - FAR, 1, FAR + 2, FAR + 3, FAR + 4])
        self.assertEqual(walked_back(row, 2), [-2 - FAR, -1 - FAR, -1, FAR - 2, FAR - 1, FAR])
        self.assertEqual(carried(row, 2), 5)
        self.assertEqual(holding(row, 2, 1 - FAR), 2)
        self.assertEqual(holding(row, 2, FAR // 2), 0)
        self.assertEqual(holding(row, 2, FAR + 2), 2)

    def test_part_by_part(self):
        for parts in far_parts():
            shifts = far_shifts(parts)
            row = joined(parts, shifts)
            for creel in (1, 2, 3, 7, len(row), 10 ** 50):
                walks = [plain_walk(part, creel) for part in parts]
                self.assertEqual(walked(row, creel), joined([walk[0] for walk in walks], shifts))
                self.assertEqual(carried(row, creel), sum(walk[1] for walk in walks))
                backs = [plain_walk_back(part, creel) for part in parts]
                self.assertEqual(walked_back(row, creel), joined(backs, shifts))

    def test_held_part_by_part(self):
        for parts in far_parts()[:12]:
            shifts = far_shifts(parts)
            row = joined(parts, shifts)
            for creel in (1, 3, 10 ** 50):
                for part, by in zip(parts, shifts):
                    for place, held in plain_walk(part, creel)[2].items():
                        self.assertEqual(holding(row, creel, place + by), held)
                    self.assertEqual(holding(row, creel, by + FAR // 2), 0)

    def test_places_of_sixty_figures(self):
        end = 10 ** 60 - 1
        self.assertEqual(walked([-end, end - 1, end], 2), [1 - end, end + 1, end + 2])
        self.assertEqual(walked_back([-end, 1 - end, end], end), [-end - 2, -end - 1, end - 1])
        self.assertEqual(carried([-end, end - 1, end], 1), 2)
        self.assertEqual(holding([-end, end - 1, end], end, end), 2)


class WalksTogether(SoonCase):
    def rows(self):
        return small_rows()[::3] + many_rows(80) + [joined(parts, far_shifts(parts)) for parts in far_parts()[:20]]

    def test_each_undoes_the_other(self):
        for row in self.rows():
            for creel in creels_for(row):
                self.assertEqual(walked_back(walked(row, creel), creel), row)
                self.assertEqual(walked(walked_back(row, creel), creel), row)

    def test_two_walks_in_either_order(self):
        walks = [(way, creel) for way in (walked, walked_back) for creel in (1, 2, 3, 5, 8, 21, 60, 10 ** 50)]
        for row in self.rows()[::2]:
            for way, creel in walks:
                for other, size in walks:
                    self.assertEqual(other(way(row, creel), size), way(other(row, size), creel))

    def test_a_creel_of_1_moves_the_row_by_1(self):
        for row in self.rows():
            self.assertEqual(walked(row, 1), moved(row, 1))
            self.assertEqual(walked_back(row, 1), moved(row, -1))

    def test_a_creel_that_holds_all_brings_each_stone_to_its_closing_niche(self):
        for row in self.rows():
            niches = sorted(niche for place, niche in closings(row))
            for creel in (max(1, len(row)), len(row) + 1, 60, 61, 10 ** 50):
                self.assertEqual(walked(row, creel), niches)
                self.assertEqual(carried(row, creel), len(row))

    def test_a_greater_creel_than_the_stones_are_many_does_the_same(self):
        for row in self.rows():
            creel = max(1, len(row))
            for greater in (creel + 1, 60 + creel, 10 ** 50):
                self.assertEqual(walked_back(row, greater), walked_back(row, creel))
                for place in row:
                    self.assertEqual(holding(row, greater, place), holding(row, creel, place))

    def test_a_walk_back_is_a_walk_there_in_the_mirror(self):
        for row in self.rows():
            for creel in (1, 2, 4, 60):
                self.assertEqual(walked_back(row, creel), mirrored(walked(mirrored(row), creel)))


if __name__ == "__main__":
    unittest.main()
