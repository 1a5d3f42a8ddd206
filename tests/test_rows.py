"""Promises [4] and [5]: stretches, mirroring, moving and closing niches."""

import unittest

from creelway.rows import closings, mirrored, moved, stretches
from tests.plain import FAR, SoonCase, far_parts, far_shifts, joined, many_rows, plain_closing, small_rows


def plain_stretches(row):
    """Each stone with no stone ahead of it, with the nearest stone from it on with none behind it."""
    firsts = [place for place in row if place - 1 not in row]
    lasts = [place for place in row if place + 1 not in row]
    return list(zip(firsts, lasts))


class Stretches(SoonCase):
    def test_written_out(self):
        self.assertEqual(stretches([]), [])
        self.assertEqual(stretches([7]), [(7, 7)])
        self.assertEqual(stretches([-1, 0, 1]), [(-1, 1)])
        self.assertEqual(stretches([-5, -3, -2, 0, 4, 5, 6]), [(-5, -5), (-3, -2), (0, 0), (4, 6)])
        self.assertEqual(stretches(list(range(60))), [(0, 59)])
        self.assertEqual(stretches([0, 2]), [(0, 0), (2, 2)])

    def test_many_rows(self):
        for row in small_rows() + many_rows(300):
            self.assertEqual(stretches(row), plain_stretches(row))

    def test_far_apart(self):
        self.assertEqual(stretches([-FAR, -FAR + 1, 3, FAR]), [(-FAR, -FAR + 1), (3, 3), (FAR, FAR)])
        for parts in far_parts():
            row = joined(parts, far_shifts(parts))
            self.assertEqual(stretches(row), plain_stretches(row))


class MirroredAndMoved(SoonCase):
    def test_mirrored_written_out(self):
        self.assertEqual(mirrored([]), [])
        self.assertEqual(mirrored([0]), [0])
        self.assertEqual(mirrored([7]), [-7])
        self.assertEqual(mirrored([-5, -3, 0, 4]), [-4, 0, 3, 5])
        self.assertEqual(mirrored([1, FAR]), [-FAR, -1])

    def test_mirrored_twice_is_the_row(self):
        for row in small_rows() + many_rows(100) + [[-FAR, -1, 3, FAR]]:
            self.assertEqual(mirrored(row), sorted(-place for place in row))
            self.assertEqual(mirrored(mirrored(row)), row)

    def test_moved_written_out(self):
        self.assertEqual(moved([], 5), [])
        self.assertEqual(moved([3], -5), [-2])
        self.assertEqual(moved([-1, 0, 4], 0), [-1, 0, 4])
        self.assertEqual(moved([-1, 0, 4], 2), [1, 2, 6])
        self.assertEqual(moved([-FAR, FAR], FAR), [0, 2 * FAR])

    def test_moved_by_numbers_of_any_sign(self):
        for by in (0, 1, -1, 2, -2, 59, -60, FAR, -FAR, 10 ** 50, -10 ** 50, 10 ** 60 - 1, 1 - 10 ** 60):
            for row in small_rows() + many_rows(20) + [[-FAR, -1, 3, FAR]]:
                self.assertEqual(moved(row, by), [place + by for place in row])
                self.assertEqual(moved(moved(row, by), -by), row)


class Closings(SoonCase):
    def test_written_out(self):
        self.assertEqual(closings([]), [])
        self.assertEqual(closings([7]), [(7, 8)])
        self.assertEqual(closings([-1]), [(-1, 0)])
        self.assertEqual(closings([0, 1, 2]), [(0, 5), (1, 4), (2, 3)])
        self.assertEqual(closings([0, 2]), [(0, 1), (2, 3)])
        self.assertEqual(closings([0, 1, 3]), [(0, 5), (1, 2), (3, 4)])
        self.assertEqual(closings([-3, -2, 0, 5]), [(-3, 2), (-2, -1), (0, 1), (5, 6)])

    def test_counted_niche_by_niche(self):
        for row in small_rows() + many_rows(300):
            self.assertEqual(closings(row), [(place, plain_closing(row, place)) for place in row])

    def test_no_niche_twice_and_each_an_empty_one_behind_its_stone(self):
        for row in small_rows() + many_rows(300):
            told = closings(row)
            niches = [niche for place, niche in told]
            self.assertEqual(len(set(niches)), len(row))
            self.assertFalse(set(niches) & set(row))
            self.assertTrue(all(niche > place for place, niche in told))

    def test_far_apart(self):
        self.assertEqual(closings([-FAR, 0, 1, FAR]), [(-FAR, 1 - FAR), (0, 3), (1, 2), (FAR, FAR + 1)])
        for parts in far_parts():
            shifts = far_shifts(parts)
            want = [
                (place + by, plain_closing(part, place) + by) for part, by in zip(parts, shifts) for place in part
            ]
            self.assertEqual(closings(joined(parts, shifts)), want)


if __name__ == "__main__":
    unittest.main()
