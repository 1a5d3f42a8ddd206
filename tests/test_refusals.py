"""Promises [1], [2] and [3], and BadCreel of [6] and [8]: what functions that take a row refuse and leave as it was."""

import unittest

from creelway import carriers, far, kin, peels, rows, trains
from creelway.errors import BadCreel, BadRow, TooMany
from tests.plain import FAR, SoonCase, creels_for, long_rows, many_rows, sixty, small_rows, wrong_rows

BY_ROW = {
    "look_row": lambda row: rows.look_row(row=row),
    "stretches": lambda row: rows.stretches(row=row),
    "mirrored": lambda row: rows.mirrored(row=row),
    "moved": lambda row: rows.moved(row=row, by=3),
    "closings": lambda row: rows.closings(row=row),
    "peeled": lambda row: peels.peeled(row=row),
    "rounds": lambda row: peels.rounds(row=row),
    "sizes_by_rounds": lambda row: peels.sizes_by_rounds(row=row),
    "sizes_by_loads": lambda row: peels.sizes_by_loads(row=row),
    "heads": lambda row: peels.heads(row=row),
    "trains": lambda row: trains.trains(row=row),
    "far without walks": lambda row: far.far(row=row, walks=[]),
    "is_ranked": lambda row: far.is_ranked(row=row),
    "rank_count": lambda row: far.rank_count(row=row),
    "kin, the first": lambda row: kin.kin(one=row, other=[1, 2, 5]),
    "kin, the second": lambda row: kin.kin(one=[1, 2, 5], other=row),
}
BY_CREEL = {
    "walked": lambda row, creel: carriers.walked(row=row, creel=creel),
    "walked_back": lambda row, creel: carriers.walked_back(row=row, creel=creel),
    "carried": lambda row, creel: carriers.carried(row=row, creel=creel),
    "holding": lambda row, creel: carriers.holding(row=row, creel=creel, place=2),
    "far": lambda row, creel: far.far(row=row, walks=[(creel, 3)]),
}
LISTS_TOLD = (
    "stretches", "mirrored", "moved", "closings", "walked", "walked_back", "peeled", "rounds", "sizes_by_rounds",
    "sizes_by_loads", "heads", "trains", "far", "far without walks",
)
WRONG_CREELS = (0, -1, -2, -10 ** 40)


def with_creel(call, creel):
    return lambda row: call(row, creel)


def all_calls(creels=(1, 3, 10 ** 50)):
    """Every function that takes a row, as pairs of a name and a call with the row alone."""
    calls = list(BY_ROW.items())
    for name, call in BY_CREEL.items():
        calls += [(name, with_creel(call, creel)) for creel in creels]
    return calls


class RowRefusals(SoonCase):
    def test_rows_of_up_to_60_places_are_taken(self):
        for row in ([], [0], [-4], [10 ** 60 - 1], list(range(59)), list(range(60)), sixty(), [-FAR, 0, 1, FAR]):
            for name, call in all_calls():
                with self.subTest(name, row=row):
                    call(row)

    def test_looking_tells_none(self):
        for row in ([], [3], list(range(60)), sixty()):
            self.assertIsNone(rows.look_row(row))

    def test_more_than_60_places(self):
        for row in long_rows():
            for name, call in all_calls():
                with self.subTest(name, row=row), self.assertRaises(TooMany):
                    call(row)

    def test_the_first_wrong_place_is_told(self):
        for row, at in wrong_rows():
            for name, call in all_calls():
                with self.subTest(name, row=row):
                    with self.assertRaises(BadRow) as told:
                        call(row)
                    self.assertEqual(told.exception.at, at)


class CreelRefusals(SoonCase):
    def test_creels_below_1(self):
        for row in ([], [0], [1, 2, 5], sixty(), [-FAR, FAR]):
            for creel in WRONG_CREELS:
                for name, call in BY_CREEL.items():
                    with self.subTest(name, row=row, creel=creel), self.assertRaises(BadCreel):
                        call(row, creel)

    def test_creels_from_1_on_are_taken(self):
        for row in ([], [0], sixty()):
            for creel in (1, 2, 60, 61, 10 ** 60 - 1):
                for name, call in BY_CREEL.items():
                    with self.subTest(name, row=row, creel=creel):
                        call(row, creel)

    def test_the_row_is_refused_ahead_of_the_creel(self):
        for name, call in all_calls(WRONG_CREELS):
            for row in long_rows():
                with self.subTest(name, row=row), self.assertRaises(TooMany):
                    call(row)
            for row, at in wrong_rows():
                with self.subTest(name, row=row):
                    with self.assertRaises(BadRow) as told:
                        call(row)
                    self.assertEqual(told.exception.at, at)


class NothingChanged(SoonCase):
    def test_what_is_handed_in_stays_as_it_was(self):
        for row in small_rows() + many_rows(30) + [[-FAR, 0, 1, FAR]]:
            for name, call in all_calls(creels_for(row)):
                kept = list(row)
                call(row)
                self.assertEqual(row, kept, name)

    def test_what_is_refused_stays_as_it_was(self):
        for row in long_rows() + [row for row, at in wrong_rows()] + [[], [1, 2, 5]]:
            for name, call in all_calls(WRONG_CREELS):
                kept = list(row)
                try:
                    call(row)
                except (TooMany, BadRow, BadCreel):
                    pass
                self.assertEqual(row, kept, name)

    def test_a_told_list_is_changed_and_the_same_is_told_again(self):
        for row in ([], [4], [1, 2, 5], sixty(), [-FAR, 0, 1, FAR]):
            for name, call in all_calls():
                if name in LISTS_TOLD:
                    kept = list(row)
                    told = call(row)
                    right = list(told)
                    told.append((9, 9))
                    told[0] = 77
                    told.reverse()
                    again = call(row)
                    self.assertEqual(again, right, name)
                    again.clear()
                    self.assertEqual(call(row), right, name)
                    self.assertEqual(row, kept, name)

    def test_a_told_list_is_not_the_one_handed_in(self):
        for row in ([], [0], [1, 2, 5]):
            for told in (rows.moved(row, 0), rows.mirrored(row), carriers.walked(row, 1), far.far(row, [])):
                self.assertIsNot(told, row)

    def test_changing_what_was_handed_in_changes_nothing_told(self):
        for name, call in all_calls():
            if name in LISTS_TOLD:
                row = [1, 2, 5, 6, 7, 20]
                told = call(row)
                right = list(told)
                row.clear()
                row.append(3)
                self.assertEqual(told, right, name)
                self.assertEqual(call([1, 2, 5, 6, 7, 20]), right, name)

    def test_a_refusal_leaves_later_answers_as_they_are(self):
        for name, call in all_calls():
            right = call([1, 2, 5])
            for wrong in ([2, 1], list(range(61))):
                with self.assertRaises((BadRow, TooMany)):
                    call(wrong)
                self.assertEqual(call([1, 2, 5]), right, name)


class Kinds(unittest.TestCase):
    def test_rows_are_lists_of_whole_numbers(self):
        for row in ([], [0], [1, 2, 5], sixty()):
            for told in (
                rows.mirrored(row), rows.moved(row, -2), carriers.walked(row, 2), carriers.walked_back(row, 2),
                far.far(row, [(2, 5)]), peels.rounds(row), peels.sizes_by_rounds(row), peels.sizes_by_loads(row),
            ):
                self.assertIs(type(told), list)
                self.assertEqual({type(place) for place in told}, {int} if row else set())

    def test_a_peeled_row_is_a_list_of_whole_numbers(self):
        for row in ([], [0], [1, 2, 5]):
            self.assertIs(type(peels.peeled(row)), list)
        self.assertEqual([type(place) for place in peels.peeled([1, 2, 5])], [int])

    def test_heads_and_tails_are_pairs_of_tuples(self):
        for row in ([], [0], [1, 2, 5], sixty()):
            told = peels.heads(row)
            self.assertIs(type(told), list)
            for pair in told:
                self.assertEqual([type(thing) for thing in (pair,) + pair], [tuple, tuple, tuple])
                self.assertEqual({type(place) for niches in pair for place in niches}, {int})

    def test_pairs_are_tuples_of_whole_numbers(self):
        for row in ([], [0], [1, 2, 5], sixty()):
            for told in (rows.stretches(row), rows.closings(row)):
                self.assertIs(type(told), list)
                for pair in told:
                    self.assertIs(type(pair), tuple)
                    self.assertEqual([type(place) for place in pair], [int, int])

    def test_counts_are_whole_numbers(self):
        for row in ([], [0], [1, 2, 5], sixty()):
            self.assertIs(type(carriers.carried(row, 2)), int)
            self.assertIs(type(carriers.holding(row, 2, 1)), int)
            self.assertIs(type(far.rank_count(row)), int)
            self.assertIs(type(far.is_ranked(row)), bool)


if __name__ == "__main__":
    unittest.main()
