"""Promises [21], [22] and [23]: roads by names, their deeds and logs, walks found out late, back, again and twins."""

import random
import unittest

from creelway import errors
from creelway.errors import (
    BadCreel, BadName, BadRow, Bare, Clash, CreelError, Full, Laid, NoEntry, NoRoad, NoStone, NotWalk, NothingLeft,
    Taken, TooMany, TooNear,
)
from creelway.far import far
from creelway.house import House
from creelway.trains import row_of
from tests.plain import (
    END, FAR, SoonCase, all_of, any_deed, long_rows, many_deeds, many_rows, plain_added, plain_log_refusal,
    plain_log_row, plain_refusal, plain_roads, plain_trains, sixty, wrong_rows,
)

RIGHT_NAMES = ("a", "z", "zz", "road", "abcdefgh", "zzzzzzzz")
WRONG_NAMES = (
    "", "abcdefghi", "A", "aB", "a1", "1", "a b", " a", "a ", " ", "a\n", "\n", "a-b", "-", "_", "a_b", "`", "{", "a{",
    "ABCDEFGH", "a" * 200,
)
OTHER_DEEDS = (
    ("shut",), ("walk", 2, 3), ("walk", 0, 3), ("put", 1), ("take", 1), ("mirror",), ("lay", "a", 3), ("lay", "b", -1),
    ("late", 0, 2, 3), ("late", -1, 0, 3), ("strike", 0), ("strike", -1),
)


def do(house, deed):
    """The deed of a tuple, by the method of its name."""
    return getattr(house, deed[0])(*[list(part) if isinstance(part, tuple) else part for part in deed[1:]])


def house_of(*deeds):
    house = House()
    for deed in deeds:
        do(house, deed)
    return house


def full_house():
    return house_of(*[("build", name, (1, 2)) for name in "abcdefgh"])


class HouseCase(SoonCase):
    def refused(self, house, deed, refusal, at=None):
        """The deed is refused so, and leaves all as it was."""
        kept = all_of(house)
        with self.assertRaises(refusal) as told:
            do(house, deed)
        self.assertIs(type(told.exception), refusal, deed)
        if at is not None:
            self.assertEqual(told.exception.at, at)
        self.assertEqual(all_of(house), kept, deed)


class Build(HouseCase):
    def test_a_house_has_no_roads_at_first(self):
        self.assertEqual(all_of(House()), ([], [], [], [], []))

    def test_roads_in_the_order_of_building(self):
        house = House()
        for name, row in (("b", [3, 4]), ("a", []), ("zz", [-1])):
            self.assertIsNone(house.build(name=name, row=row))
        self.assertEqual(house.roads(), ["b", "a", "zz"])
        self.assertEqual([house.row(name) for name in ("a", "b", "zz")], [[], [3, 4], [-1]])
        self.assertEqual([house.log(name) for name in ("a", "b", "zz")], [[], [], []])
        self.assertEqual(house.deeds(), [("build", "b", (3, 4)), ("build", "a", ()), ("build", "zz", (-1,))])

    def test_names_that_are_taken_in(self):
        house = House()
        for name in RIGHT_NAMES:
            house.build(name, [1])
        self.assertEqual(house.roads(), list(RIGHT_NAMES))

    def test_names_that_are_none(self):
        for house in (House(), house_of(("build", "a", ())), full_house()):
            for name in WRONG_NAMES:
                for row in ([], [1, 2], [2, 2], list(range(61))):
                    self.refused(house, ("build", name, tuple(row)), BadName)

    def test_a_name_that_is_there_already(self):
        for house in (house_of(("build", "a", ()), ("build", "b", (2,))), full_house()):
            for name in ("a", "b"):
                for row in ([], [1, 2], [2, 2], list(range(61))):
                    self.refused(house, ("build", name, tuple(row)), Taken)

    def test_the_rows_refusals(self):
        for house in (House(), house_of(("build", "a", ())), full_house()):
            for row, at in wrong_rows():
                self.refused(house, ("build", "new", tuple(row)), BadRow, at)
            for row in long_rows():
                self.refused(house, ("build", "new", tuple(row)), TooMany)

    def test_a_ninth_road(self):
        house = full_house()
        for row in ([], [1, 2], sixty()):
            self.refused(house, ("build", "new", tuple(row)), Full)
        house.shut("c")
        house.build("new", [7])
        self.assertEqual(house.roads(), ["a", "b", "d", "e", "f", "g", "h", "new"])
        self.refused(house, ("build", "newer", ()), Full)

    def test_rows_of_sixty_stones(self):
        house = House()
        house.build("a", sixty())
        self.assertEqual(house.row("a"), sixty())


class NoSuchRoad(HouseCase):
    def test_every_other_deed_asks_for_the_road_first(self):
        house = house_of(("build", "a", (1, 5)), ("build", "b", ()), ("shut", "b"))
        for name in ("b", "c", "abcdefgh") + WRONG_NAMES:
            for word, *rest in OTHER_DEEDS:
                self.refused(house, (word, name, *rest), NoRoad)
            for call in (house.row, house.log):
                with self.assertRaises(NoRoad):
                    call(name)

    def test_the_road_that_is_laid_behind_is_asked_for_too(self):
        house = house_of(("build", "a", (1, 5)), ("build", "b", ()))
        for name in ("a", "b"):
            for other in ("c",) + WRONG_NAMES:
                for gap in (-1, 0, 9):
                    self.refused(house, ("lay", name, other, gap), NoRoad)


class Shut(HouseCase):
    def test_the_road_is_gone(self):
        house = house_of(("build", "a", (1,)), ("build", "b", (2,)), ("build", "c", (3,)), ("walk", "b", 1, 4))
        self.assertIsNone(house.shut(name="b"))
        self.assertEqual(house.roads(), ["a", "c"])
        self.refused(house, ("shut", "b"), NoRoad)

    def test_it_is_built_anew_behind_the_others_with_an_empty_log(self):
        house = house_of(("build", "a", (1,)), ("walk", "a", 1, 4), ("build", "b", (2,)), ("shut", "a"))
        house.build("a", [7])
        self.assertEqual(house.roads(), ["b", "a"])
        self.assertEqual((house.row("a"), house.log("a")), ([7], []))


class OneEntryDeeds(HouseCase):
    def test_each_entry_of_the_log(self):
        house = house_of(("build", "a", (0, 1, 5)), ("build", "b", (3, 9)))
        self.assertIsNone(house.walk(name="a", creel=2, count=3))
        self.assertIsNone(house.put(name="a", place=-4))
        self.assertIsNone(house.take(name="a", place=-4))
        self.assertIsNone(house.mirror(name="a"))
        self.assertIsNone(house.lay(name="a", other="b", gap=2))
        self.assertIsNone(house.late(name="a", at=1, creel=1, count=-2))
        self.assertIsNone(house.late(name="a", at=6, creel=9, count=0))
        self.assertIsNone(house.strike(name="a", at=0))
        want = [
            ("walk", 1, -2), ("put", -4), ("take", -4), ("mirror",), ("lay", (3, 9), 2), ("walk", 9, 0),
        ]
        self.assertEqual(house.log("a"), want)
        self.assertEqual(house.log("b"), [])
        self.assertEqual(house.row("a"), plain_log_row([0, 1, 5], want))
        self.assertEqual(house.deeds(), [
            ("build", "a", (0, 1, 5)), ("build", "b", (3, 9)), ("walk", "a", 2, 3), ("put", "a", -4), ("take", "a", -4),
            ("mirror", "a"), ("lay", "a", "b", 2), ("late", "a", 1, 1, -2), ("late", "a", 6, 9, 0), ("strike", "a", 0),
        ])

    def test_walks(self):
        for row in many_rows(20):
            for creel, count in ((1, 4), (2, 1), (3, -2), (60, 2), (61, -1), (7, 0), (4, 30)):
                house = house_of(("build", "a", tuple(row)), ("walk", "a", creel, count))
                self.assertEqual(house.row("a"), plain_log_row(row, [("walk", creel, count)]))

    def test_creels_below_1(self):
        for row in ((), (1, 5)):
            house = house_of(("build", "a", row))
            for creel in (0, -1, -FAR):
                for count in (0, 1, -1, FAR):
                    self.refused(house, ("walk", "a", creel, count), BadCreel)

    def test_walks_one_behind_the_other(self):
        house = house_of(("build", "a", (0, 1, 2, 10)))
        log = []
        for creel, count in ((2, 3), (3, 3), (9, -1), (1, -4), (70, 12), (60, -11), (2, -3), (3, 0)):
            house.walk("a", creel, count)
            log.append(("walk", creel, count))
            self.assertEqual(house.row("a"), plain_log_row([0, 1, 2, 10], log))
            self.assertEqual(house.log("a"), log)

    def test_stones_put_in_and_taken_out(self):
        house = house_of(("build", "a", ()))
        for word, place, row in (
            ("put", 5, [5]), ("put", -FAR, [-FAR, 5]), ("put", 6, [-FAR, 5, 6]), ("take", 5, [-FAR, 6]),
            ("put", 0, [-FAR, 0, 6]), ("take", -FAR, [0, 6]), ("take", 6, [0]), ("take", 0, []),
        ):
            do(house, (word, "a", place))
            self.assertEqual(house.row("a"), row)

    def test_where_a_stone_lies_and_where_none_does(self):
        house = house_of(("build", "a", (0, 1, 5)), ("walk", "a", 1, 10))
        for place in (10, 11, 15):
            self.refused(house, ("put", "a", place), Laid)
        for place in (0, 1, 5, 9, 12, FAR):
            self.refused(house, ("take", "a", place), NoStone)
        self.refused(house_of(("build", "a", ())), ("take", "a", 0), NoStone)

    def test_a_sixty_first_stone(self):
        house = house_of(("build", "a", tuple(sixty()[:59])))
        house.put("a", 1000)
        self.refused(house, ("put", "a", 1001), TooMany)
        self.refused(house, ("put", "a", -1000), TooMany)
        self.refused(house, ("put", "a", 1000), Laid)
        self.refused(house, ("put", "a", sixty()[0]), Laid)
        house.take("a", 1000)
        house.put("a", 1001)
        self.assertEqual(len(house.row("a")), 60)

    def test_mirrored(self):
        house = house_of(("build", "a", (0, 1, 5)), ("mirror", "a"))
        self.assertEqual(house.row("a"), [-5, -1, 0])
        house.walk("a", 2, 3)
        house.mirror("a")
        house.mirror("a")
        log = [("mirror",), ("walk", 2, 3), ("mirror",), ("mirror",)]
        self.assertEqual(house.log("a"), log)
        self.assertEqual(house.row("a"), plain_log_row([0, 1, 5], log))

    def test_mirrored_between_walks(self):
        for row in many_rows(20):
            log = [("walk", 2, 3), ("mirror",), ("walk", 5, -2), ("walk", 2, 1), ("mirror",), ("walk", 60, 1)]
            house = house_of(("build", "a", tuple(row)))
            for word, *rest in log:
                do(house, (word, "a", *rest))
            self.assertEqual(house.row("a"), plain_log_row(row, log))

    def test_roads_have_nothing_to_do_with_one_another(self):
        house = house_of(("build", "a", (0, 1)), ("build", "b", (0, 1)))
        house.walk("a", 2, 5)
        house.put("b", 7)
        house.mirror("a")
        self.assertEqual((house.row("a"), house.row("b")), ([-11, -10], [0, 1, 7]))
        self.assertEqual((house.log("a"), house.log("b")), ([("walk", 2, 5), ("mirror",)], [("put", 7)]))


class Lay(HouseCase):
    def test_a_row_like_that_of_the_other_road_is_laid_behind(self):
        house = house_of(("build", "a", (0, 1)), ("build", "b", (5, 7)), ("lay", "a", "b", 2))
        self.assertEqual((house.row("a"), house.row("b")), ([0, 1, 4, 6], [5, 7]))
        self.assertEqual(house.log("a"), [("lay", (5, 7), 2)])
        self.assertEqual(house.log("b"), [])

    def test_it_is_laid_as_it_is_now(self):
        house = house_of(("build", "a", (0,)), ("build", "b", (0, 1, 3)), ("walk", "b", 2, 2), ("lay", "a", "b", 3))
        laid = plain_log_row([0, 1, 3], [("walk", 2, 2)])
        self.assertEqual(house.log("a"), [("lay", tuple(laid), 3)])
        for deed in (("walk", "b", 3, 5), ("put", "b", -90), ("late", "b", 0, 1, 1), ("shut", "b")):
            do(house, deed)
            self.assertEqual(house.log("a"), [("lay", tuple(laid), 3)])
            self.assertEqual(house.row("a"), plain_log_row([0], [("lay", tuple(laid), 3)]))

    def test_a_road_behind_itself(self):
        house = house_of(("build", "a", (0, 1)), ("walk", "a", 1, 5), ("lay", "a", "a", 2), ("lay", "a", "a", 9))
        self.assertEqual(house.log("a")[1:], [("lay", (5, 6), 2), ("lay", (5, 6, 9, 10), 9)])
        self.assertEqual(house.row("a"), [5, 6, 9, 10, 20, 21, 24, 25])

    def test_without_stones(self):
        house = house_of(("build", "a", (1,)), ("build", "bare", ()), ("build", "all", tuple(sixty())))
        for name, other in (("a", "bare"), ("bare", "a"), ("bare", "bare"), ("all", "bare"), ("bare", "all")):
            for gap in (-1, 0, 60, FAR):
                self.refused(house, ("lay", name, other, gap), Bare)

    def test_more_than_60_stones(self):
        house = house_of(("build", "a", (1,)), ("build", "most", tuple(sixty()[:59])), ("build", "all", tuple(sixty())))
        for name, other in (("a", "all"), ("all", "a"), ("all", "all"), ("most", "most"), ("all", "most")):
            for gap in (-1, 0, 60, FAR):
                self.refused(house, ("lay", name, other, gap), TooMany)
        house.lay("most", "a", 1)
        self.assertEqual(len(house.row("most")), 60)
        self.refused(house, ("lay", "most", "a", 0), TooMany)

    def test_too_near(self):
        house = house_of(("build", "a", (1, 2, 3)), ("build", "b", tuple(range(0, 20, 2))))
        for name, other, gaps in (("a", "b", (9, 8, 0, -1, -FAR)), ("b", "a", (2, 1, 0, -1)), ("a", "a", (2, 0, -3))):
            for gap in gaps:
                self.refused(house, ("lay", name, other, gap), TooNear)
        house.lay("a", "b", 10)
        house.lay("b", "b", 10)


class LateAndStrike(HouseCase):
    def hold(self, house, name, first):
        self.assertEqual(house.row(name), plain_log_row(first, house.log(name)))

    def test_a_walk_ahead_of_each_entry(self):
        first = (0, 1, 4)
        log = [
            ("walk", 2, 1), ("put", 40), ("mirror",), ("take", -40), ("walk", 3, -2), ("lay", (0, 2), 5), ("put", 90),
        ]
        for at in range(len(log) + 1):
            for creel, count in ((1, 1), (2, 3), (60, -1), (4, 0), (99, 2)):
                house = house_of(("build", "a", first), ("build", "b", (0, 2)))
                for word, *rest in log:
                    do(house, ("lay", "a", "b", 5) if word == "lay" else (word, "a", *rest))
                self.assertEqual(house.log("a"), log)
                later = log[:at] + [("walk", creel, count)] + log[at:]
                want = plain_log_row(first, later)
                if isinstance(want, int):
                    self.refused(house, ("late", "a", at, creel, count), Clash, want)
                else:
                    house.late("a", at, creel, count)
                    self.assertEqual(house.log("a"), later)
                    self.assertEqual(house.row("a"), want)

    def test_numbers_that_no_entry_has(self):
        house = house_of(("build", "a", (0, 1)), ("walk", "a", 2, 1), ("put", "a", 50))
        for at in (-1, -2, 3, 4, FAR, -FAR):
            for creel in (-1, 0, 1):
                self.refused(house, ("late", "a", at, creel, 1), NoEntry)
        for at in (-1, -2, 2, 3, 4, FAR, -FAR):
            self.refused(house, ("strike", "a", at), NoEntry)
        house.late("a", 2, 1, 1)
        self.assertEqual(house.log("a"), [("walk", 2, 1), ("put", 50), ("walk", 1, 1)])

    def test_an_empty_log(self):
        house = house_of(("build", "a", (0, 1)))
        for at in (-1, 1):
            self.refused(house, ("late", "a", at, 1, 1), NoEntry)
        for at in (-1, 0, 1):
            self.refused(house, ("strike", "a", at), NoEntry)
        house.late("a", 0, 2, 1)
        self.assertEqual((house.row("a"), house.log("a")), ([2, 3], [("walk", 2, 1)]))

    def test_a_creel_below_1_goes_ahead_of_a_clash(self):
        house = house_of(("build", "a", (0,)), ("put", "a", 1))
        self.refused(house, ("late", "a", 0, 1, 1), Clash, 1)
        for creel in (0, -1, -FAR):
            for at in (0, 1):
                self.refused(house, ("late", "a", at, creel, 1), BadCreel)

    def test_what_is_no_walk(self):
        house = house_of(("build", "a", (0,)), ("put", "a", 1), ("take", "a", 0), ("mirror", "a"), ("lay", "a", "a", 1))
        for at in range(4):
            self.refused(house, ("strike", "a", at), NotWalk)

    def test_a_late_walk_clashes_with_a_put_and_with_a_take(self):
        house = house_of(("build", "a", (0,)), ("walk", "a", 1, 2), ("put", "a", 3), ("walk", "a", 1, 1))
        self.refused(house, ("late", "a", 0, 1, 1), Clash, 2)
        self.refused(house, ("late", "a", 1, 1, 1), Clash, 2)
        house.late("a", 2, 1, 1)
        house = house_of(("build", "a", (0,)), ("walk", "a", 1, 2), ("take", "a", 2), ("mirror", "a"))
        for count in (1, -1, FAR):
            self.refused(house, ("late", "a", 0, 1, count), Clash, 2)
        house.late("a", 0, 1, 0)
        self.assertEqual(house.log("a"), [("walk", 1, 0), ("walk", 1, 2), ("take", 2), ("mirror",)])

    def test_the_first_of_several_clashes_is_told(self):
        house = house_of(("build", "a", (0, 9)), ("walk", "a", 1, 1), ("take", "a", 1), ("take", "a", 10))
        self.refused(house, ("late", "a", 0, 1, 5), Clash, 2)
        self.refused(house, ("late", "a", 2, 1, 5), Clash, 3)
        self.refused(house, ("strike", "a", 0), Clash, 0)

    def test_a_struck_walk_clashes(self):
        house = house_of(
            ("build", "a", (0, 1)), ("mirror", "a"), ("walk", "a", 2, 4), ("walk", "a", 1, 1), ("put", "a", 0),
            ("take", "a", 9),
        )
        self.refused(house, ("strike", "a", 1), Clash, 2)
        self.refused(house, ("strike", "a", 2), Clash, 3)

    def test_a_struck_walk(self):
        house = house_of(("build", "a", (0, 1)), ("walk", "a", 2, 4), ("put", "a", 90), ("walk", "a", 1, 1))
        house.strike("a", 2)
        self.assertEqual((house.log("a"), house.row("a")), ([("walk", 2, 4), ("put", 90)], [8, 9, 90]))
        house.strike("a", 0)
        self.assertEqual((house.log("a"), house.row("a")), ([("put", 90)], [0, 1, 90]))

    def test_where_walks_alone_lie_behind_it_a_late_walk_does_the_same_as_one_made_now(self):
        for row in many_rows(15):
            walks = [("walk", "a", 2, 3), ("walk", "a", 60, -FAR), ("walk", "a", 5, 1)]
            now = house_of(("build", "a", tuple(row)), *walks)
            for at in range(4):
                late = now.twin()
                now.walk("a", 3, END)
                late.late("a", at, 3, END)
                self.assertEqual(late.row("a"), now.row("a"))
                now.back()

    def test_a_walk_struck_and_found_out_late_again(self):
        for seed in range(12):
            house = house_of(*many_deeds(30, seed))
            for name in house.roads():
                for at, entry in enumerate(house.log(name)):
                    if entry[0] == "walk":
                        row, log = house.row(name), house.log(name)
                        try:
                            house.strike(name, at)
                        except Clash:
                            continue
                        house.late(name, at, entry[1], entry[2])
                        self.assertEqual((house.row(name), house.log(name)), (row, log))

    def test_long_runs_of_walks_between_stones_put_in(self):
        log = []
        for place in (900, -900, 1800):
            for step in range(20):
                log += [("walk", 1 + step % 4, 1 - step % 3), ("mirror",)][:1 + step % 2]
            log.append(("put", place))
        for creel, count in ((2, 1), (3, -2)):
            house = house_of(("build", "a", (0, 1, 5)), *[(word, "a", *rest) for word, *rest in log])
            self.assertEqual(house.row("a"), plain_log_row([0, 1, 5], log))
            for at in range(len(log) + 1):
                house.late("a", at, creel, count)
                later = log[:at] + [("walk", creel, count)] + log[at:]
                self.assertEqual((house.log("a"), house.row("a")), (later, plain_log_row([0, 1, 5], later)))
                house.late("a", len(log) // 2, 1, 1)
                later.insert(len(log) // 2, ("walk", 1, 1))
                self.assertEqual((house.log("a"), house.row("a")), (later, plain_log_row([0, 1, 5], later)))
                house.back()
                house.back()

    def test_a_row_laid_from_a_road_stays_as_it_was_then(self):
        house = house_of(("build", "a", (0,)), ("build", "b", (0, 1, 3)), ("walk", "b", 2, 2), ("lay", "a", "b", 3))
        kept = (house.row("a"), house.log("a"))
        house.strike("b", 0)
        house.late("b", 0, 1, 7)
        self.assertEqual((house.row("a"), house.log("a")), kept)

    def test_the_row_that_was_laid_comes_behind_the_row_as_it_would_be(self):
        house = house_of(("build", "a", (0, 1, 9)), ("lay", "a", "a", 4), ("walk", "a", 2, 1))
        house.late("a", 0, 3, 6)
        log = [("walk", 3, 6), ("lay", (0, 1, 9), 4), ("walk", 2, 1)]
        self.assertEqual(house.log("a"), log)
        self.assertEqual(house.row("a"), plain_log_row([0, 1, 9], log))


class GreatNumbers(SoonCase):
    def rows_by_lists(self, first, log):
        """The row behind a log of walks of any counts, by its list, and of stones that are put in and mirrored."""
        row = list(first)
        for word, *rest in log:
            if word == "walk":
                row = row_of(plain_added(plain_trains(row), [tuple(rest)]))
            elif word == "mirror":
                row = [-place for place in row[::-1]]
            else:
                row = sorted(set(row) ^ {rest[0]})
        return row

    def test_counts_of_sixty_figures(self):
        source = random.Random(31)
        for row in many_rows(12):
            first, log = row[:50], []
            house = house_of(("build", "a", tuple(first)))
            for step in range(12):
                creel, count = source.choice((1, 2, 3, 9, 60, END)), source.randint(-END, END)
                place = source.randint(-END, END)
                for deed in (("walk", creel, count), ("mirror",), ("walk", 4, -count), ("put", place)):
                    log.append(deed)
                    do(house, (deed[0], "a", *deed[1:]))
                if source.random() < 0.6:
                    log.append(("take", place))
                    house.take("a", place)
            self.assertEqual(house.log("a"), log)
            self.assertEqual(house.row("a"), self.rows_by_lists(first, log))
            house.back()
            for at in (len(log) - 1, len(log) - 2):
                house.late("a", at, 7, END)
                later = log[:-1]
                later.insert(at, ("walk", 7, END))
                self.assertEqual(house.log("a"), later)
                self.assertEqual(house.row("a"), self.rows_by_lists(first, later))
                house.back()

    def test_a_log_of_200_entries(self):
        house = house_of(("build", "a", tuple(range(0, 60, 3))))
        for step in range(50):
            for deed in (("walk", "a", 2 + step % 7, FAR + step), ("put", "a", END // 7), ("take", "a", END // 7)):
                do(house, deed)
            house.mirror("a")
        self.assertEqual(len(house.log("a")), 200)
        log = house.log("a")
        for at, creel, count in ((0, 3, END), (101, 60, -END), (202, 1, 1), (37, 5, 0)):
            house.late("a", at, creel, count)
            log.insert(at, ("walk", creel, count))
            self.assertEqual(house.log("a"), log)
            self.assertEqual(house.row("a"), self.rows_by_lists(range(0, 60, 3), log))
        for entry in (("walk", 3, END), ("walk", 60, -END), ("walk", 5, 0), ("walk", 1, 1)):
            at = log.index(entry)
            house.strike("a", at)
            log.pop(at)
            self.assertEqual(house.row("a"), self.rows_by_lists(range(0, 60, 3), log))

    def test_a_clash_that_lies_far_off(self):
        house = house_of(("build", "a", (0, 1, 2)), ("walk", "a", 3, FAR), ("take", "a", 3 * FAR))
        with self.assertRaises(Clash) as told:
            house.late("a", 0, 3, 1)
        self.assertEqual(told.exception.at, 2)
        house.late("a", 0, 3, 0)
        house.late("a", 3, 3, END)
        self.assertEqual(house.row("a"), far([3 * FAR + 1, 3 * FAR + 2], [(3, END)]))

    def test_many_walks_and_deeds_taken_back(self):
        house = house_of(("build", "a", tuple(sixty())))
        for step in range(2000):
            house.walk("a", 1 + step % 50, END - step)
        for step in range(2000):
            house.back()
        self.assertEqual(house.row("a"), sixty())
        for step in range(2000):
            house.again()
        walks = [(1 + step % 50, END - step) for step in range(2000)]
        self.assertEqual(house.row("a"), row_of(plain_added(plain_trains(sixty()), walks)))


class BackAndAgain(HouseCase):
    def test_nothing_left(self):
        for house in (House(), house_of(("build", "a", ()))):
            kept = all_of(house)
            with self.assertRaises(NothingLeft):
                house.again()
            self.assertEqual(all_of(house), kept)
        for call in (House().back, House().again):
            with self.assertRaises(NothingLeft):
                call()

    def test_each_deed_taken_back_and_done_again(self):
        deeds = [
            ("build", "a", (0, 1, 5)), ("build", "b", (3, 9)), ("walk", "a", 2, 3), ("put", "a", -4), ("take", "a", -4),
            ("mirror", "a"), ("lay", "a", "b", 2), ("late", "a", 1, 1, -2), ("strike", "a", 0), ("shut", "b"),
            ("build", "b", ()), ("shut", "a"), ("build", "a", (7,)),
        ]
        house, stood = House(), []
        for deed in deeds:
            stood.append(all_of(house)[:3])
            do(house, deed)
        stood.append(all_of(house)[:3])
        for turn in range(3):
            for many in range(len(deeds) - 1, -1, -1):
                self.assertEqual(house.back(), deeds[many])
                self.assertEqual(all_of(house), (*stood[many], deeds[:many], deeds[many:]))
            with self.assertRaises(NothingLeft):
                house.back()
            self.assertEqual(all_of(house), ([], [], [], [], deeds))
            for many in range(1, len(deeds) + 1):
                self.assertEqual(house.again(), deeds[many - 1])
                self.assertEqual(all_of(house), (*stood[many], deeds[:many], deeds[many:]))
            with self.assertRaises(NothingLeft):
                house.again()
            self.assertEqual(all_of(house), (*stood[-1], deeds, []))

    def test_a_new_deed_lets_go_what_was_taken_back(self):
        for new in (("walk", "a", 1, 0), ("build", "b", ()), ("shut", "a"), ("put", "a", 77), ("mirror", "a")):
            house = house_of(("build", "a", (0, 1)), ("walk", "a", 2, 1), ("walk", "a", 1, 1))
            house.back()
            house.back()
            do(house, new)
            self.assertEqual(house.undone(), [])
            with self.assertRaises(NothingLeft):
                house.again()
            self.assertEqual(house.deeds(), [("build", "a", (0, 1)), new])
            self.assertEqual(house.back(), new)
            self.assertEqual(house.undone(), [new])

    def test_a_deed_done_again_keeps_the_rest_to_be_done_again(self):
        house = house_of(("build", "a", (0, 1)), ("walk", "a", 2, 1), ("walk", "a", 1, 1))
        for turn in range(3):
            house.back()
        house.again()
        self.assertEqual(house.undone(), [("walk", "a", 2, 1), ("walk", "a", 1, 1)])

    def test_a_refused_deed_lets_nothing_go(self):
        house = house_of(("build", "a", (0, 1)), ("walk", "a", 2, 1), ("walk", "a", 1, 1), ("mirror", "a"))
        house.back()
        house.back()
        for deed, refusal in (
            (("build", "a", ()), Taken), (("build", "A", ()), BadName), (("shut", "b"), NoRoad),
            (("walk", "a", 0, 1), BadCreel), (("put", "a", 2), Laid), (("take", "a", 9), NoStone),
            (("lay", "a", "a", 1), TooNear), (("late", "a", 2, 1, 1), NoEntry), (("strike", "a", 1), NoEntry),
        ):
            self.refused(house, deed, refusal)
        self.assertEqual(house.again(), ("walk", "a", 1, 1))
        self.assertEqual(house.again(), ("mirror", "a"))
        self.assertEqual(house.row("a"), [-4, -3])

    def test_asking_lets_nothing_go(self):
        house = house_of(("build", "a", (0, 1)), ("walk", "a", 2, 1))
        house.back()
        kept = all_of(house)
        for name in ("a", "b"):
            for call in (house.row, house.log):
                try:
                    call(name)
                except NoRoad:
                    pass
        house.twin()
        self.assertEqual(all_of(house), kept)
        self.assertEqual(house.again(), ("walk", "a", 2, 1))


class Twins(HouseCase):
    def test_a_twin_stands_as_the_first_one_does(self):
        for seed in range(10):
            house = house_of(*many_deeds(25, seed))
            for turn in range(6):
                house.back()
            twin = house.twin()
            self.assertIsInstance(twin, House)
            self.assertIsNot(twin, house)
            self.assertEqual(all_of(twin), all_of(house))
            for call in ("again", "again", "back", "back", "back", "again"):
                self.assertEqual(getattr(twin, call)(), getattr(house, call)())
                self.assertEqual(all_of(twin), all_of(house))

    def test_from_then_on_each_goes_its_own_way(self):
        changes = (
            [("walk", "a", 2, 1)], [("put", "a", 50)], [("take", "a", 2)], [("mirror", "a")], [("lay", "a", "a", 2)],
            [("late", "a", 0, 1, 1)], [("strike", "a", 0)], [("shut", "a")], [("build", "b", (4,))],
            [("back",)], [("again",)], [("back",), ("put", "a", 9)], [("back",), ("back",)],
        )
        for change in changes:
            for turned in (False, True):
                house = house_of(("build", "a", (0, 1)), ("walk", "a", 2, 1), ("walk", "a", 1, 1))
                house.back()
                twin = house.twin()
                one, other = (twin, house) if turned else (house, twin)
                kept = all_of(other)
                for deed in change:
                    do(one, deed)
                self.assertNotEqual(all_of(one), kept)
                self.assertEqual(all_of(other), kept)
                self.assertEqual(other.again(), ("walk", "a", 1, 1))
                self.assertEqual(other.back(), ("walk", "a", 1, 1))
                self.assertEqual(other.back(), ("walk", "a", 2, 1))

    def test_a_twin_of_a_twin_and_of_an_empty_house(self):
        house = House()
        twin = house.twin()
        twin.build("a", [1])
        third = twin.twin()
        twin.back()
        self.assertEqual((house.roads(), twin.roads(), third.roads()), ([], [], ["a"]))
        self.assertEqual((house.undone(), third.undone()), ([], []))

    def test_two_houses_have_nothing_to_do_with_one_another(self):
        one, other = House(), House()
        one.build("a", [1])
        self.assertEqual(all_of(other), ([], [], [], [], []))
        other.build("a", [2])
        other.walk("a", 1, 1)
        other.back()
        self.assertEqual(all_of(one), (["a"], [[1]], [[]], [("build", "a", (1,))], []))


class StepByStep(SoonCase):
    def hold(self, house, done, gone):
        """The house tells what its deeds, gone through anew, come to."""
        roads = plain_roads(done)
        self.assertEqual(house.roads(), list(roads))
        self.assertEqual([house.log(name) for name in roads], [log for first, log in roads.values()])
        self.assertEqual([house.row(name) for name in roads], [plain_log_row(*road) for road in roads.values()])
        self.assertEqual((house.deeds(), house.undone()), (done, gone))

    def refused_rightly(self, house, roads, deed, refusal):
        with self.assertRaises(CreelError) as told:
            do(house, deed)
        self.assertIs(type(told.exception), getattr(errors, refusal), deed)
        if refusal == "Clash":
            first, log = roads[deed[1]]
            new = log[:deed[2]] + ([("walk", *deed[3:])] + log[deed[2]:] if deed[0] == "late" else log[deed[2] + 1:])
            self.assertEqual(told.exception.at, plain_log_row(first, new))

    def any_step(self, source, names, house, done, gone):
        """A deed, a deed back or one again; told is what refused it, if anything did."""
        if done and source.random() < 0.15:
            gone.insert(0, done.pop())
            self.assertEqual(house.back(), gone[0])
        elif gone and source.random() < 0.3:
            done.append(gone.pop(0))
            self.assertEqual(house.again(), done[-1])
        else:
            roads = plain_roads(done)
            deed = any_deed(source, roads, names)
            refusal = plain_refusal(roads, deed)
            if refusal:
                self.refused_rightly(house, roads, deed, refusal)
                return refusal
            self.assertIsNone(do(house, deed))
            done.append(deed)
            gone.clear()
        return None

    def test_any_deeds(self):
        seen = set()
        for seed in range(120):
            source = random.Random(seed)
            names = ("a", "ab", "abcdef", "abcdefghijkl")[seed % 4]
            house, done, gone = House(), [], []
            for step in range(80):
                seen.add(self.any_step(source, names, house, done, gone))
                if step % 4 == 0:
                    self.hold(house, done, gone)
            self.hold(house, done, gone)
        self.assertEqual(seen, {
            "BadName", "Taken", "BadRow", "Full", "NoRoad", "BadCreel", "Laid", "TooMany", "NoStone", "Bare", "TooNear",
            "NoEntry", "NotWalk", "Clash", None,
        })

    def test_every_late_walk_and_every_struck_one(self):
        clashes, longest = 0, 0
        for seed in range(12):
            deeds = many_deeds(100, seed, "a") if seed % 3 == 0 else many_deeds(30, seed)
            for name, (first, log) in plain_roads(deeds).items():
                house = house_of(*deeds)
                longest = max(longest, len(log))
                late = [("late", name, at, 2, 1) for at in range(-1, len(log) + 2)]
                for deed in late + [("strike", name, at) for at in range(-1, len(log) + 1)]:
                    refusal = plain_log_refusal(first, log, deed[0], deed[2:])
                    if refusal:
                        self.refused_rightly(house, {name: (first, log)}, deed, refusal)
                        clashes += refusal == "Clash"
                    else:
                        do(house, deed)
                        self.assertEqual(house.row(name), plain_log_row(first, house.log(name)))
                        house.back()
                    self.assertEqual(house.log(name), log)
        self.assertGreater(clashes, 30)
        self.assertGreater(longest, 60)


class NothingShared(SoonCase):
    def test_a_row_that_is_handed_in_is_not_kept(self):
        row = [0, 1, 5]
        house = House()
        house.build("a", row)
        row.append(3)
        row[0] = 9
        self.assertEqual(house.row("a"), [0, 1, 5])
        self.assertEqual(house.deeds(), [("build", "a", (0, 1, 5))])
        house.walk("a", 1, 1)
        house.back()
        house.back()
        house.again()
        self.assertEqual(house.row("a"), [0, 1, 5])

    def test_rows_that_are_handed_in_stay_as_they_were(self):
        house = house_of(("build", "a", (0,)))
        for name in ("a", "b", "A"):
            for row in [[], [1, 2], [2, 2]] + long_rows():
                kept = list(row)
                try:
                    house.build(name, row)
                    house.walk(name, 2, 3)
                    house.back()
                    house.back()
                except CreelError:
                    pass
                self.assertEqual(row, kept)

    def test_told_lists_are_changed_and_the_same_is_told_again(self):
        house = house_of(("build", "a", (0, 1)), ("build", "b", ()), ("walk", "a", 2, 1), ("put", "a", 9))
        house.mirror("a")
        house.back()
        kept = all_of(house)
        for call in (
            house.roads, house.deeds, house.undone, lambda: house.row("a"), lambda: house.row("b"),
            lambda: house.log("a"), lambda: house.log("b"),
        ):
            told = call()
            right = list(told)
            told.append(("walk", 1, 1))
            told.reverse()
            self.assertEqual(call(), right)
            told.clear()
            self.assertEqual(call(), right)
            self.assertIsNot(call(), call())
        self.assertEqual(all_of(house), kept)
        house.again()
        house.late("a", 0, 1, 1)
        self.assertEqual(house.row("a"), plain_log_row([0, 1], house.log("a")))

    def test_a_told_row_is_changed_behind_a_build_and_a_settled_walk(self):
        house = house_of(("build", "a", (0, 1)))
        house.row("a").clear()
        self.assertEqual(house.row("a"), [0, 1])
        house.walk("a", 2, 1)
        house.row("a").clear()
        self.assertEqual(house.row("a"), [2, 3])
        house.put("a", 9)
        house.row("a").clear()
        self.assertEqual(house.row("a"), [2, 3, 9])
        house.mirror("a")
        house.row("a").clear()
        self.assertEqual(house.row("a"), [-9, -3, -2])
        house.lay("a", "a", 3)
        house.row("a").clear()
        self.assertEqual(len(house.row("a")), 6)

    def test_lists_of_a_twin_are_its_own(self):
        house = house_of(("build", "a", (0, 1)), ("walk", "a", 2, 1))
        twin = house.twin()
        for told in (twin.roads(), twin.row("a"), twin.log("a"), twin.deeds(), twin.undone()):
            told.clear()
        self.assertEqual(all_of(house), all_of(twin))
        self.assertEqual(house.row("a"), [2, 3])


class Kinds(unittest.TestCase):
    def test_entries_and_deeds_are_tuples_all_else_lists(self):
        house = house_of(
            ("build", "a", (0, 1)), ("walk", "a", 2, 1), ("put", "a", 9), ("take", "a", 9), ("mirror", "a"),
            ("lay", "a", "a", 2), ("late", "a", 0, 1, 1), ("strike", "a", 0), ("build", "b", ()), ("shut", "b"),
        )
        house.back()
        for told in (house.roads(), house.row("a"), house.log("a"), house.deeds(), house.undone()):
            self.assertIs(type(told), list)
        for told in house.log("a") + house.deeds() + house.undone() + [house.back(), house.again()]:
            self.assertIs(type(told), tuple)
        self.assertIs(type(house.deeds()[0][2]), tuple)
        self.assertIs(type(house.log("a")[4][1]), tuple)
        self.assertEqual({type(place) for place in house.row("a")}, {int})


if __name__ == "__main__":
    unittest.main()
