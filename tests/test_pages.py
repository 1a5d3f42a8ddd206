"""Promises [24] and [25]: deeds written and read, and whole houses as pages."""

import random
import unittest

from creelway.errors import BadText, NothingLeft
from creelway.house import House
from creelway.pages import deed_text, page_text, read_deed, read_page
from tests.plain import (
    END, FAR, SoonCase, all_of, any_deed, many_deeds, plain_log_row, plain_refusal, plain_roads, sixty,
)

WRITTEN = (
    (("build", "a", (-3, 4, 5)), "build a -3 4 5"),
    (("build", "a", ()), "build a"),
    (("build", "abcdefgh", (0,)), "build abcdefgh 0"),
    (("build", "a", (5, 5, -9)), "build a 5 5 -9"),
    (("build", "build", (1,)), "build build 1"),
    (("shut", "z"), "shut z"),
    (("shut", "shut"), "shut shut"),
    (("walk", "a", 2, 3), "walk a 2 3"),
    (("walk", "a", 0, -3), "walk a 0 -3"),
    (("walk", "a", -1, 0), "walk a -1 0"),
    (("put", "a", -7), "put a -7"),
    (("take", "road", 10), "take road 10"),
    (("mirror", "a"), "mirror a"),
    (("lay", "a", "b", 9), "lay a b 9"),
    (("lay", "a", "a", -9), "lay a a -9"),
    (("late", "a", 0, 2, -3), "late a 0 2 -3"),
    (("late", "a", -4, 0, 0), "late a -4 0 0"),
    (("strike", "a", 12), "strike a 12"),
    (("put", "a", END), "put a " + "9" * 60),
    (("put", "a", -END), "put a -" + "9" * 60),
    (("put", "a", 10 ** 59), "put a 1" + "0" * 59),
)
WRONG_NUMBERS = (
    "", "-", "--1", "-0", "+1", "+0", "00", "01", "-01", "-00", "1.", "1.0", "1e3", "1_0", "0x1", "1-", "1-2", " 1",
    "1 ", "a", "one", "9" * 61, "-" + "9" * 61, "1" + "0" * 60, "0" * 60, "1\n", "\n1", "1\n2", ",1", "(1)", "- 1",
)
WRONG_NAMES = ("", "A", "aB", "a1", "1", "abcdefghi", "a-b", "a_b", "a\n", "\na", "`", "{", "-", "a.", "a" * 60)
WRONG_TEXTS = (
    "", " ", "  ", "\n", "build", "build ", " build a", "build a ", "build  a", "build a  1", "build a 1  2",
    "build a 1 ", "build a 1 2\n", "build a\n", "\nbuild a", "build a\n1", "build\na", "Build a", "BUILD a", "build 1",
    "build a b", "build a b 1", "build a 1 b", "build a 1,2", "build a [1]", "builda", "builds a",
    "shut", "shut a b", "shut a 1", "shut 1", "shut  a", "shut a ", "walk", "walk a", "walk a 2", "walk a 2 3 4",
    "walk 2 3", "walk a b 3", "walk 2 a 3", "walk a 2 3 ", " walk a 2 3", "walk a  2 3", "walk a 2\n3",
    "put", "put a", "put 1", "put a 1 2", "put a b", "take", "take a", "take a 1 2", "mirror", "mirror a b",
    "mirror a 1", "mirror 1", "lay", "lay a", "lay a b", "lay a 1", "lay a 1 b", "lay a b 1 2", "lay a b c",
    "lay 1 a b", "lay a b c 1",
    "late", "late a", "late a 1", "late a 1 2", "late a 1 2 3 4", "late a b 1 2", "late 1 a 2 3", "strike", "strike a",
    "strike a 1 2", "strike 1", "strike a b", "back", "again", "roads", "row a", "trains a", "log a", "load a 1",
    "ranked a", "kin a b", "twin", "none", "done", "a", "1", "say a", "walk\ta 2 3", "walk a 2 3\nwalk a 2 3", "~",
)


def wrong_texts():
    """Texts that are nearly of a deed's form."""
    texts = list(WRONG_TEXTS)
    for number in WRONG_NUMBERS:
        texts += [f"put a {number}", f"walk a {number} 1", f"walk a 1 {number}", f"lay a b {number}"]
        texts += [f"late a {number} 1 1", f"late a 1 1 {number}", f"strike a {number}", f"take a {number}"]
        texts += [f"build a {number}", f"build a {number} 3", f"build a 3 {number}"]
    for name in WRONG_NAMES:
        texts += [f"build {name}", f"build {name} 1 2", f"shut {name}", f"walk {name} 1 1", f"put {name} 1"]
        texts += [f"take {name} 1", f"mirror {name}", f"lay {name} b 1", f"lay a {name} 1", f"late {name} 0 1 1"]
        texts += [f"strike {name} 0"]
    return texts


def house_of(deeds):
    house = House()
    for word, *rest in deeds:
        getattr(house, word)(*rest)
    return house


class Deeds(SoonCase):
    def test_written(self):
        for deed, text in WRITTEN:
            self.assertEqual(deed_text(deed=deed), text)

    def test_read(self):
        for deed, text in WRITTEN:
            self.assertEqual(read_deed(text=text), deed)

    def test_any_deeds_written_and_read(self):
        source = random.Random(41)
        for trial in range(2000):
            deed = any_deed(source, {})
            if deed[1].isalpha() and deed[1].islower() and len(deed[1]) <= 8:
                text = deed_text(deed)
                self.assertEqual(read_deed(text), deed)
                self.assertNotIn("\n", text)

    def test_what_the_numbers_mean_is_not_looked_at(self):
        places = [7] * 150 + [-END, END]
        self.assertEqual(read_deed("build a " + " ".join(map(str, places))), ("build", "a", tuple(places)))
        for text, deed in (("walk a -5 0", ("walk", "a", -5, 0)), ("late a -1 0 0", ("late", "a", -1, 0, 0))):
            self.assertEqual(read_deed(text), deed)

    def test_a_long_text(self):
        places = list(range(7000))
        text = "build a " + " ".join(map(str, places))
        self.assertLess(len(text), 40000)
        self.assertEqual(read_deed(text), ("build", "a", tuple(places)))
        for wrong in (text + " ", text + " x", text.replace(" 3 ", "  3 "), "1" * 40000, "put a " + "1" * 39000):
            with self.assertRaises(BadText) as told:
                read_deed(wrong)
            self.assertEqual(told.exception.at, 0)

    def test_texts_that_are_no_deed(self):
        for text in wrong_texts():
            with self.subTest(text=text):
                with self.assertRaises(BadText) as told:
                    read_deed(text)
                self.assertEqual(told.exception.at, 0)

    def test_sixty_figures_and_sixty_one(self):
        for figures in ("1" * 60, "9" * 60, "1" + "0" * 59):
            for minus in ("", "-"):
                self.assertEqual(read_deed(f"put a {minus}{figures}"), ("put", "a", int(minus + figures)))
                with self.assertRaises(BadText):
                    read_deed(f"put a {minus}{figures}0")

    def test_kinds(self):
        for deed, text in WRITTEN:
            told = read_deed(text)
            self.assertIs(type(deed_text(deed)), str)
            self.assertIs(type(told), tuple)
            self.assertEqual([type(part) for part in told], [type(part) for part in deed])
        self.assertEqual([type(place) for place in read_deed("build a 1 2")[2]], [int, int])


class Pages(SoonCase):
    def refused(self, text, at):
        with self.subTest(text=text[:200]):
            with self.assertRaises(BadText) as told:
                read_page(text)
            self.assertEqual(told.exception.at, at)

    def test_written_out(self):
        house = House()
        self.assertEqual(page_text(house=house), "")
        house.build("a", [-3, 4, 5])
        house.build("b", [])
        house.walk("a", 2, -1)
        house.put("b", 0)
        self.assertEqual(page_text(house), "build a -3 4 5\nbuild b\nwalk a 2 -1\nput b 0\n")
        house.back()
        self.assertEqual(page_text(house), "build a -3 4 5\nbuild b\nwalk a 2 -1\n")

    def test_the_text_without_signs(self):
        house = read_page(text="")
        self.assertIsInstance(house, House)
        self.assertEqual(all_of(house), ([], [], [], [], []))

    def test_written_and_read(self):
        for seed in range(25):
            house = house_of(many_deeds(30, seed))
            for turn in range(seed % 5):
                house.back()
            text = page_text(house)
            read = read_page(text)
            self.assertIsInstance(read, House)
            self.assertEqual(all_of(read)[:4], all_of(house)[:4])
            self.assertEqual(read.undone(), [])
            with self.assertRaises(NothingLeft):
                read.again()
            self.assertEqual(page_text(read), text)

    def test_a_read_house_goes_on_and_back(self):
        deeds = many_deeds(30, 77)
        house = read_page(page_text(house_of(deeds)))
        for many in range(len(deeds), 0, -1):
            self.assertEqual(house.back(), deeds[many - 1])
            self.assertEqual(house.roads(), list(plain_roads(deeds[:many - 1])))
        with self.assertRaises(NothingLeft):
            house.back()
        self.assertEqual(house.undone(), deeds)

    def test_writing_changes_nothing(self):
        house = house_of(many_deeds(20, 5))
        house.back()
        kept = all_of(house)
        self.assertEqual(page_text(house), page_text(house))
        self.assertEqual(all_of(house), kept)

    def test_the_first_line_that_is_no_deed(self):
        for wrong in [text for text in wrong_texts() if "\n" not in text]:
            self.refused(f"{wrong}\n", 0)
            self.refused(f"build q\n{wrong}\n", 1)
            self.refused(f"build q\nmirror q\n{wrong}\nmirror q\n{wrong}\n", 2)

    def test_the_first_line_whose_deed_is_refused(self):
        for wrong in (
            "build q", "build r 2 2", "build r " + " ".join(map(str, range(61))), "shut r", "walk q 0 1", "put q 4",
            "take q 5", "lay q q 0", "lay q r 5", "late q 3 1 1", "late q 0 0 1", "late q 0 1 1", "strike q 0",
            "strike q 9", "mirror r",
        ):
            self.refused(f"build q 4\nput q 5\ntake q 5\n{wrong}\n", 3)
            self.refused(f"build q 4\nput q 5\ntake q 5\n{wrong}\nnonsense\n", 3)
            self.refused(f"build q 4\nput q 5\ntake q 5\n{wrong}\nmirror q", 3)
        self.refused("".join(f"build {name}\n" for name in "abcdefghi"), 8)

    def test_a_last_line_without_a_line_feed(self):
        for last in ("mirror q", "mirror r", "nonsense", " ", "build q"):
            self.refused(f"build q\n{last}", 1)
            self.refused(f"build q\nmirror q\n{last}", 2)
            self.refused(last, 0)
            self.refused(f"build q\nwalk q 0 1\n{last}", 1)
            self.refused(f"\n{last}", 0)

    def test_an_empty_line(self):
        for text, at in (("\n", 0), ("\n\n", 0), ("build q\n\n", 1), ("build q\n\nmirror q\n", 1), ("\nbuild q\n", 0)):
            self.refused(text, at)

    def test_any_pages_with_any_deeds(self):
        seen = {True: 0, False: 0}
        for seed in range(250):
            source = random.Random(seed)
            deeds, at = [], None
            while len(deeds) < 25 and at is None:
                roads = plain_roads(deeds)
                deed = any_deed(source, roads, "abc")
                if plain_refusal(roads, deed):
                    if source.random() < 0.05:
                        at = len(deeds)
                        deeds.append(deed)
                else:
                    deeds.append(deed)
            text = "".join(deed_text(deed) + "\n" for deed in deeds)
            seen[at is None] += 1
            if at is not None:
                self.refused(text, at)
                self.refused(text + "mirror a\n", at)
                continue
            house, roads = read_page(text), plain_roads(deeds)
            self.assertEqual((house.deeds(), house.roads()), (deeds, list(roads)))
            for name, (first, log) in roads.items():
                self.assertEqual((house.row(name), house.log(name)), (plain_log_row(first, log), log))
        self.assertGreater(min(seen.values()), 20)

    def test_two_houses_of_one_page_have_nothing_to_do_with_one_another(self):
        text = "build a 1 2\nwalk a 2 1\n"
        one, other = read_page(text), read_page(text)
        one.mirror("a")
        one.back()
        one.back()
        self.assertEqual(all_of(other), (["a"], [[3, 4]], [[("walk", 2, 1)]], one.deeds() + [("walk", "a", 2, 1)], []))


class LongPages(SoonCase):
    def long_text(self, start, lines, most=40000):
        text = start
        while len(text) + len(lines) <= most:
            text += lines
        return text

    def hold_page(self, lines):
        """A page of a road of 59 stones and then of these lines over and over is read, and written as it was."""
        text = self.long_text("build a " + " ".join(str(place) for place in sixty()[:59]) + "\n", lines)
        house = read_page(text)
        self.assertEqual(page_text(house), text)
        self.assertEqual(len(house.deeds()), text.count("\n"))

    def test_long_pages_of_walks_and_mirrors(self):
        for lines in ("walk a 3 5\n", "mirror a\n", f"walk a 7 {END}\nwalk a 7 -{END}\n", "walk a 3 5\nmirror a\n"):
            self.hold_page(lines)

    def test_long_pages_of_stones_and_roads(self):
        for lines in (
            "walk a 2 7\nput a -999999\ntake a -999999\n", f"put a {END}\ntake a {END}\n", "build b\nshut b\n",
        ):
            self.hold_page(lines)

    def test_long_pages_of_late_walks(self):
        for lines in ("late a 0 2 1\n", "late a 0 2 1\nstrike a 0\n"):
            self.hold_page(lines)

    def test_walks_struck_and_found_out_late_in_a_log_of_200_entries(self):
        start = "build a 0 1 5\n" + "walk a 2 90\nput a -999999\ntake a -999999\nmirror a\n" * 50
        house = read_page(self.long_text(start, "late a 0 2 1\nstrike a 0\n", 15000))
        self.assertEqual(len(house.log("a")), 200)

    def test_a_long_page_with_a_bad_line_at_its_end(self):
        text = self.long_text("build a 1 2 9\n", f"walk a 2 {FAR}\n")
        for last in ("walk a 0 1\n", "mirror a", "\n"):
            with self.assertRaises(BadText) as told:
                read_page(text + last)
            self.assertEqual(told.exception.at, text.count("\n"))


class Kinds(unittest.TestCase):
    def test_kinds(self):
        self.assertIs(type(page_text(House())), str)
        self.assertIs(type(read_page("")), House)
        self.assertIs(type(read_page("build a\n")), House)


if __name__ == "__main__":
    unittest.main()
