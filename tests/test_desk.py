"""Promise [26]: the desk, its deeds, questions, answers and refusals."""

import random
import unittest

from creelway.desk import Desk
from creelway.errors import CreelError
from creelway.house import House
from creelway.pages import deed_text, page_text, read_page
from tests.plain import (
    END, FAR, SoonCase, all_of, any_deed, many_deeds, plain_kin, plain_log_row, plain_rank_count, plain_refusal,
    plain_roads, plain_trains, plain_walk, sixty,
)

QUESTIONS = ("roads", "row a", "trains a", "log a", "load a 2", "ranked a", "kin a b")
NO_LINES = (
    "", " ", "  ", "\n", "roads ", " roads", "roads a", "Roads", "ROADS", "roads\n", "road", "row", "row ", "row  a",
    "row a ", " row a", "row A", "row a b", "row 1", "row abcdefghi", "row a\n", "row a 1", "trains", "trains a b",
    "trains A", "trains  a", "trains a ", "log", "log a b", "log A", "log a 1", "load", "load a", "load a b",
    "load a 1 2", "load 1 a", "load a 01", "load a -0", "load a +1", "load a 1.", "load a  1", "load a 1 ",
    "load a " + "9" * 61, "load A 1", "ranked", "ranked a b", "ranked A", "kin", "kin a", "kin a b c", "kin a B",
    "kin A b", "kin a 1", "kin  a b", "kin a  b", "kin a b ", "back ", " back", "back 1", "back a", "Back", "again ",
    "again a", "again 1", "back\n", "build", "build A", "build a 01", "walk a 1", "walk a 1 2 3", "put a", "put a x",
    "mirror", "mirror A", "lay a b", "late a 1 1", "strike a", "twin", "deeds", "undone", "none", "done", "no", "yes",
    "no line", "a", "1", "house", "~", "say roads", "row a\nrow a", "roads\nroads", "kin a\nb", "build a\nbuild b",
    "load a " + "1" * 30000, "x" * 40000,
)


def desk_of(*lines):
    desk = Desk()
    for line in lines:
        told = desk.say(line)
        assert told == "done", (line, told)
    return desk


class Deeds(SoonCase):
    def test_each_deed(self):
        desk = Desk()
        lines = (
            "build a 0 1 5", "build b", "build c 3 9", "walk a 2 3", "put a -4", "take a -4", "mirror a", "lay a c 2",
            "late a 1 1 -2", "strike a 0", "put b 7", "shut c",
        )
        for line in lines:
            self.assertEqual(desk.say(line=line), "done")
        self.assertEqual(page_text(desk.house), "".join(line + "\n" for line in lines))
        self.assertEqual(all_of(desk.house), all_of(read_page(page_text(desk.house))))

    def test_back_and_again_tell_the_deed(self):
        lines = ["build a -3 4 5", "build b", "walk a 2 -1", "lay a a 3", "late a 0 1 0", "strike a 1", "shut b"]
        desk = desk_of(*lines)
        for turn in range(2):
            for line in lines[::-1]:
                self.assertEqual(desk.say("back"), line)
            self.assertEqual(desk.say("back"), "no NothingLeft")
            for line in lines:
                self.assertEqual(desk.say("again"), line)
            self.assertEqual(desk.say("again"), "no NothingLeft")
        desk.say("back")
        self.assertEqual(desk.say("mirror a"), "done")
        self.assertEqual(desk.say("again"), "no NothingLeft")

    def test_every_refusal_by_its_class(self):
        most = "build most " + " ".join(map(str, sixty()[:59]))
        desk = desk_of("build a 0 1", "build b", most, "walk a 2 1", "put a 9")
        kept = all_of(desk.house)
        for line, word in (
            ("build a 1", "Taken"), ("build a 1 1", "Taken"), ("build c 2 1", "BadRow"), ("build c 1 1", "BadRow"),
            ("build c " + " ".join(map(str, range(61))), "TooMany"), ("shut c", "NoRoad"), ("walk c 0 1", "NoRoad"),
            ("walk a 0 1", "BadCreel"), ("walk a -1 1", "BadCreel"), ("put a 2", "Laid"), ("put a 9", "Laid"),
            ("take a 0", "NoStone"), ("mirror c", "NoRoad"), ("lay a c 9", "NoRoad"), ("lay c a 9", "NoRoad"),
            ("lay a b 0", "Bare"), ("lay b a 9", "Bare"), ("lay a most 0", "TooMany"), ("lay most a 99", "TooMany"),
            ("lay a a 2", "TooNear"), ("late a 3 0 1", "NoEntry"), ("late a -1 1 1", "NoEntry"),
            ("late a 0 0 1", "BadCreel"), ("late c 0 1 1", "NoRoad"), ("strike a 2", "NoEntry"),
            ("strike a -1", "NoEntry"), ("strike a 1", "NotWalk"), ("late a 0 1 6", "Clash"), ("again", "NothingLeft"),
            ("row c", "NoRoad"), ("trains c", "NoRoad"), ("log c", "NoRoad"), ("load c 2", "NoRoad"),
            ("load c 0", "NoRoad"), ("load a 0", "BadCreel"), ("load b -3", "BadCreel"), ("ranked c", "NoRoad"),
            ("kin a c", "NoRoad"), ("kin c a", "NoRoad"), ("kin c d", "NoRoad"), ("kin c c", "NoRoad"),
        ):
            self.assertEqual(desk.say(line), f"no {word}", line)
            self.assertEqual(all_of(desk.house), kept)
        for name in "cdefg":
            self.assertEqual(desk.say(f"build {name}"), "done")
        self.assertEqual(desk.say("build h"), "no Full")
        self.assertEqual(desk.say("build h 2 2"), "no BadRow")
        self.assertEqual(desk.say("put most 999"), "done")
        self.assertEqual(desk.say("put most 998"), "no TooMany")
        self.assertEqual(Desk().say("back"), "no NothingLeft")

    def test_a_struck_walk_that_clashes(self):
        desk = desk_of("build a 0", "walk a 1 3", "take a 3")
        self.assertEqual(desk.say("strike a 0"), "no Clash")
        self.assertEqual(desk.say("row a"), "none")


class Questions(SoonCase):
    def test_written_out(self):
        desk = desk_of("build a -3 4 5", "build b", "build zz 7", "walk a 2 1")
        for line, want in (
            ("roads", "a b zz"), ("row a", "-2 6 7"), ("row b", "none"), ("row zz", "7"), ("trains a", "1:-4 2:1"),
            ("trains b", "none"), ("trains zz", "1:5"), ("log a", "1"), ("log b", "0"), ("log zz", "0"),
            ("load a 1", "2"), ("load a 2", "3"), ("load a 99", "3"), ("load b 1", "0"), ("load zz 1", "1"),
            ("ranked a", "0"), ("ranked b", "0"), ("kin a a", "yes"), ("kin a b", "no"), ("kin b b", "yes"),
            ("kin zz a", "no"),
        ):
            self.assertEqual(desk.say(line), want, line)

    def test_none_to_tell(self):
        desk = Desk()
        self.assertEqual(desk.say("roads"), "none")
        for line in ("build a 1", "take a 1"):
            desk.say(line)
        self.assertEqual([desk.say(line) for line in ("row a", "trains a", "log a")], ["none", "none", "1"])
        desk.say("shut a")
        self.assertEqual(desk.say("roads"), "none")

    def test_ranked_and_kin(self):
        desk = desk_of("build a 0 1 2 10", "build b 12 14 15 16", "build c 0 1 2 4", "build d 0 1")
        self.assertEqual([desk.say(f"ranked {name}") for name in "abcd"], ["4", "0", "1", "0"])
        self.assertEqual(desk.say("kin a b"), "yes")
        self.assertEqual(desk.say("kin b a"), "yes")
        self.assertEqual(desk.say("kin a d"), "no")
        desk = desk_of("build a 0 2", "build b 0 9")
        self.assertEqual(desk.say("kin a b"), "no")

    def test_great_numbers(self):
        desk = desk_of("build a 0 1 2 10", f"walk a 3 -{END}")
        self.assertEqual(desk.say("row a"), f"{-3 * END} {1 - 3 * END} {2 - 3 * END} {10 - END}")
        self.assertEqual(desk.say("log a"), "1")
        self.assertEqual(desk.say("ranked a"), str(END + 4))
        self.assertEqual(desk.say(f"load a {END}"), "4")
        desk.say(f"build b 0 1 2 {FAR}")
        self.assertEqual(desk.say("ranked b"), str(FAR // 2 - 1))

    def test_names_that_are_words(self):
        desk = desk_of("build row 1", "build roads 2", "build back 3", "build kin 1 2")
        self.assertEqual(desk.say("roads"), "row roads back kin")
        self.assertEqual(desk.say("row row"), "1")
        self.assertEqual(desk.say("row roads"), "2")
        self.assertEqual(desk.say("kin kin row"), "no")
        self.assertEqual(desk.say("kin roads back"), "yes")

    def test_asking_changes_nothing(self):
        desk = desk_of("build a -3 4 5", "build b 1", "walk a 2 1", "mirror a")
        desk.say("back")
        kept = all_of(desk.house)
        for line in QUESTIONS + NO_LINES + ("row c", "load a 0", "kin a c"):
            first = desk.say(line)
            self.assertEqual(desk.say(line), first)
            self.assertEqual(all_of(desk.house), kept)
        self.assertEqual(desk.say("again"), "mirror a")


class Lines(SoonCase):
    def test_lines_of_no_form(self):
        for desk in (Desk(), desk_of("build a 1", "build b 2 3", "walk a 1 1")):
            kept = all_of(desk.house)
            for line in NO_LINES:
                self.assertEqual(desk.say(line), "no line", line[:100])
                self.assertEqual(all_of(desk.house), kept)

    def test_a_name_is_one_there_or_not(self):
        desk = desk_of("build a 1")
        for name in ("b", "abcdefgh", "zz"):
            for line in (f"row {name}", f"trains {name}", f"log {name}", f"load {name} 1", f"ranked {name}"):
                self.assertEqual(desk.say(line), "no NoRoad")
        for name in ("", "A", "abcdefghi", "a1", "a_", "`", "{"):
            for line in (f"row {name}", f"trains {name}", f"log {name}", f"load {name} 1", f"ranked {name}"):
                self.assertEqual(desk.say(line), "no line")
            for line in (f"kin {name} a", f"kin a {name}", f"shut {name}", f"build {name}"):
                self.assertEqual(desk.say(line), "no line")

    def test_a_creel_is_a_number(self):
        desk = desk_of("build a 1 2")
        for creel, want in (
            ("1", "1"), ("2", "2"), ("9" * 60, "2"), ("0", "no BadCreel"), ("-" + "9" * 60, "no BadCreel"),
            ("9" * 61, "no line"), ("-0", "no line"), ("02", "no line"), ("two", "no line"), ("", "no line"),
        ):
            self.assertEqual(desk.say(f"load a {creel}"), want)


class TheHouse(SoonCase):
    def test_it_is_the_very_one(self):
        desk = Desk()
        self.assertIs(type(desk.house), House)
        self.assertIs(desk.house, desk.house)
        house = desk.house
        self.assertEqual(all_of(house), ([], [], [], [], []))
        desk.say("build a 1 2")
        self.assertEqual(house.row("a"), [1, 2])
        house.walk("a", 2, 1)
        self.assertEqual(desk.say("row a"), "3 4")
        self.assertEqual(desk.say("back"), "walk a 2 1")
        self.assertEqual(house.undone(), [("walk", "a", 2, 1)])
        self.assertIs(desk.house, house)

    def test_two_desks_have_nothing_to_do_with_one_another(self):
        one, other = Desk(), Desk()
        self.assertIsNot(one.house, other.house)
        one.say("build a 1")
        self.assertEqual(other.say("roads"), "none")
        self.assertEqual(other.say("back"), "no NothingLeft")
        other.say("build a 2")
        one.say("back")
        self.assertEqual((one.say("roads"), other.say("row a")), ("none", "2"))


class StepByStep(SoonCase):
    def want(self, roads, line):
        """The answer to a question about roads that are gone through step by step."""
        word, *names = line.split(" ")
        if word == "roads":
            return " ".join(roads) or "none"
        if any(name not in roads for name in names if name.isalpha()):
            return "no NoRoad"
        row = plain_log_row(*roads[names[0]])
        if word == "row":
            return " ".join(map(str, row)) or "none"
        if word == "trains":
            return " ".join(f"{size}:{offset}" for size, offset in plain_trains(row)) or "none"
        if word == "log":
            return str(len(roads[names[0]][1]))
        if word == "load":
            return str(plain_walk(row, int(names[1]))[1]) if int(names[1]) > 0 else "no BadCreel"
        if word == "ranked":
            return str(plain_rank_count(row))
        return "yes" if plain_kin(row, plain_log_row(*roads[names[1]])) else "no"

    def any_question(self, source):
        name, other = source.choice("abcd"), source.choice("abcd")
        word = source.choice(("roads", "row", "trains", "log", "load", "ranked", "kin"))
        if word == "roads":
            return word
        more = {"load": f" {source.randint(0, 5)}", "kin": f" {other}"}.get(word, "")
        return f"{word} {name}{more}"

    def test_any_lines(self):
        seen = set()
        for seed in range(60):
            source = random.Random(seed)
            desk, done = Desk(), []
            for step in range(40):
                roads = plain_roads(done)
                deed = any_deed(source, roads, "abc")
                if deed[1].isalpha() and deed[1].islower() and len(deed[1]) <= 8:
                    refusal = plain_refusal(roads, deed)
                    self.assertEqual(desk.say(deed_text(deed)), f"no {refusal}" if refusal else "done")
                    if not refusal:
                        done.append(deed)
                roads = plain_roads(done)
                for trial in range(2):
                    line = self.any_question(source)
                    told = desk.say(line)
                    self.assertEqual(told, self.want(roads, line), line)
                    seen.add(line.split(" ")[0] + (" no" if told.startswith("no ") else ""))
            self.assertEqual(desk.house.deeds(), done)
        self.assertEqual(len(seen), 13)

    def test_a_page_said_line_by_line(self):
        for seed in range(10):
            deeds = many_deeds(25, seed)
            desk = desk_of(*[deed_text(deed) for deed in deeds])
            self.assertEqual(all_of(desk.house), all_of(read_page(page_text(desk.house))))
            self.assertEqual([desk.say("back") for deed in deeds], [deed_text(deed) for deed in deeds[::-1]])


class Kinds(unittest.TestCase):
    def test_every_answer_is_a_text(self):
        desk = desk_of("build a 1 2", "build b")
        for line in QUESTIONS + ("back", "again", "walk a 1 1", "walk a 0 1", "x", ""):
            self.assertIs(type(desk.say(line)), str)

    def test_no_refusal_comes_out(self):
        desk = Desk()
        for line in QUESTIONS + NO_LINES + ("back", "again", "walk a 0 0", "build a 2 1"):
            try:
                desk.say(line)
            except CreelError:
                self.fail(line)


if __name__ == "__main__":
    unittest.main()
