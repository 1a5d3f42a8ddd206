"""The desk: a house that is told lines and asked by lines."""

from creelway.carriers import carried
from creelway.errors import CreelError
from creelway.far import rank_count
from creelway.house import House
from creelway.kin import kin
from creelway.pages import deed_in, deed_text
from creelway.trains import trains
from creelway.words import read_parts


# How many names and then how many numbers stand behind the word.
FORMS = {
    "back": (0, 0),
    "again": (0, 0),
    "roads": (0, 0),
    "row": (1, 0),
    "trains": (1, 0),
    "log": (1, 0),
    "load": (1, 1),
    "ranked": (1, 0),
    "kin": (2, 0),
}


class Desk:
    """A desk with a house of its own."""

    def __init__(self):
        self.house = House()

    def say(self, line):
        """The answer to a line."""
        try:
            return answer(self.house, line)
        except CreelError as refusal:
            return f"no {refusal.word}"


def answer(house, line):
    """What a deed, or anything else that can be said, comes to."""
    deed = deed_in(line)
    if deed is not None:
        house.do(deed)
        return "done"
    word, *parts = line.split(" ")
    if word not in FORMS:
        return "no line"
    names, numbers = FORMS[word]
    things = read_parts(parts, names, numbers)
    if things is None:
        return "no line"
    if names == 0:
        return of_house(house, word)
    return of_road(house, word, things)


def of_house(house, word):
    """What is told of the whole house."""
    if word == "back":
        return deed_text(house.back())
    if word == "again":
        return deed_text(house.again())
    return listed(house.roads())


def of_road(house, word, things):
    """What is told of a road, or of two."""
    row = house.row(things[0])
    if word == "row":
        return listed(row)
    if word == "trains":
        return listed([f"{size}:{offset}" for size, offset in trains(row)])
    if word == "log":
        return str(len(house.log(things[0])))
    if word == "load":
        return str(carried(row, things[1]))
    if word == "ranked":
        return str(rank_count(row))
    return "yes" if kin(row, house.row(things[1]))[0] == "walks" else "no"


def listed(things):
    """Several things with a blank between."""
    if not things:
        return "none"
    return " ".join([str(thing) for thing in things])
