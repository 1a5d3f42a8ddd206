"""Deeds and whole houses, written and read."""

from creelway.errors import BadText, CreelError
from creelway.house import House
from creelway.words import read_parts

# How many names and then how many numbers stand behind the word; a road is built with any number of places.
FORMS = {
    "shut": (1, 0),
    "walk": (1, 2),
    "put": (1, 1),
    "take": (1, 1),
    "mirror": (1, 0),
    "lay": (2, 1),
    "late": (1, 3),
    "strike": (1, 1),
}


def deed_text(deed):
    """The deed, written."""
    parts = []
    for part in deed:
        if isinstance(part, tuple):
            parts.extend(part)
        else:
            parts.append(part)
    return " ".join([str(part) for part in parts])


def deed_in(text):
    """The deed that the text tells, or None if it tells none."""
    word, *parts = text.split(" ")
    if word == "build":
        things = read_parts(parts, 1, max(len(parts) - 1, 0))
        return None if things is None else (word, things[0], things[1:])
    if word not in FORMS:
        return None
    names, numbers = FORMS[word]
    things = read_parts(parts, names, numbers)
    return None if things is None else (word,) + things


def read_deed(text):
    """The deed that the text tells."""
    deed = deed_in(text)
    if deed is None:
        raise BadText(0)
    return deed


def page_text(house):
    """The standing deeds of the house, a line each."""
    return "".join([deed_text(deed) + "\n" for deed in house.deeds()])


def read_page(text):
    """A house that has done the deeds of the page."""
    house = House()
    *lines, rest = text.split("\n")
    for at, line in enumerate(lines):
        try:
            house.do(read_deed(line))
        except CreelError:
            raise BadText(at) from None
    if rest != "":
        raise BadText(len(lines))
    return house
