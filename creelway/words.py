"""The parts of lines: names of roads and numbers as they are written."""

LETTERS = "abcdefghijklmnopqrstuvwxyz"
FIGURES = "0123456789"
MOST_LETTERS = 8
MOST_FIGURES = 60


def is_name(text):
    """Whether a road can have this name: 1 to 8 small letters."""
    return is_made_of(text, LETTERS, MOST_LETTERS)


def is_number(text):
    """Whether the text is a number: one to sixty figures, a minus ahead if below nought, and no needless nought."""
    figures = text.removeprefix("-")
    if not is_made_of(figures, FIGURES, MOST_FIGURES):
        return False
    return figures[0] != "0" or text == "0"


def is_made_of(text, signs, most):
    """Whether the text has these signs alone, from one on to the most told."""
    return text != "" and len(text) <= most and all([sign in signs for sign in text])


def read_parts(parts, names, numbers):
    """What so many names and then so many numbers tell, as a tuple; None if the parts are something else."""
    if len(parts) != names + numbers:
        return None
    if not all([is_name(part) for part in parts[:names]]):
        return None
    if not all([is_number(part) for part in parts[names:]]):
        return None
    return tuple(parts[:names]) + tuple([int(part) for part in parts[names:]])
