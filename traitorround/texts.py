"""Numbers and paths as texts."""

from traitorround.errors import NoRow

FIGURES = "0123456789"
MOST_FIGURES = 60


def is_number(text):
    figures = text[1:] if text.startswith("-") else text
    if not 1 <= len(figures) <= MOST_FIGURES or not all([sign in FIGURES for sign in figures]):
        return False
    return text == "0" or not figures.startswith("0")


def read_word(text):
    if not isinstance(text, str) or not is_number(text):
        raise NoRow(text)
    return int(text)


def read_path(text):
    if not isinstance(text, str) or not all([is_number(part) for part in text.split(".")]):
        raise NoRow(text)
    return tuple([int(part) for part in text.split(".")])


def show_path(path):
    return ".".join([str(hand) for hand in path])
