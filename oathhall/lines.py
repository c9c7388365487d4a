"""Books as texts, one for each line, and books read from such texts."""

from oathhall.books import is_sound
from oathhall.errors import NoBook, NoLine


def shown_line(line):
    word = line[0]
    bargain = line[1]
    return f"{word} {bargain}"


def shown(book):
    return [shown_line(line) for line in book]


def is_number(figures):
    # The figures are named since isdigit takes those of other scripts too.
    if figures == "" or figures.strip("0123456789") != "":
        return False
    return figures == "0" or not figures.startswith("0")


def read_line(text):
    parts = text.split(" ")
    if len(parts) != 2:
        raise NoLine("not a word, a blank and a bargain")
    if parts[0] not in ("open", "yes", "no", "bound", "off"):
        raise NoLine("not a word of a book")
    if not is_number(parts[1]):
        raise NoLine("not a bargain in figures")
    return (parts[0], int(parts[1]))


def read(lines):
    book = [read_line(text) for text in lines]
    if not is_sound(book):
        raise NoBook("lines that can be no house's book")
    return book
