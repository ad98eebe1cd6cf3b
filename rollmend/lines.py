"""Letters written in lines, and read back."""

from rollmend.errors import NoLines
from rollmend.letters import check_letter, is_copy, is_letter

FIGURES = "0123456789"
MOST_FIGURES = 300


def shown(letter):
    check_letter(letter)
    return "".join([line_of(piece) for piece in letter])


def read(text):
    if not isinstance(text, str):
        raise NoLines("lines are a text")
    rows = text.split("\n")
    if rows.pop() != "":
        raise NoLines("each line is ended by a line end")
    letter = [piece_of(row) for row in rows]
    if not is_letter(letter):
        raise NoLines("the lines tell no letter")
    return letter


def line_of(piece):
    if not is_copy(piece):
        return "signs " + piece[1] + "\n"
    return "copy " + written(piece[1]) + " " + written(piece[2]) + "\n"


def written(number):
    # In parts of 64 figures, since Python's own str refuses numbers of some thousand figures.
    parts = []
    bound = 10 ** 64
    while number >= bound:
        parts.append(str(number % bound).zfill(64))
        number = number // bound
    parts.append(str(number))
    parts.reverse()
    return "".join(parts)


def piece_of(row):
    if row.startswith("signs "):
        return ("signs", row[len("signs "):])
    words = row.split(" ")
    if len(words) != 3 or words[0] != "copy":
        raise NoLines("a line is copy with two numbers, or signs with a text")
    return ("copy", number_of(words[1]), number_of(words[2]))


def number_of(word):
    if not is_number(word):
        raise NoLines("a number has 1 to 300 figures, and none but 0 itself begins with 0")
    return int(word)


def is_number(word):
    if len(word) == 0 or len(word) > MOST_FIGURES:
        return False
    if word[0] == "0" and len(word) > 1:
        return False
    # Asked one by one, since isdigit takes figures of other scripts, too.
    return all([sign in FIGURES for sign in word])
