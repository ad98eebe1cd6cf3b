"""The least letter between two texts, and the one that leads back."""

from rollmend.checks import check_text
from rollmend.letters import mended, plain


def least(elder, newer):
    check_text(elder)
    check_text(newer)
    return least_between(elder, newer)


def back(elder, letter):
    return least_between(mended(elder, letter), elder)


def least_between(elder, newer):
    # Unchecked, since what a letter makes may have more signs than a text that is handed in.
    pieces = []
    place = 0
    while place < len(newer):
        piece = longest_copy(elder, newer, place)
        if piece is None:
            pieces.append(("signs", newer[place]))
            place += 1
        else:
            pieces.append(piece)
            place += piece[2]
    return plain(pieces)


def longest_copy(elder, newer, place):
    longest = None
    many = 0
    begin = -1
    while place + many < len(newer):
        # At an earlier place not even the stretch that is known by now stands, so no longer one does.
        begin = elder.find(newer[place:place + many + 1], begin + 1)
        if begin < 0:
            break
        many = alike(elder, begin, newer, place, many)
        longest = ("copy", begin, many)
    return longest


def alike(elder, begin, newer, place, many):
    most = min(len(elder) - begin, len(newer) - place)
    while many < most and elder[begin + many] == newer[place + many]:
        many += 1
    return many
