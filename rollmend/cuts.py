"""Texts cut where the signs themselves tell it, and the letter that is found by such cuts."""

from rollmend.checks import check_key, check_size, check_text
from rollmend.letters import plain
from rollmend.sums import rolled_sums


def cut_places(key, window, part, text):
    check_key(key)
    check_size(window)
    check_size(part)
    check_text(text)
    firsts = rolled_sums(key, window, text)
    return [begin + window for begin, found in enumerate(firsts) if (found[0] + found[1]) % part == 0]


def stretches(key, window, part, text):
    found = []
    begin = 0
    for end in cut_places(key, window, part, text):
        found.append(text[begin:end])
        begin = end
    # A cut behind the last sign leaves nothing over.
    if begin < len(text):
        found.append(text[begin:])
    return found


def found_by_cuts(key, window, part, elder, newer):
    places = first_places(stretches(key, window, part, elder))
    return plain([piece_for(places, stretch) for stretch in stretches(key, window, part, newer)])


def first_places(texts):
    places = {}
    place = 0
    for text in texts:
        places.setdefault(text, place)
        place += len(text)
    return places


def piece_for(places, stretch):
    if stretch in places:
        return ("copy", places[stretch], len(stretch))
    return ("signs", stretch)
