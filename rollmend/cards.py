"""Cards, the sums of an elder text's blocks, and the letter that is found by them."""

from rollmend.checks import check_key, check_size, check_text, is_from
from rollmend.errors import NoCards
from rollmend.letters import plain
from rollmend.sums import first_sum, rolled_sums, second_sum


def cards(key, size, elder):
    check_key(key)
    check_size(size)
    check_text(elder)
    return [card_of(key, elder[place:place + size]) for place in range(0, len(elder) - size + 1, size)]


def found_by(key, size, told, newer):
    check_key(key)
    check_size(size)
    check_cards(told)
    check_text(newer)
    firsts = rolled_sums(key, size, newer)
    earliest = earliest_blocks(told)
    pieces = []
    place = 0
    awaited = None
    while place < len(newer):
        block = None
        if place < len(firsts) and firsts[place] in earliest:
            # The second sum can't be rolled on, so it is reckoned only where a card has the first one.
            card = (firsts[place], second_sum(key, newer[place:place + size]))
            block = fitting_block(told, earliest, awaited, card)
        if block is None:
            pieces.append(("signs", newer[place]))
            awaited = None
            place += 1
        else:
            pieces.append(("copy", block * size, size))
            awaited = block + 1
            place += size
    return plain(pieces)


def card_of(key, block):
    return (first_sum(key, block), second_sum(key, block))


def check_cards(thing):
    if not isinstance(thing, list) or not all([is_card(card) for card in thing]):
        raise NoCards("cards are a list of tuples, each of a tuple of two whole numbers and a whole number")


def is_card(thing):
    if not isinstance(thing, tuple) or len(thing) != 2:
        return False
    first = thing[0]
    if not isinstance(first, tuple) or len(first) != 2:
        return False
    return is_from(first[0], 0) and is_from(first[1], 0) and is_from(thing[1], 0)


def earliest_blocks(told):
    earliest = {}
    for block, card in enumerate(told):
        seconds = earliest.setdefault(card[0], {})
        seconds.setdefault(card[1], block)
    return earliest


def fitting_block(told, earliest, awaited, card):
    if awaited is not None and awaited < len(told) and told[awaited] == card:
        return awaited
    return earliest[card[0]].get(card[1])
