"""What counts as a whole number, a text, a key or a size, and the refusal of what does not."""

from rollmend.errors import NoKey, NoSigns, NoSize

MOST_SIGNS = 2000
BLANK = 32
# Known by its number, since no text of the program holds the sign itself.
PERCENT = 37
TILDE = 126
MOST_FEW = 999
MOST_TIMES = 999
MOST_MANY = 99999
MOST_SIZE = 200


def is_whole(thing):
    # For Python True and False are numbers, too; here they are none.
    return isinstance(thing, int) and not isinstance(thing, bool)


def is_from(thing, lowest):
    return is_whole(thing) and thing >= lowest


def is_within(thing, lowest, highest):
    return is_from(thing, lowest) and thing <= highest


def is_sign(sign):
    worth = ord(sign)
    return BLANK <= worth <= TILDE and worth != PERCENT


def is_text(thing):
    if not isinstance(thing, str) or len(thing) > MOST_SIGNS:
        return False
    return all([is_sign(sign) for sign in thing])


def is_key(thing):
    if not isinstance(thing, tuple) or len(thing) != 3:
        return False
    if not is_within(thing[0], 1, MOST_FEW):
        return False
    return is_within(thing[1], 1, MOST_TIMES) and is_within(thing[2], 1, MOST_MANY)


def check_text(thing):
    if not is_text(thing):
        raise NoSigns("a text has at most 2000 signs, from the blank to the tilde, none the percent sign")


def check_key(thing):
    if not is_key(thing):
        raise NoKey("a key is a tuple of three whole numbers, up to 999, 999 and 99999, each from 1 on")


def check_size(thing):
    if not is_within(thing, 1, MOST_SIZE):
        raise NoSize("a size is a whole number from 1 to 200")
