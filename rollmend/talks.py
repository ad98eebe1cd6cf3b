"""What two hands come to that tell each other sums, a letter and, if that fails, all signs."""

from rollmend.cards import cards, found_by
from rollmend.letters import mended
from rollmend.sums import whole_sum


def talk(key, size, elder, newer):
    # The hands refuse what is wrong themselves, in the order in which it is handed in.
    letter = found_by(key, size, cards(key, size, elder), newer)
    made = mended(elder, letter)
    # The elder hand knows no more of the newer text than its whole sum, so what is made may be another text.
    if whole_sum(key, made) == whole_sum(key, newer):
        return ("mended", made, letter)
    return ("told", newer, all_signs(newer))


def all_signs(text):
    return [("signs", text)] if len(text) > 0 else []
