"""Letters: what they make of an elder text, what they cost, their plain form, one behind another."""

from rollmend.checks import check_text, is_from, is_text
from rollmend.errors import Beyond, NoLetter

MOST_PIECES = 2000


def checked(letter):
    check_letter(letter)
    return list(letter)


def mended(elder, letter):
    check_text(elder)
    check_letter(letter)
    return "".join([made_by_piece(elder, piece) for piece in letter])


def cost(letter):
    check_letter(letter)
    return sum([piece_cost(piece) for piece in letter])


def plain(letter):
    check_letter(letter)
    return joined(letter)


def behind(one, other):
    check_letter(one)
    check_letter(other)
    ends = piece_ends(one)
    pieces = []
    for piece in other:
        if is_copy(piece):
            pieces.extend(stretch_pieces(one, ends, piece[1], piece[2]))
        else:
            pieces.append(piece)
    return joined(pieces)


def check_letter(thing):
    if not is_letter(thing):
        raise NoLetter("a letter is a list of at most 2000 pieces, each a copy or signs")


def is_letter(thing):
    if not isinstance(thing, list) or len(thing) > MOST_PIECES:
        return False
    return all([is_piece(piece) for piece in thing])


def is_piece(thing):
    if not isinstance(thing, tuple) or len(thing) == 0 or not isinstance(thing[0], str):
        return False
    if is_copy(thing):
        return len(thing) == 3 and is_from(thing[1], 0) and is_from(thing[2], 1)
    if thing[0] != "signs" or len(thing) != 2:
        return False
    return is_text(thing[1]) and len(thing[1]) > 0


def is_copy(piece):
    return piece[0] == "copy"


def made_by_piece(elder, piece):
    if not is_copy(piece):
        return piece[1]
    end = piece[1] + piece[2]
    if end > len(elder):
        raise Beyond("a copy goes beyond the end of the elder text")
    return elder[piece[1]:end]


def piece_cost(piece):
    return 1 if is_copy(piece) else len(piece[1])


def piece_length(piece):
    return piece[2] if is_copy(piece) else len(piece[1])


def joined(pieces):
    # Unchecked, since pieces put together may be more, and longer, than those of a letter that is handed in.
    letter = []
    texts = []
    for piece in pieces:
        if not is_copy(piece):
            # Kept till the run ends: adding text to text at each piece would be slow for long runs.
            texts.append(piece[1])
            continue
        add_signs(letter, texts)
        texts = []
        add_copy(letter, piece)
    add_signs(letter, texts)
    return letter


def add_signs(letter, texts):
    if len(texts) > 0:
        letter.append(("signs", "".join(texts)))


def add_copy(letter, piece):
    if len(letter) > 0 and goes_on(letter[-1], piece):
        letter[-1] = ("copy", letter[-1][1], letter[-1][2] + piece[2])
    else:
        letter.append(piece)


def goes_on(piece, later):
    return is_copy(piece) and piece[1] + piece[2] == later[1]


def piece_ends(letter):
    ends = []
    end = 0
    for piece in letter:
        end += piece_length(piece)
        ends.append(end)
    return ends


def stretch_pieces(letter, ends, place, many):
    end = place + many
    if len(ends) == 0 or end > ends[-1]:
        raise Beyond("a copy goes beyond the end of what the first letter makes")
    first = piece_at(ends, place)
    last = piece_at(ends, end - 1)
    pieces = letter[first:last + 1]
    # The tail is cut ahead of the head, so that both hold where the stretch lies within one piece.
    pieces[-1] = trimmed(pieces[-1], 0, ends[last] - end)
    begin = ends[first] - piece_length(letter[first])
    pieces[0] = trimmed(pieces[0], place - begin, 0)
    return pieces


def piece_at(ends, place):
    low = 0
    high = len(ends) - 1
    while low < high:
        middle = (low + high) // 2
        if ends[middle] > place:
            high = middle
        else:
            low = middle + 1
    return low


def trimmed(piece, head, tail):
    if is_copy(piece):
        return ("copy", piece[1] + head, piece[2] - head - tail)
    return ("signs", piece[1][head:len(piece[1]) - tail])
