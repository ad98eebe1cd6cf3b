"""What several tests need: wrong things of every kind, and the document's words done the slow way."""

import itertools

PERCENT = "\x25"
ALL_SIGNS = "".join(chr(number) for number in range(32, 127) if number != 37)
# 2000 signs, not repeating with any size that the tests use.
LONG = "".join(ALL_SIGNS[(7 * k + k * k // 11) % len(ALL_SIGNS)] for k in range(2000))

GOOD_KEY = (97, 31, 9973)
SMALLEST_KEY = (1, 1, 1)
GREATEST_KEY = (999, 999, 99999)
KEYS = [
    GOOD_KEY, SMALLEST_KEY, GREATEST_KEY,
    (999, 1, 1), (1, 999, 1), (1, 1, 99999), (2, 3, 5), (10, 999, 100), (999, 1, 99999),
]


class Anything:
    """Calls itself equal to everything; no refusal may be led astray by it."""

    def __eq__(self, other):
        return True

    __hash__ = None


def other_kinds():
    return [None, True, False, 1.5, 2.0, b"ab", {}, {1: 2}, set(), object(), Anything(), int, len]


def wrong_texts():
    return other_kinds() + [
        0, 1, -1, [], ["a"], (), ("a",),
        "\n", "a\n", "\nb", "a\tb", "\r", "\x00", "\x1f", "\x7f", "\x80", "\u00e9", "a\u20ac", "\ud800",
        PERCENT, "a" + PERCENT, PERCENT + "a", "ab" + PERCENT + "cd",
        "a" * 2001, "a" * 2000 + "\n", "a" * 1999 + "\n", "a" * 5000,
    ]


def wrong_wholes_from(lowest):
    wrong = other_kinds() + [lowest - 1, -1, -10 ** 30, "", "1", "a", [], [1], (), (1,)]
    return wrong if lowest == 0 else wrong + [0]


def wrong_keys():
    wrong = other_kinds() + [0, 1, -1, "", "abc", "111", [], [1, 1, 1], (), (1,), (1, 1), (1, 1, 1, 1), ((1, 1, 1),)]
    for at, highest in enumerate(GREATEST_KEY):
        for number in wrong_wholes_from(1) + [highest + 1, 10 ** 30]:
            key = [5, 5, 5]
            key[at] = number
            wrong.append(tuple(key))
    return wrong


def wrong_sizes():
    return wrong_wholes_from(1) + [201, 10 ** 30]


def wrong_pieces():
    wrong = other_kinds() + [
        0, 1, "", "copy", "signs", [], (), ["copy", 0, 1], ["signs", "a"],
        ("copy",), ("copy", 0), ("copy", 0, 1, 1), ("copy", "a"), ("copy", (0, 1)),
        ("signs",), ("signs", "a", "b"), ("signs", 0, 1), ("signs", ""),
        ("Copy", 0, 1), ("copies", 0, 1), ("cop", 0, 1), ("", 0, 1), ("Signs", "a"), ("sign", "a"), ("", "a"),
        (None, 0, 1), (0, 0, 1), (b"copy", 0, 1), ([], 0, 1), (["signs"], "a"), (None, "a"), ("a", "signs"),
        (Anything(), 0, 1), (Anything(), "a"), (0, 1, "copy"),
    ]
    wrong += [("copy", place, 1) for place in wrong_wholes_from(0)]
    wrong += [("copy", 0, many) for many in wrong_wholes_from(1)]
    wrong += [("signs", text) for text in wrong_texts()]
    return wrong


def wrong_letters():
    good = ("signs", "a")
    wrong = other_kinds() + [
        0, 1, -1, "", "copy", (), (good,), (("copy", 0, 1),), good, ("copy", 0, 1), {0: good}, iter([good]),
        [good] * 2001, [("copy", 0, 1)] * 2001, [good] * 5000,
    ]
    for piece in wrong_pieces():
        wrong += [[piece], [good, piece], [piece, good]]
    return wrong


def wrong_cards():
    good = ((1, 2), 3)
    wrong = other_kinds() + [0, 1, -1, "", "card", (), (good,), good, {0: good}, iter([good])]
    bad = other_kinds() + [
        0, 1, "", "ab", [], (), [(1, 2), 3], (1, 2, 3), ((1, 2),), ((1, 2), 3, 4), (3, (1, 2)), ((1, 2), (3,)),
        ([1, 2], 3), ((1,), 3), ((1, 2, 3), 3), ((), 3), ("ab", 3), (None, 3), (1, 3), ((1, 2), [3]),
    ]
    for number in wrong_wholes_from(0):
        bad += [((number, 2), 3), ((1, number), 3), ((1, 2), number)]
    for card in bad:
        wrong += [[card], [good, card], [card, good]]
    return wrong


def slow_first_sum(key, text):
    worths = [ord(sign) for sign in text]
    leaning = sum(worth * (len(worths) - place) for place, worth in enumerate(worths))
    return (sum(worths) % key[0], leaning % key[0])


def slow_second_sum(times, many, text):
    number = sum(ord(sign) * times ** (len(text) - 1 - place) for place, sign in enumerate(text))
    return number % many


def slow_card(key, text):
    return (slow_first_sum(key, text), slow_second_sum(key[1], key[2], text))


def atoms(letter):
    """A letter sign by sign: the place of a copied one, or the sign itself."""
    found = []
    for piece in letter:
        found += range(piece[1], piece[1] + piece[2]) if piece[0] == "copy" else piece[1]
    return found


def of_atoms(found):
    """The plain letter of signs and places told one by one."""
    letter = []
    for atom in found:
        last = letter[-1] if letter else ("none",)
        if isinstance(atom, str):
            if last[0] == "signs":
                letter[-1] = ("signs", last[1] + atom)
            else:
                letter.append(("signs", atom))
        elif last[0] == "copy" and last[1] + last[2] == atom:
            letter[-1] = ("copy", last[1], last[2] + 1)
        else:
            letter.append(("copy", atom, 1))
    return letter


def slow_behind(one, other):
    made = atoms(one)
    return of_atoms([made[atom] if isinstance(atom, int) else atom for atom in atoms(other)])


def slow_found_by(key, size, told, newer):
    found = []
    place = 0
    last = None
    while place < len(newer):
        stretch = newer[place:place + size]
        fits = [k for k, card in enumerate(told) if len(stretch) == size and card == slow_card(key, stretch)]
        if not fits:
            found.append(newer[place])
            place += 1
            last = None
            continue
        last = last + 1 if last is not None and last + 1 in fits else fits[0]
        found += range(last * size, last * size + size)
        place += size
    return of_atoms(found)


def slow_talk(key, size, elder, newer):
    told = [slow_card(key, elder[k * size:k * size + size]) for k in range(len(elder) // size)]
    letter = slow_found_by(key, size, told, newer)
    made = "".join(elder[atom] if isinstance(atom, int) else atom for atom in atoms(letter))
    if slow_second_sum(key[1] + 1, key[2], made) == slow_second_sum(key[1] + 1, key[2], newer):
        return ("mended", made, letter)
    return ("told", newer, [("signs", newer)])


def slow_least(elder, newer):
    found = []
    place = 0
    while place < len(newer):
        lengths = [many for many in range(1, len(newer) - place + 1) if newer[place:place + many] in elder]
        if not lengths:
            found.append(newer[place])
            place += 1
            continue
        many = max(lengths)
        first = min(k for k in range(len(elder)) if elder[k:k + many] == newer[place:place + many])
        found += range(first, first + many)
        place += many
    return of_atoms(found)


def slow_cut_places(key, window, part, text):
    found = []
    for end in range(1, len(text) + 1):
        if end >= window and sum(slow_first_sum(key, text[end - window:end])) % part == 0:
            found.append(end)
    return found


def slow_stretches(key, window, part, text):
    ends = [0] + slow_cut_places(key, window, part, text) + [len(text)]
    return [text[begin:end] for begin, end in zip(ends, ends[1:]) if begin < end]


def slow_found_by_cuts(key, window, part, elder, newer):
    elders = slow_stretches(key, window, part, elder)
    found = []
    for stretch in slow_stretches(key, window, part, newer):
        if stretch in elders:
            first = len("".join(elders[:elders.index(stretch)]))
            found += range(first, first + len(stretch))
        else:
            found += stretch
    return of_atoms(found)


def small_texts(signs, most):
    return ["".join(chosen) for many in range(most + 1) for chosen in itertools.product(signs, repeat=many)]
