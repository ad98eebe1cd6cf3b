"""The sums of texts: the first one, which can be rolled on, the second one, and the whole one."""

from rollmend.checks import check_key, check_text


def first_sum(key, text):
    check_key(key)
    check_text(text)
    few = key[0]
    plain = 0
    leaning = 0
    for sign in text:
        plain += ord(sign)
        # Added once for each sign from a worth on, the plain sums hold it just as often as it leans.
        leaning += plain
    return (plain % few, leaning % few)


def rolled(key, found, many, gone, come):
    check_key(key)
    few = key[0]
    plain = found[0] - ord(gone) + ord(come)
    # All that stay, and the one that comes, count once more than they did: that is the new plain sum.
    leaning = found[1] - many * ord(gone) + plain
    return (plain % few, leaning % few)


def rolled_sums(key, size, text):
    if len(text) < size:
        return []
    found = first_sum(key, text[:size])
    firsts = [found]
    for place in range(len(text) - size):
        found = rolled(key, found, size, text[place], text[place + size])
        firsts.append(found)
    return firsts


def second_sum(key, text):
    check_key(key)
    check_text(text)
    return chained(key[1], key[2], text)


def whole_sum(key, text):
    check_key(key)
    check_text(text)
    # Times one greater than 999 would be no key, so no key is made for it.
    return (len(text), chained(key[1] + 1, key[2], text))


def chained(times, many, text):
    number = 0
    for sign in text:
        number = (times * number + ord(sign)) % many
    return number
