"""Words that go round: parted, turned, and their roots."""

from ballmoves.words import back_letter, back_word, joined, shortened


def parted(word):
    """The words u and c of which u, c and the back of u make the shortened word, c as short as can be."""
    whole = shortened(word)
    k = 0
    while k < len(whole) // 2 and whole[k] == back_letter(whole[-1 - k]):
        k += 1
    return (whole[:k], whole[k:len(whole) - k])


def shortest(word):
    """The shortest beginning of a word of which the word is so many copies; () of ()."""
    for many in range(1, len(word)):
        if word[:many] * (len(word) // many) == word:
            return word[:many]
    return word


def turnings(word):
    """The words that c of a word is, with some of its first letters moved to its end."""
    _, c = parted(word)
    # Behind so many letters as the shortest beginning has the same words come again.
    return [c[k:] + c[:k] for k in range(max(1, len(shortest(c))))]


def root(word):
    """The word r and the greatest n for which a word is n times r."""
    u, c = parted(word)
    if c == ():
        return ((), 1)
    beginning = shortest(c)
    return (u + beginning + back_word(u), len(c) // len(beginning))


def turning(one, other):
    """A word x for which x, one and the back of x make the other word; None if there is none."""
    u, c = parted(one)
    v, turned = parted(other)
    told = turnings(one)
    if turned not in told:
        return None
    return joined(joined(v, back_word(c[:told.index(turned)])), back_word(u))
