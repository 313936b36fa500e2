"""A house of the tests: every step is a new tuple of all that there is, made from the one ahead of it."""

from ballmoves.book import length_of
from ballmoves.deeds import behind
from ballmoves.errors import BadName, Clash, NothingDone, TooMany, UnknownName
from some_states import slow_hanging, slow_used


def is_name(value):
    return isinstance(value, str) and 1 <= len(value) <= 8 and all(sign in "abcdefghijklmnopqrstuvwxyz" for sign in value)


class SlowHouse:
    """What the document tells of a house, step by step."""

    def __init__(self):
        # Moments: (state, elders, deed); branches: name, trail, place; the number of the present branch.
        self.all = ([({}, (), None)], [("main", (0,), 0)], 0)

    def present(self):
        _, branches, at = self.all
        _, trail, place = branches[at]
        return trail[place]

    def number_of(self, name):
        names = [branch[0] for branch in self.all[1]]
        if not isinstance(name, str) or name not in names:
            raise UnknownName(name)
        return names.index(name)

    def made(self, state, elders, deed):
        moments, branches, at = self.all
        if len(moments) == 200:
            raise TooMany()
        name, trail, place = branches[at]
        changed = (name, trail[:place + 1] + (len(moments),), place + 1)
        self.all = (moments + [(state, elders, deed)], branches[:at] + [changed] + branches[at + 1:], at)
        return len(moments)

    def do(self, deed):
        return self.made(behind(self.all[0][self.present()][0], deed), (self.present(),), deed)

    def step(self, by):
        moments, branches, at = self.all
        name, trail, place = branches[at]
        if not 0 <= place + by < len(trail):
            raise NothingDone()
        self.all = (moments, branches[:at] + [(name, trail, place + by)] + branches[at + 1:], at)
        return self.present()

    def undo(self):
        return self.step(-1)

    def redo(self):
        return self.step(1)

    def branch(self, name):
        moments, branches, at = self.all
        if not is_name(name) or name in [branch[0] for branch in branches]:
            raise BadName(name)
        if len(branches) == 6:
            raise TooMany()
        self.all = (moments, branches + [(name, branches[at][1][:branches[at][2] + 1], branches[at][2])], at)

    def go(self, name):
        self.all = self.all[:2] + (self.number_of(name),)
        return self.present()

    def elders(self, number):
        found = {number}
        for elder in self.all[0][number][1]:
            found |= self.elders(elder)
        return found

    def merge(self, name):
        moments, branches, _ = self.all
        _, trail, place = branches[self.number_of(name)]
        here, there = self.present(), trail[place]
        if there in self.elders(here):
            return here
        common = max(self.elders(here) & self.elders(there))
        was, one, other = [moments[number][0] for number in (common, here, there)]
        came, clashing = {}, []
        for key in sorted({*was, *one, *other}):
            w, h, t = was.get(key), one.get(key), other.get(key)
            if len({repr(w), repr(h), repr(t)}) == 3:
                clashing.append(key)
            came[key] = h if t == w else t
        if clashing:
            raise Clash(tuple(clashing))
        came = {key: stands for key, stands in came.items() if stands is not None}
        lacking = tuple(key for key in came if not set(slow_used(came, key)) <= set(came))
        if lacking:
            raise Clash(lacking)
        ringed = tuple(key for key in came if key in slow_hanging(came, key))
        if ringed:
            raise Clash(ringed)
        if len(came) > 12 or any(length_of(came, key) > 500 for key in came):
            raise TooMany()
        return self.made(came, (here, there), ("merge", name))
