"""Houses: states that came one of the other, moment by moment, in branches."""

from ballmoves.book import hanging, is_name, used_in, values_of
from ballmoves.deeds import behind, in_order, look_at_caps
from ballmoves.errors import BadName, Clash, NoMoment, NothingDone, TooMany, UnknownName
from ballmoves.fractions import is_number

MOST_MOMENTS = 200
MOST_BRANCHES = 6
MAIN = "main"


def all_elders(elders, number):
    """A moment, its elders, and all elders of these: the numbers as the keys of a dict."""
    found = {number: True}
    # Elders have lesser numbers: so each one comes behind all of which it is an elder.
    for other in range(number, 0, -1):
        if other in found:
            for elder in elders[other]:
                found[elder] = True
    return found


def is_kept(was, one, other):
    """Whether what one state has for a name comes, where two states that came of one are put together."""
    return other == was or one == other


def put_together(was, one, other):
    """What comes of two states that came of one; Clash if a name's two changes clash."""
    names = sorted({**was, **one, **other})
    rows = [(name, was.get(name), one.get(name), other.get(name)) for name in names]
    clashing = [name for name, w, h, t in rows if not is_kept(w, h, t) and h != w]
    if clashing != []:
        raise Clash(tuple(clashing))
    told = [(name, h if is_kept(w, h, t) else t) for name, w, h, t in rows]
    return {name: stands for name, stands in told if stands is not None}


def look_at_words(state):
    """Looks whether all words of a state have their names, and none a ring, and raises Clash if they do not."""
    lacking = [name for name in sorted(state) if not all([other in state for other in used_in(state[name])])]
    if lacking != []:
        raise Clash(tuple(lacking))
    ringed = [name for name in sorted(state) if name in hanging(state, name)]
    if ringed != []:
        raise Clash(tuple(ringed))


class House:
    """Moments with their states, and branches, in one of which it stands."""

    def __init__(self):
        self._states = [{}]
        self._elders = [()]
        self._deeds = [None]
        self._trails = {MAIN: [0]}
        self._places = {MAIN: 0}
        self._stands = MAIN

    def _look_at_moments(self):
        if len(self._states) >= MOST_MOMENTS:
            raise TooMany()

    def _look_up(self, name):
        if not self._has_branch(name):
            raise UnknownName(name)

    def _has_branch(self, name):
        return is_name(name) and name in self._trails

    def _cut_trail(self):
        """The present trail up to the place."""
        return self._trails[self._stands][:self._places[self._stands] + 1]

    def _make(self, state, elders, deed):
        """Makes a moment, stands at it, and returns its number."""
        number = len(self._states)
        self._states.append(state)
        self._elders.append(elders)
        self._deeds.append(deed)
        trail = self._cut_trail() + [number]
        self._trails[self._stands] = trail
        self._places[self._stands] = len(trail) - 1
        return number

    def do(self, deed):
        """Makes a moment of the present one by a deed, any value, and returns its number."""
        state = behind(self._states[self.present()], deed)
        self._look_at_moments()
        return self._make(state, (self.present(),), deed)

    def undo(self):
        """Goes one back in the trail, and returns the number of the moment there."""
        if self._places[self._stands] == 0:
            raise NothingDone()
        self._places[self._stands] -= 1
        return self.present()

    def redo(self):
        """Goes one on in the trail, and returns the number of the moment there."""
        if self._places[self._stands] + 1 == len(self._trails[self._stands]):
            raise NothingDone()
        self._places[self._stands] += 1
        return self.present()

    def branch(self, name):
        """Makes a branch of a name, any value, with the present trail up to the place."""
        if not is_name(name) or self._has_branch(name):
            raise BadName(name)
        if len(self._trails) >= MOST_BRANCHES:
            raise TooMany()
        trail = self._cut_trail()
        self._trails[name] = trail
        self._places[name] = len(trail) - 1

    def go(self, name):
        """Goes to the branch of a name, any value, and returns the number of its moment."""
        self._look_up(name)
        self._stands = name
        return self.present()

    def present(self):
        """The number of the present moment."""
        return self._trails[self._stands][self._places[self._stands]]

    def state(self):
        """The state of the present moment."""
        return self.state_at(self.present())

    def state_at(self, number):
        """The state of the moment of a number, any value."""
        if not is_number(number) or not 0 <= number < len(self._states):
            raise NoMoment(number)
        return in_order(self._states[number])

    def __len__(self):
        return len(self._states)

    def here(self):
        """The name of the present branch."""
        return self._stands

    def branches(self):
        """The names of all branches, in the order in which they came."""
        return list(self._trails)

    def trail(self, name):
        """The numbers of the moments of the branch of a name, any value."""
        self._look_up(name)
        return list(self._trails[name])

    def place(self, name):
        """The index at which the branch of a name, any value, stands in its trail."""
        self._look_up(name)
        return self._places[name]

    def log(self):
        """The pairs of the elders and the deed of each moment but the first one."""
        return list(zip(self._elders[1:], self._deeds[1:]))

    def merge(self, name):
        """Puts the present state and that of a branch's moment together, and returns the number of the moment."""
        self._look_up(name)
        one, other = self.present(), self._trails[name][self._places[name]]
        before = all_elders(self._elders, one)
        if other in before:
            return one
        common = max([number for number in all_elders(self._elders, other) if number in before])
        state = put_together(self._states[common], self._states[one], self._states[other])
        look_at_words(state)
        look_at_caps(state)
        self._look_at_moments()
        return self._make(state, (one, other), ("merge", name))

    def twin(self):
        """An equal house that goes its own way."""
        other = House()
        other._states = list(self._states)
        other._elders = list(self._elders)
        other._deeds = list(self._deeds)
        other._trails = {name: list(self._trails[name]) for name in self._trails}
        other._places = {name: self._places[name] for name in self._places}
        other._stands = self._stands
        return other

    def _told(self):
        """All by which two houses are told apart."""
        branches = [(name, self._trails[name], self._places[name]) for name in self._trails]
        return (self.log(), branches, self._stands)

    def __eq__(self, other):
        if not isinstance(other, House):
            return False
        return self._told() == other._told()


def state_behind(house, deeds):
    """The state that a house would have behind a list of any values as deeds."""
    other = house.twin()
    for deed in deeds:
        other.do(deed)
    return other.state()


def would_stand(house, deeds):
    """The moves of all names of the state that a house would have behind a list of any values as deeds."""
    return in_order(values_of(state_behind(house, deeds)))


def tried(house, deeds):
    """Does a list of any values as deeds, all or none, and returns the numbers of the moments."""
    # A twin shows whether all can be done, ahead of the first one.
    state_behind(house, deeds)
    return [house.do(deed) for deed in deeds]


def changed(house, one, other):
    """The names whose moves are unlike in the states of two moments, whose numbers are any values."""
    before, then = [values_of(house.state_at(number)) for number in (one, other)]
    return [name for name in sorted({**before, **then}) if before.get(name) != then.get(name)]
