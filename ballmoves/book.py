"""States: names, and the moves or the words of names for which they stand."""

from ballmoves.errors import UnknownName
from ballmoves.texts import move_text
from ballmoves.words import word_move

LONGEST_NAME = 8


def is_name(value):
    """Whether any value is a name."""
    if not isinstance(value, str) or not 1 <= len(value) <= LONGEST_NAME:
        return False
    return all(["a" <= sign <= "z" for sign in value])


def is_known(state, name):
    """Whether any value is a name of a state."""
    return isinstance(name, str) and name in state


def look_up(state, name):
    """What a name, any value, stands for in a state."""
    if not is_known(state, name):
        raise UnknownName(name)
    return state[name]


def used_in(stands):
    """The names in the word for which a name stands, ascending, each once; none of a move."""
    if stands[0] == "move":
        return []
    return sorted({name: True for name, _ in stands[1]})


def uses_of_all(state):
    """For each name of a state the names in its word."""
    return {name: used_in(state[name]) for name in state}


def users_of_all(state):
    """For each name of a state the names whose words use it."""
    used = uses_of_all(state)
    return {name: [other for other in sorted(state) if name in used[other]] for name in state}


def linked(links, name):
    """The names to which links lead from a name, one behind the other, ascending."""
    found = {}
    edge = [name]
    while edge != []:
        edge = sorted({other: True for old in edge for other in links[old] if other not in found})
        for other in edge:
            found[other] = True
    return sorted(found)


def part_of(state, name):
    """The state of a name, which may be any value, and of all on which it hangs."""
    look_up(state, name)
    needed = linked(uses_of_all(state), name) + [name]
    return {other: state[other] for other in sorted(needed)}


def values_of(state):
    """The moves of all names of a state."""
    found = {}
    for name in in_turn(state):
        word, told = state[name]
        if word == "move":
            found[name] = told
        else:
            found[name] = word_move(found, told)
    return found


def lengths_of(state):
    """The lengths of all names of a state."""
    found = {}
    for name in in_turn(state):
        word, told = state[name]
        if word == "move":
            found[name] = 1
        else:
            found[name] = sum([found[other] for other, _ in told])
    return found


def value_of(state, name):
    """The move of a name, any value."""
    return values_of(part_of(state, name))[name]


def length_of(state, name):
    """The length of a name, any value."""
    return lengths_of(part_of(state, name))[name]


def uses(state, name):
    """The names in the word of a name, any value, ascending."""
    return used_in(look_up(state, name))


def users(state, name):
    """The names whose words use a name, any value, ascending."""
    look_up(state, name)
    return users_of_all(state)[name]


def hanging(state, name):
    """The names that hang on a name, any value, ascending."""
    look_up(state, name)
    return linked(users_of_all(state), name)


def in_turn(state):
    """All names of a state, each behind those that it uses, the least ones first."""
    used = uses_of_all(state)
    found = []
    left = sorted(state)
    while left != []:
        free = [name for name in left if all([other in found for other in used[name]])]
        found.append(free[0])
        left.remove(free[0])
    return found


def letter_text(letter):
    """A letter with a name, written."""
    if letter[1] < 0:
        return letter[0] + "-"
    return letter[0]


def letters_text(letters):
    """A word of names, written."""
    return "[" + " ".join([letter_text(letter) for letter in letters]) + "]"


def stands_text(stands):
    """What a name stands for, written."""
    if stands[0] == "move":
        return move_text(stands[1])
    return letters_text(stands[1])


def state_text(state):
    """A state, written: its names in turn, with what they stand for."""
    return "; ".join([name + " = " + stands_text(state[name]) for name in in_turn(state)])
