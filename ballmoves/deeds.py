"""Deeds: what makes a state of a state."""

from ballmoves.book import hanging, is_known, is_name, lengths_of, letters_text, look_up, used_in, users, value_of
from ballmoves.errors import BadDeed, BadName, BadText, Clash, Ring, TooMany, UnknownName
from ballmoves.forms import is_told
from ballmoves.fractions import is_number
from ballmoves.moves import is_move
from ballmoves.texts import move_text, read_move

MOST_NAMES = 12
MOST_LENGTH = 500
MOST_LETTERS = 12


def is_named_letter(value):
    """Whether any value is a tuple of any value and 1 or -1."""
    return isinstance(value, tuple) and len(value) == 2 and is_number(value[1]) and value[1] in (1, -1)


def is_named_word(value):
    """Whether any value is of the form of the letters of a name's word."""
    return isinstance(value, tuple) and len(value) <= MOST_LETTERS and all([is_named_letter(part) for part in value])


def is_deed(value):
    """Whether any value is of the form of a deed, its names being any values."""
    if is_told(value, "set", 2):
        return is_move(value[2])
    if is_told(value, "word", 2):
        return is_named_word(value[2])
    return is_told(value, "fix", 1) or is_told(value, "drop", 1) or is_told(value, "call", 2)


def in_order(state):
    """A state with its names ascending."""
    return {name: state[name] for name in sorted(state)}


def look_at_caps(state):
    """Looks whether a state has too many names, or a name that is too long, and raises TooMany then."""
    if len(state) > MOST_NAMES or any([length > MOST_LENGTH for length in lengths_of(state).values()]):
        raise TooMany()


def ring_of(state, name):
    """The names by which a name of a state hangs on itself, () if it does not."""
    behind_name = hanging(state, name)
    if name not in behind_name:
        return ()
    names = [name]
    used = used_in(state[name])
    while name not in used:
        names.append([other for other in used if other in behind_name][0])
        used = used_in(state[names[-1]])
    return tuple(names)


def with_name(state, name, stands):
    """The state in which a name, any value, stands for a move or a word."""
    if not is_name(name):
        raise BadName(name)
    if stands[0] == "word":
        for other, _ in stands[1]:
            if other != name and not is_known(state, other):
                raise UnknownName(other)
    found = in_order({**state, name: stands})
    names = ring_of(found, name)
    if names != ():
        raise Ring(names)
    look_at_caps(found)
    return found


def fixed(state, name):
    """The state in which a name stands for its value."""
    found = in_order({**state, name: ("move", value_of(state, name))})
    look_at_caps(found)
    return found


def without(state, name):
    """The state without a name."""
    names = users(state, name)
    if names != []:
        raise Clash(tuple(names))
    return in_order({other: state[other] for other in state if other != name})


def with_call(stands, name, new):
    """What a name stands for, with a name in it called new."""
    if stands[0] == "move":
        return stands
    return ("word", tuple([(new, s) if other == name else (other, s) for other, s in stands[1]]))


def called(state, name, new):
    """The state in which a name is called new, any value."""
    if not is_name(new) or new != name and new in state:
        raise BadName(new)
    found = {other: with_call(state[other], name, new) for other in state if other != name}
    return in_order({**found, new: with_call(state[name], name, new)})


def behind(state, deed):
    """The state behind a deed, any value."""
    if not is_deed(deed):
        raise BadDeed()
    word, name = deed[:2]
    if word == "set":
        return with_name(state, name, ("move", deed[2]))
    if word == "word":
        return with_name(state, name, ("word", deed[2]))
    look_up(state, name)
    if word == "fix":
        return fixed(state, name)
    if word == "drop":
        return without(state, name)
    return called(state, name, deed[2])


def deed_text(deed):
    """A deed, written."""
    if deed[0] == "set":
        return "set " + deed[1] + " " + move_text(deed[2])
    if deed[0] == "word":
        return "word " + deed[1] + " " + letters_text(deed[2])
    return " ".join(deed)


def letter_in(text):
    """The letter that a text would be, whatever its name."""
    if text.endswith("-"):
        return (text[:-1], -1)
    return (text, 1)


def letters_in(text):
    """The letters of a text that is a word of names; None if it is none."""
    if not text.startswith("[") or not text.endswith("]"):
        return None
    if text == "[]":
        return ()
    letters = tuple([letter_in(part) for part in text[1:-1].split(" ")])
    if len(letters) > MOST_LETTERS or not all([is_name(name) for name, _ in letters]):
        return None
    return letters


def move_in(text):
    """The move of a text; None if it is none."""
    try:
        return read_move(text)
    except BadText:
        return None


def deed_in(text):
    """The deed of a text; None if it is none."""
    words = text.split(" ")
    names = words[1:]
    if words[0] in ("fix", "drop") and len(names) == 1 and is_name(names[0]):
        return (words[0], names[0])
    if words[0] == "call" and len(names) == 2 and is_name(names[0]) and is_name(names[1]):
        return (words[0], names[0], names[1])
    if words[0] not in ("set", "word") or names == [] or not is_name(names[0]):
        return None
    last = " ".join(names[1:])
    if words[0] == "set":
        told = move_in(last)
    else:
        told = letters_in(last)
    if told is None:
        return None
    return (words[0], names[0], told)


def read_deed(text):
    """The deed that any value tells as a text."""
    if not isinstance(text, str):
        raise BadText(0)
    deed = deed_in(text)
    if deed is None:
        raise BadText(0)
    return deed
