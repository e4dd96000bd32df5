"""Webs: what they are, their places, and how they are fenced."""

from fencewright.errors import BadWeb, NoPlace

BOXES = 4
FENCE = ("fence",)
_MOST_HANDS = 3
_MOST_PUTS_AND_GETS = 8
_TOO_FAR = 10 ** 30


def is_whole(thing):
    """True for numbers of Python's int that are no True and no False."""
    return isinstance(thing, int) and not isinstance(thing, bool)


def _is_word(thing, word):
    return isinstance(thing, str) and thing == word


def _is_box(thing):
    return is_whole(thing) and 0 <= thing < BOXES


def _is_worth(thing):
    return is_whole(thing) and -_TOO_FAR < thing < _TOO_FAR


def _is_step(thing):
    if not isinstance(thing, tuple):
        return False
    if len(thing) == 3:
        return _is_word(thing[0], "put") and _is_box(thing[1]) and _is_worth(thing[2])
    if len(thing) == 2:
        return _is_word(thing[0], "get") and _is_box(thing[1])
    return len(thing) == 1 and _is_word(thing[0], "fence")


def is_fence(step):
    """True for the fences among the steps of a web."""
    return step[0] == "fence"


def _is_row(thing):
    return isinstance(thing, list) and all([_is_step(step) for step in thing])


def _puts_and_gets(row):
    return len([step for step in row if not is_fence(step)])


def is_web(thing):
    """True for a web, of anything."""
    if not isinstance(thing, list) or not 1 <= len(thing) <= _MOST_HANDS:
        return False
    if not all([_is_row(row) for row in thing]):
        return False
    return sum([_puts_and_gets(row) for row in thing]) <= _MOST_PUTS_AND_GETS


def need_web(web):
    """The web, in lists of its own; BadWeb if it is none."""
    if not is_web(web):
        raise BadWeb("this is no web")
    return [list(row) for row in web]


def places(web):
    """The places of the web, rising, as pairs (hand, at)."""
    rows = need_web(web)
    return [(hand, at) for hand, row in enumerate(rows) for at in range(1, len(row))]


def _is_place(rows, thing):
    # The kinds are looked at ahead of the range, as True counts as 1 there.
    if not isinstance(thing, tuple) or len(thing) != 2:
        return False
    hand, at = thing
    if not is_whole(hand) or not is_whole(at):
        return False
    return 0 <= hand < len(rows) and 1 <= at < len(rows[hand])


def _fenced_row(hand, row, chosen):
    steps = []
    for at, step in enumerate(row):
        if (hand, at) in chosen:
            steps.append(FENCE)
        steps.append(step)
    return steps


def fenced(web, some):
    """The web with a fence put in at each of some of its places; NoPlace if one of them is none."""
    rows = need_web(web)
    if not isinstance(some, list) or not all([_is_place(rows, place) for place in some]):
        raise NoPlace("this is no list of places of the web")
    # A dict, so that rows with very many fences stay cheap, and a place told twice counts once.
    chosen = {place: True for place in some}
    return [_fenced_row(hand, row, chosen) for hand, row in enumerate(rows)]
