"""States of a web: the first one, the moves from one to the next, and the end."""

from fencewright.errors import NoMove, NotOver
from fencewright.webs import BOXES, is_fence, is_whole, need_web


def begun(web):
    """The first state of the web."""
    hands = len(need_web(web))
    return (0,) * hands, ((),) * hands, (0,) * BOXES, ((),) * hands


def _is_move(hands, thing):
    if not isinstance(thing, tuple) or len(thing) != 2:
        return False
    hand, kind = thing
    if not is_whole(hand) or not isinstance(kind, str):
        return False
    return 0 <= hand < hands and kind in ("step", "send")


def _can_step(row, done, line):
    if done >= len(row):
        return False
    return not is_fence(row[done]) or len(line) == 0


def is_doable(web, state, move):
    """What `can` tells, of what is known to be a web."""
    if not _is_move(len(web), move):
        return False
    hand, kind = move
    line = state[1][hand]
    if kind == "send":
        return len(line) > 0
    return _can_step(web[hand], state[0][hand], line)


def can(web, state, move):
    """True if the move can be done in the state; False of anything else, be it a move or not."""
    return is_doable(need_web(web), state, move)


def _with(parts, at, part):
    return parts[:at] + (part,) + parts[at + 1:]


def _seen(line, boxes, box):
    # A hand sees its own puts ahead of what has been sent, the latest first.
    for put_box, n in reversed(line):
        if put_box == box:
            return n
    return boxes[box]


def _sent(state, hand):
    done, lines, boxes, got = state
    box, n = lines[hand][0]
    return done, _with(lines, hand, lines[hand][1:]), _with(boxes, box, n), got


def _stepped(state, hand, step):
    done, lines, boxes, got = state
    further = _with(done, hand, done[hand] + 1)
    if step[0] == "put":
        pair = (step[1], step[2])
        return further, _with(lines, hand, lines[hand] + (pair,)), boxes, got
    if step[0] == "get":
        n = _seen(lines[hand], boxes, step[1])
        return further, lines, boxes, _with(got, hand, got[hand] + (n,))
    return further, lines, boxes, got


def behind(web, state, move):
    """The state behind a move that is known to be one that can be done."""
    hand, kind = move
    if kind == "send":
        return _sent(state, hand)
    return _stepped(state, hand, web[hand][state[0][hand]])


def moved(web, state, move):
    """The state behind the move; NoMove if it cannot be done."""
    rows = need_web(web)
    if not is_doable(rows, state, move):
        raise NoMove("this cannot be done here")
    return behind(rows, state, move)


def _is_over(web, state):
    rows_done = [len(row) for row in web] == list(state[0])
    return rows_done and not any(state[1])


def is_over(web, state):
    """True if each hand has done its whole row and all lines are empty."""
    return _is_over(need_web(web), state)


def end_of(web, state):
    """The end of the web that is over in the state; NotOver if it is not over."""
    if not _is_over(need_web(web), state):
        raise NotOver("the web is not over here")
    return state[2], state[3]
