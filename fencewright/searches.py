"""The ways in which a web can be woven to its ends.

A way is a weaving without the fences: the moves of the puts, the gets and the sends alone. Ways are looked for in a
web with as few fences as do the same, so that any number of fences in the web costs no more than a few of them.
"""

from fencewright.states import begun, behind
from fencewright.webs import FENCE, is_fence


def _without_fences(row):
    return [step for step in row if not is_fence(step)]


def _thinned(row):
    # Fences beside one another wait for the same line, and those at the two ends of a row hold nothing up.
    steps = []
    fence_ahead = False
    for step in row:
        if is_fence(step):
            fence_ahead = len(steps) > 0
            continue
        if fence_ahead:
            steps.append(FENCE)
        steps.append(step)
        fence_ahead = False
    return steps


def _next_word(row, done):
    return row[done][0] if done < len(row) else ""


def _late_moves(web, state):
    moves = []
    for hand, row in enumerate(web):
        word = _next_word(row, state[0][hand])
        waits = len(state[1][hand]) > 0
        # No other move hinders such a step or notices it, so it comes first and no end is lost.
        if word == "put" or (word == "fence" and not waits):
            return [(hand, "step")]
        if waits:
            moves.append((hand, "send"))
        if word == "get":
            moves.append((hand, "step"))
    return moves


def _prompt_moves(web, state):
    moves = []
    for hand, row in enumerate(web):
        if len(state[1][hand]) > 0:
            return [(hand, "send")]
        if state[0][hand] < len(row):
            moves.append((hand, "step"))
    return moves


def _way_to(web, came_from, state):
    moves = []
    while came_from[state] is not None:
        state, move = came_from[state]
        hand, kind = move
        if kind == "send" or not is_fence(web[hand][state[0][hand]]):
            moves.append(move)
    moves.reverse()
    return moves


def _ways(web, moves_from):
    first = begun(web)
    came_from = {first: None}
    waiting = [first]
    ways = {}
    while waiting:
        state = waiting.pop()
        moves = moves_from(web, state)
        if not moves:
            ways[(state[2], state[3])] = _way_to(web, came_from, state)
        for move in moves:
            further = behind(web, state, move)
            if further not in came_from:
                came_from[further] = (state, move)
                waiting.append(further)
    return ways


def late_ways(web):
    """A dict of the ends of the web, each with a way that comes to it."""
    return _ways([_thinned(row) for row in web], _late_moves)


def prompt_ways(web):
    """A dict of the prompt ends of the web, each with a prompt way that comes to it."""
    # Hands that send at once never wait at a fence.
    return _ways([_without_fences(row) for row in web], _prompt_moves)


def _fences_ahead(row, at):
    # There is a put or get behind them, as a step of a way leads there.
    end = at
    while is_fence(row[end]):
        end += 1
    return end - at


def with_fences(web, way):
    """The weaving of the web in which each put and get of the way comes right behind the fences ahead of it."""
    done = [0] * len(web)
    weaving = []
    for hand, kind in way:
        if kind == "step":
            many = _fences_ahead(web[hand], done[hand])
            weaving.extend([(hand, "step")] * many)
            done[hand] += many + 1
        weaving.append((hand, kind))
    for hand, row in enumerate(web):
        weaving.extend([(hand, "step")] * (len(row) - done[hand]))
    return weaving
