"""The ends of a web: the one to which a weaving comes, all of them, and those of hands that send at once."""

from fencewright.errors import NoMove
from fencewright.searches import late_ways, prompt_ways, with_fences
from fencewright.states import begun, behind, end_of, is_doable, is_over
from fencewright.webs import need_web


def woven(web, weaving):
    """The end to which the moves come; NoMove if one of them cannot be done, else NotOver if the web is not over."""
    rows = need_web(web)
    if not isinstance(weaving, list):
        raise NoMove("this is no list of moves")
    state = begun(rows)
    for move in weaving:
        if not is_doable(rows, state, move):
            raise NoMove("one of the moves cannot be done")
        state = behind(rows, state, move)
    return end_of(rows, state)


def is_prompt(web, weaving):
    """True if the list is a prompt weaving of the web; False of any other list."""
    rows = need_web(web)
    if not isinstance(weaving, list):
        return False
    state = begun(rows)
    for move in weaving:
        # So far just the hand that put right before this move can have a line: no other one could send.
        if not is_doable(rows, state, move) or (move[1] == "step" and any(state[1])):
            return False
        state = behind(rows, state, move)
    return is_over(rows, state)


def _told(web, ways):
    return [(end, with_fences(web, ways[end])) for end in sorted(ways)]


def ends(web):
    """All ends of the web, rising, each with a weaving that comes to it."""
    rows = need_web(web)
    return _told(rows, late_ways(rows))


def prompt_ends(web):
    """All prompt ends of the web, rising, each with a prompt weaving that comes to it."""
    rows = need_web(web)
    return _told(rows, prompt_ways(rows))
