"""The fences that are wanted, so that a web has no end but its prompt ones."""

from fencewright.searches import late_ways, prompt_ways, with_fences
from fencewright.webs import fenced, is_fence, need_web, places


def _open_places(web):
    # A fence put in beside another one waits for the same line, so that place is left out whatever the others are.
    return [(hand, at) for hand, at in places(web)
            if not is_fence(web[hand][at - 1]) and not is_fence(web[hand][at])]


def _without(some, place):
    return [one for one in some if one != place]


def _way_beyond(web, prompt):
    # None if the web has no end but the prompt ones.
    ways = late_ways(web)
    for end in ways:
        if end not in prompt:
            return ways[end]
    return None


def _wanted(web):
    """A dict of the places that are not left out, each with a way that no fence but its own would hinder."""
    # No fence changes the prompt ends, so they serve for the web with any fences.
    prompt = prompt_ways(web)
    places_left = _open_places(web)
    ways = {}
    for place in list(places_left):
        others = _without(places_left, place)
        way = _way_beyond(fenced(web, others), prompt)
        if way is None:
            places_left = others
        else:
            ways[place] = way
    return ways


def fences(web):
    """The places where fences are wanted, rising, each with a weaving that comes to no prompt end without it."""
    rows = need_web(web)
    ways = _wanted(rows)
    told = list(ways)
    # A way that was found with more fences in the web can be gone with fewer, too.
    return [(place, with_fences(fenced(rows, _without(told, place)), ways[place])) for place in told]
