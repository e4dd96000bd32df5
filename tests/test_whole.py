"""What points 1 and 2 and the interface promise over the whole program."""

import copy
import unittest

from fencewright.ends import ends, is_prompt, prompt_ends, woven
from fencewright.errors import BadWeb, WebError
from fencewright.fences import fences
from fencewright.notes import read, shown
from fencewright.states import begun, can, end_of, is_over, moved
from fencewright.webs import fenced, need_web, places
from model import FENCE, SEND, STEP
from samples import CROSS, CROSS_OF_THREE, EIGHTS_OVER_TWO, GOOD_WEBS, NO_STEPS, NO_WEBS

# What stands beside the web: right or wrong, of each kind.
BESIDE = [[], [(0, STEP)], [(0, 1)], [None], [(-1, STEP)], [(0, 0)], None, 7, "", ()]
WITH_A_WEB_ALONE = [need_web, places, begun, ends, prompt_ends, fences, shown]
WITH_A_LIST = [fenced, woven, is_prompt]


def prompt_weaving(web):
    return prompt_ends(web)[0][1]


def calls(web):
    """Each function of the package on the web, with fit things beside it, and some with wrong ones."""
    some, weaving, state = places(web), prompt_weaving(web), begun(web)
    last = state
    for move in weaving:
        last = moved(web, last, move)
    return [
        (need_web, (web,)), (places, (web,)), (fenced, (web, some)), (begun, (web,)), (ends, (web,)),
        (prompt_ends, (web,)), (fences, (web,)), (shown, (web,)), (woven, (web, weaving)), (is_prompt, (web, weaving)),
        (woven, (web, weaving + [(0, SEND)])), (is_prompt, (web, [None])), (fenced, (web, [None])),
        (can, (web, state, (0, STEP))), (is_over, (web, state)), (end_of, (web, last)), (read, (shown(web),)),
        (moved, (web, state, weaving[0] if weaving else None)),
    ]


def outcome(function, arguments):
    try:
        return function(*arguments)
    except WebError as refusal:
        return type(refusal)


def lists_in(thing):
    found = [thing] if isinstance(thing, list) else []
    if isinstance(thing, (list, tuple)):
        for part in thing:
            found += lists_in(part)
    return found


class TestBadWebs(unittest.TestCase):
    def test_each_function_refuses_what_is_no_web_first(self):
        bad = NO_WEBS + [[[step]] for step in NO_STEPS]
        for web in bad:
            for function in WITH_A_WEB_ALONE:
                with self.assertRaises(BadWeb):
                    function(web)
            for function in WITH_A_LIST:
                for beside in BESIDE:
                    with self.assertRaises(BadWeb):
                        function(web, beside)

    def test_just_that_kind(self):
        for function in WITH_A_WEB_ALONE:
            self.assertIs(outcome(function, ([],)), BadWeb)
        for function in WITH_A_LIST:
            self.assertIs(outcome(function, ([], [None])), BadWeb)


class TestNothingIsChanged(unittest.TestCase):
    webs = [web for web in GOOD_WEBS if sum(len(row) for row in web) < 100]
    webs += [CROSS, CROSS_OF_THREE, EIGHTS_OVER_TWO[0], [[FENCE, ("put", 0, 1), FENCE, ("get", 0)], [], [FENCE]]]

    def test_what_is_handed_in_is_as_before(self):
        for web in self.webs:
            for function, arguments in calls(copy.deepcopy(web)):
                before = copy.deepcopy(arguments)
                outcome(function, arguments)
                self.assertEqual(repr(arguments), repr(before), function.__name__)

    def test_changing_what_was_told_changes_nothing_told_later(self):
        for web in self.webs:
            for function, arguments in calls(web):
                before = copy.deepcopy(arguments)
                told = outcome(function, arguments)
                kept = copy.deepcopy(told)
                mine = [id(one) for one in lists_in(list(arguments))]
                theirs = lists_in(told)
                self.assertEqual(len({id(one) for one in theirs}), len(theirs), function.__name__)
                for one in theirs:
                    self.assertNotIn(id(one), mine, function.__name__)
                    one.append("more")
                    one.reverse()
                self.assertEqual(arguments, before, function.__name__)
                self.assertEqual(outcome(function, arguments), kept, function.__name__)

    def test_changing_a_web_behind_a_call_changes_nothing_told_before(self):
        for function in WITH_A_WEB_ALONE:
            web = copy.deepcopy(CROSS)
            told = function(web)
            kept = copy.deepcopy(told)
            web[0].clear()
            web.pop()
            self.assertEqual(told, kept)

    def test_the_same_is_told_each_time(self):
        for web in self.webs:
            for function, arguments in calls(web):
                self.assertEqual(outcome(function, arguments), outcome(function, arguments))


if __name__ == "__main__":
    unittest.main()
