"""Webs (point 2), their places and fences (point 8)."""

import copy
import unittest

from fencewright.errors import BadWeb, NoPlace
from fencewright.webs import fenced, need_web, places
from samples import FENCE, GET, GOOD_WEBS, NO_STEPS, NO_WEBS, PUT


def lists_of(web):
    return [web] + list(web)


class TestNeedWeb(unittest.TestCase):
    def test_tells_the_web(self):
        for web in GOOD_WEBS:
            self.assertEqual(need_web(web), web)

    def test_tells_lists_within_a_list(self):
        told = need_web([[PUT], []])
        self.assertIs(type(told), list)
        self.assertEqual([type(row) for row in told], [list, list])

    def test_tells_new_lists_and_changes_nothing(self):
        for web in GOOD_WEBS:
            before = copy.deepcopy(web)
            first = need_web(web)
            second = need_web(web)
            self.assertEqual(web, before)
            kept = [id(one) for one in lists_of(web) + lists_of(first)]
            for one in lists_of(second):
                self.assertNotIn(id(one), kept)

    def test_one_row_in_two_places_is_a_web(self):
        row = [PUT]
        self.assertEqual(need_web([row, row]), [[PUT], [PUT]])

    def test_refuses_what_is_no_web(self):
        for thing in NO_WEBS:
            with self.assertRaises(BadWeb, msg=str(thing)[:60]):
                need_web(thing)

    def test_refuses_what_is_no_step_wherever_it_stands(self):
        for thing in NO_STEPS:
            for web in ([[thing]], [[PUT, thing]], [[thing, FENCE]], [[], [], [GET, thing]]):
                with self.assertRaises(BadWeb):
                    need_web(web)

    def test_refuses_a_list_within_itself(self):
        web = []
        web.append(web)
        with self.assertRaises(BadWeb):
            need_web(web)


class TestPlaces(unittest.TestCase):
    def test_rows_of_none_one_and_more_steps(self):
        self.assertEqual(places([[]]), [])
        self.assertEqual(places([[PUT]]), [])
        self.assertEqual(places([[PUT, GET]]), [(0, 1)])
        self.assertEqual(places([[], [PUT], [PUT, GET, FENCE]]), [(2, 1), (2, 2)])

    def test_rising_over_the_hands(self):
        web = [[PUT, GET, FENCE], [PUT, GET], [FENCE, FENCE, GET, PUT]]
        self.assertEqual(places(web), [(0, 1), (0, 2), (1, 1), (2, 1), (2, 2), (2, 3)])

    def test_a_new_list_of_tuples_each_time(self):
        web = [[PUT, GET], [GET, GET]]
        before = copy.deepcopy(web)
        told = places(web)
        self.assertIs(type(told), list)
        self.assertEqual([type(place) for place in told], [tuple, tuple])
        told.clear()
        self.assertEqual(places(web), [(0, 1), (1, 1)])
        self.assertEqual(web, before)

    def test_refuses_what_is_no_web(self):
        for thing in NO_WEBS:
            with self.assertRaises(BadWeb, msg=str(thing)[:60]):
                places(thing)


class TestFenced(unittest.TestCase):
    web = [[PUT, GET, FENCE], [], [GET, PUT]]

    def test_at_none(self):
        self.assertEqual(fenced(self.web, []), self.web)

    def test_at_some(self):
        self.assertEqual(fenced(self.web, [(0, 1)]), [[PUT, FENCE, GET, FENCE], [], [GET, PUT]])
        self.assertEqual(fenced(self.web, [(2, 1)]), [[PUT, GET, FENCE], [], [GET, FENCE, PUT]])
        self.assertEqual(fenced(self.web, [(0, 2)]), [[PUT, GET, FENCE, FENCE], [], [GET, PUT]])

    def test_at_all_in_any_order(self):
        whole = [[PUT, FENCE, GET, FENCE, FENCE], [], [GET, FENCE, PUT]]
        self.assertEqual(fenced(self.web, places(self.web)), whole)
        self.assertEqual(fenced(self.web, [(2, 1), (0, 2), (0, 1)]), whole)

    def test_a_place_told_twice_gets_one_fence(self):
        some = [(2, 1), (0, 1), (2, 1), (2, 1)]
        self.assertEqual(fenced(self.web, some), [[PUT, FENCE, GET, FENCE], [], [GET, FENCE, PUT]])

    def test_the_places_are_those_of_the_web_handed_in(self):
        web = [[PUT, GET, PUT, GET]]
        self.assertEqual(fenced(web, [(0, 1), (0, 3)]), [[PUT, FENCE, GET, PUT, FENCE, GET]])

    def test_many_fences(self):
        web = [[FENCE] * 2000]
        self.assertEqual(fenced(web, places(web)), [[FENCE] * 3999])

    def test_with_all_puts_and_gets_it_stays_a_web(self):
        web = [[PUT, GET] * 4]
        told = fenced(web, places(web))
        self.assertEqual(need_web(told), told)
        self.assertEqual(len(told[0]), 15)

    def test_nothing_handed_in_is_changed_and_no_list_is_shared(self):
        for some in ([], [(0, 1)], [(0, 1), (0, 1), (0, 2), (2, 1)]):
            web = copy.deepcopy(self.web)
            chosen = list(some)
            told = fenced(web, chosen)
            self.assertEqual((web, chosen), (self.web, some))
            kept = [id(one) for one in lists_of(web)]
            for one in lists_of(told):
                self.assertNotIn(id(one), kept)
            again = fenced(web, chosen)
            told[0].append(PUT)
            told.pop()
            self.assertEqual(web, self.web)
            self.assertEqual(fenced(web, chosen), again)

    def test_one_row_in_two_places_is_fenced_in_one(self):
        row = [PUT, GET]
        self.assertEqual(fenced([row, row], [(1, 1)]), [[PUT, GET], [PUT, FENCE, GET]])

    def test_refuses_what_is_no_place(self):
        bad = [
            (0, 0), (0, 3), (0, 4), (0, -1), (1, 0), (1, 1), (2, 0), (2, 2), (3, 1), (-1, 1), (-3, 1),
            (True, 1), (False, 1), (0, True), (2, True), (0, 1.0), (0.0, 1), ("0", 1), (0, "1"), (None, 1),
            (0, None), ([0], 1), (0, [1]), ((0,), 1), (), (0,), (0, 1, 2), [0, 1], [], 0, 1, None, "01", {},
            {0: 1}, ((0, 1),), True, 10 ** 40, (0, 10 ** 40),
        ]
        for thing in bad:
            for some in ([thing], [(0, 1), thing], [thing, (0, 1)]):
                with self.assertRaises(NoPlace, msg=repr(thing)):
                    fenced(self.web, some)

    def test_a_refused_list_is_as_before(self):
        web = copy.deepcopy(self.web)
        some = [(0, 1), (0, 0)]
        with self.assertRaises(NoPlace):
            fenced(web, some)
        self.assertEqual((web, some), (self.web, [(0, 1), (0, 0)]))

    def test_refuses_what_is_no_list(self):
        for thing in (None, 0, "", (0, 1), ((0, 1),)):
            with self.assertRaises(NoPlace):
                fenced(self.web, thing)

    def test_refuses_what_is_no_web_first(self):
        for thing in NO_WEBS:
            for some in ([], [(0, 1)], [None], [(0, 0)], None):
                with self.assertRaises(BadWeb, msg=str(thing)[:60]):
                    fenced(thing, some)


if __name__ == "__main__":
    unittest.main()
