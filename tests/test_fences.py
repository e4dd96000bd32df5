"""The fences that are wanted (points 8 and 9)."""

import unittest

from fencewright.ends import ends, prompt_ends, woven
from fencewright.errors import BadWeb
from fencewright.fences import fences
from fencewright.webs import fenced, places
from model import FENCE, all_prompt_ends, end_of_weaving, fenced_at, wanted_places
from samples import (CROSS, CROSS_FENCED, CROSS_OF_THREE, EIGHT_IN_ONE, EIGHTS_OVER_THREE, EIGHTS_OVER_TWO, GET,
                     GOOD_WEBS, NO_WEBS, PUT, chance_webs, small_webs, with_many_fences)


def ends_alone(pairs):
    return [end for end, _ in pairs]


class TestFences(unittest.TestCase):
    def check(self, web):
        """The pairs are of the right kinds and do what points 8 and 9 say of them; tells the places."""
        told = fences(web)
        self.assertIs(type(told), list)
        prompt = all_prompt_ends(web)
        found = []
        for pair in told:
            self.assertIs(type(pair), tuple)
            place, weaving = pair
            self.assertEqual((type(place), type(weaving)), (tuple, list))
            others = [other for other, _ in told if other != place]
            end = end_of_weaving(fenced_at(web, others), weaving)
            self.assertIsNotNone(end, (web, place))
            self.assertNotIn(end, prompt, (web, place))
            self.assertEqual(woven(fenced(web, others), weaving), end)
            found.append(place)
        self.assertEqual(found, sorted(set(found)))
        self.assertEqual([place for place in found if place not in places(web)], [])
        for some in (found, places(web)):
            self.assertEqual(ends_alone(ends(fenced(web, some))), sorted(prompt), web)
        return found

    def check_by_the_model(self, web):
        found = self.check(web)
        self.assertEqual(found, wanted_places(web), web)
        return found

    def test_webs_that_want_none(self):
        for web in ([[]], [[], [], []], [[PUT]], [[PUT, GET]], [[PUT], [GET]], [[PUT, PUT], [GET, GET]],
                    [[PUT, ("put", 1, 1)], [("get", 1), GET]], [[GET, ("put", 1, 1)], [("get", 1), PUT]],
                    [[PUT, GET], [("put", 0, 2), GET]]):
            self.assertEqual(fences(web), [], web)
            self.assertEqual(self.check_by_the_model(web), [])

    def test_each_gets_the_other_ones_box(self):
        self.assertEqual(self.check_by_the_model(CROSS), [(0, 1), (1, 1)])
        self.assertEqual(ends_alone(ends(fenced(CROSS, [(0, 1), (1, 1)]))), ends_alone(prompt_ends(CROSS)))

    def test_the_weavings_that_are_told(self):
        for place, weaving in fences(CROSS):
            others = fenced(CROSS, [one for one in places(CROSS) if one != place])
            self.assertEqual(woven(others, weaving), ((1, 1, 0, 0), ((0,), (0,))))

    def test_a_web_that_has_the_fences_already(self):
        self.assertEqual(self.check_by_the_model(CROSS_FENCED), [])

    def test_one_fence_is_wanted_where_the_other_hand_has_its_own(self):
        self.assertEqual(self.check_by_the_model([CROSS_FENCED[0], CROSS[1]]), [(1, 1)])
        self.assertEqual(self.check_by_the_model([CROSS[0], CROSS_FENCED[1]]), [(0, 1)])

    def test_a_fence_in_another_place_does_not_do(self):
        web = [[FENCE, PUT, ("get", 1), FENCE], [FENCE, FENCE, ("put", 1, 1), GET, FENCE, FENCE]]
        self.assertEqual(self.check_by_the_model(web), [(0, 2), (1, 3)])

    def test_three_hands_want_three(self):
        self.assertEqual(self.check_by_the_model(CROSS_OF_THREE), [(0, 1), (1, 1), (2, 1)])

    def test_the_earlier_of_two_places_that_would_do_is_left_out(self):
        web = [[PUT, ("get", 2), ("get", 1)], [("put", 1, 1), ("get", 3), ("get", 0)]]
        self.assertEqual(self.check_by_the_model(web), [(0, 2), (1, 2)])
        self.assertEqual(ends_alone(ends(fenced(web, [(0, 1), (1, 1)]))), ends_alone(prompt_ends(web)))

    def test_two_in_one_row(self):
        # Hand 0 waits for its first put ahead of one get, and for its second put ahead of the other one.
        web = [[PUT, ("get", 1), ("put", 2, 1), ("get", 3)], [("put", 1, 1), ("get", 0)], [("put", 3, 1), ("get", 2)]]
        self.assertEqual(self.check_by_the_model(web), [(0, 1), (0, 3), (1, 1), (2, 1)])

    def test_a_fence_for_a_box_of_ones_own(self):
        web = [[PUT, GET, ("get", 1)], [("put", 1, 1), ("get", 1), GET]]
        self.assertEqual(self.check_by_the_model(web), [(0, 2), (1, 2)])

    def test_no_fence_for_puts_of_what_stands_there(self):
        self.assertEqual(self.check_by_the_model([[("put", 0, 0), ("get", 1)], [("put", 1, 0), ("get", 0)]]), [])

    def test_many_fences(self):
        for many in (1, 30):
            web = [[FENCE] * many + row + [FENCE] * many for row in CROSS]
            self.assertEqual(self.check(web), [(0, many + 1), (1, many + 1)])
            self.assertEqual(self.check(with_many_fences(CROSS, many)), [])
        self.assertEqual(fences([[FENCE] * 2000, [FENCE] * 2000]), [])

    def test_thousands_of_fences(self):
        web = [[FENCE] * 3000 + row + [FENCE] * 3000 for row in CROSS]
        told = fences(web)
        self.assertEqual([place for place, _ in told], [(0, 3001), (1, 3001)])
        prompt = ends_alone(prompt_ends(web))
        for place, weaving in told:
            others = [other for other, _ in told if other != place]
            self.assertNotIn(woven(fenced(web, others), weaving), prompt)

    def test_eight_puts_and_gets_in_one_row(self):
        self.assertEqual(self.check_by_the_model(EIGHT_IN_ONE), [])

    def test_eight_puts_and_gets_over_two_rows(self):
        wanted = [[(0, 1), (0, 3), (1, 1), (1, 3)], [], [(0, 2), (1, 2)]]
        self.assertEqual([self.check_by_the_model(web) for web in EIGHTS_OVER_TWO], wanted)

    def test_eight_puts_and_gets_over_three_rows(self):
        wanted = [[(0, 1), (1, 1), (2, 1)], [], [], [(1, 2), (2, 1)]]
        self.assertEqual([self.check_by_the_model(web) for web in EIGHTS_OVER_THREE], wanted)

    def test_against_the_model_all_small_webs(self):
        for web in small_webs():
            self.check_by_the_model(web)

    def test_against_the_model_by_chance(self):
        for web in chance_webs(2, 80, 5):
            if len(places(web)) <= 6:
                self.check_by_the_model(web)

    def test_against_the_model_webs_that_want_some(self):
        """Crossing webs, with a step or two more put in here and there."""
        more = [("put", 0, 2), ("put", 1, -1), ("get", 0), ("get", 1), ("put", 2, 5), FENCE]
        for at in range(3):
            for step in more:
                for other in more:
                    first = CROSS[0][:at] + [step] + CROSS[0][at:]
                    self.check_by_the_model([first, [other] + CROSS[1]])
                    self.check_by_the_model([first, [CROSS[1][0], other, CROSS[1][1]]])

    def test_webs_of_point_2(self):
        for web in GOOD_WEBS:
            if sum(len(row) for row in web) < 100:
                self.check(web)

    def test_refuses_what_is_no_web(self):
        for thing in NO_WEBS:
            with self.assertRaises(BadWeb, msg=str(thing)[:60]):
                fences(thing)


if __name__ == "__main__":
    unittest.main()
