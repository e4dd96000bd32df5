"""Weavings and prompt weavings (points 5 and 6), ends and prompt ends (point 7)."""

import random
import unittest

from fencewright.ends import ends, is_prompt, prompt_ends, woven
from fencewright.errors import BadWeb, NoMove, NotOver
from model import FENCE, SEND, STEP, Model, all_ends, all_prompt_ends, end_of_weaving, put_and_sent
from samples import (CROSS, CROSS_FENCED, CROSS_OF_THREE, EIGHT_IN_ONE, EIGHTS_OVER_THREE, EIGHTS_OVER_TWO, GET,
                     GOOD_WEBS, NO_MOVES, NO_WEBS, PUT, THIRTY, chance_webs, small_webs, with_many_fences)

NOUGHT = (0, 0, 0, 0)
A_STEP, A_SEND = (0, STEP), (0, SEND)
B_STEP, B_SEND = (1, STEP), (1, SEND)
C_STEP, C_SEND = (2, STEP), (2, SEND)

# Each a web, a weaving of it, the end, and whether the weaving is a prompt one.
WEAVINGS = [
    ([[]], [], (NOUGHT, ((),)), True),
    ([[], []], [], (NOUGHT, ((), ())), True),
    ([[], [], []], [], (NOUGHT, ((), (), ())), True),
    ([[FENCE] * 3], [A_STEP] * 3, (NOUGHT, ((),)), True),
    ([[FENCE], [], [FENCE] * 2], [C_STEP, A_STEP, C_STEP], (NOUGHT, ((), (), ())), True),
    ([[GET]], [A_STEP], (NOUGHT, ((0,),)), True),
    ([[PUT]], [A_STEP, A_SEND], ((1, 0, 0, 0), ((),)), True),
    ([[PUT, GET]], [A_STEP, A_SEND, A_STEP], ((1, 0, 0, 0), ((1,),)), True),
    ([[PUT, GET]], [A_STEP, A_STEP, A_SEND], ((1, 0, 0, 0), ((1,),)), False),
    ([[PUT, FENCE]], [A_STEP, A_SEND, A_STEP], ((1, 0, 0, 0), ((),)), True),
    ([[FENCE, PUT]], [A_STEP, A_STEP, A_SEND], ((1, 0, 0, 0), ((),)), True),
    ([[PUT, ("put", 0, 2)]], [A_STEP, A_SEND, A_STEP, A_SEND], ((2, 0, 0, 0), ((),)), True),
    ([[PUT, ("put", 0, 2)]], [A_STEP, A_STEP, A_SEND, A_SEND], ((2, 0, 0, 0), ((),)), False),
    ([[PUT], [GET]], [A_STEP, A_SEND, B_STEP], ((1, 0, 0, 0), ((), (1,))), True),
    ([[PUT], [GET]], [B_STEP, A_STEP, A_SEND], ((1, 0, 0, 0), ((), (0,))), True),
    ([[PUT], [GET]], [A_STEP, B_STEP, A_SEND], ((1, 0, 0, 0), ((), (0,))), False),
    ([[PUT], [FENCE]], [A_STEP, B_STEP, A_SEND], ((1, 0, 0, 0), ((), ())), False),
    ([[PUT], [("put", 0, 2)]], [A_STEP, B_STEP, B_SEND, A_SEND], ((1, 0, 0, 0), ((), ())), False),
    ([[PUT], [("put", 0, 2)]], [A_STEP, B_STEP, A_SEND, B_SEND], ((2, 0, 0, 0), ((), ())), False),
    ([[PUT], [("put", 0, 2)]], [B_STEP, B_SEND, A_STEP, A_SEND], ((1, 0, 0, 0), ((), ())), True),
    (CROSS, [A_STEP, A_STEP, B_STEP, B_STEP, A_SEND, B_SEND], ((1, 1, 0, 0), ((0,), (0,))), False),
    (CROSS, [A_STEP, A_SEND, A_STEP, B_STEP, B_SEND, B_STEP], ((1, 1, 0, 0), ((0,), (1,))), True),
    (CROSS, [A_STEP, A_SEND, B_STEP, A_STEP, B_SEND, B_STEP], ((1, 1, 0, 0), ((0,), (1,))), False),
    (CROSS_FENCED, [A_STEP, A_SEND, B_STEP, B_SEND, B_STEP, A_STEP, A_STEP, B_STEP],
     ((1, 1, 0, 0), ((1,), (1,))), True),
    (CROSS_OF_THREE, [C_STEP, C_SEND, A_STEP, A_SEND, C_STEP, B_STEP, B_SEND, A_STEP, B_STEP],
     ((1, 1, 1, 0), ((1,), (1,), (1,))), True),
    ([[("put", 3, -THIRTY)], [("get", 3), ("get", 3)]], [B_STEP, A_STEP, A_SEND, B_STEP],
     ((0, 0, 0, -THIRTY), ((), (0, -THIRTY))), True),
]

# Each a web and a list of moves of which one cannot be done.
FAILING = [
    ([[]], [A_STEP]), ([[]], [A_SEND]), ([[], []], [B_STEP]),
    ([[PUT]], [A_SEND]), ([[PUT]], [A_SEND, A_STEP]), ([[PUT]], [A_STEP, A_STEP, A_SEND]),
    ([[PUT]], [A_STEP, A_SEND, A_SEND]), ([[PUT], [GET]], [A_STEP, B_SEND, B_STEP, A_SEND]),
    ([[PUT, FENCE]], [A_STEP, A_STEP, A_SEND]), ([[PUT, FENCE]], [A_STEP, A_STEP]),
    ([[PUT], [GET]], [A_STEP, A_SEND, C_STEP, B_STEP]), ([[GET]], [B_STEP, A_STEP]),
    ([[PUT, GET], [GET]], [(-1, STEP)]), ([[PUT, GET], [GET]], [A_STEP, (-2, SEND)]),
    ([[PUT], [PUT]], [(False, STEP), A_SEND, B_STEP, B_SEND]), ([[PUT], [PUT]], [A_STEP, A_SEND, (True, STEP), B_SEND]),
    ([[PUT], [PUT]], [A_STEP, (False, SEND), B_STEP, B_SEND]), ([[PUT], [PUT]], [A_STEP, A_SEND, B_STEP, (True, SEND)]),
    ([[PUT], [PUT]], [[0, STEP], A_SEND, B_STEP, B_SEND]),
]


def one_more_at_each_place(weaving, thing):
    return [weaving[:at] + [thing] + weaving[at:] for at in range(len(weaving) + 1)]


class TestWoven(unittest.TestCase):
    def test_tells_the_end(self):
        for web, weaving, end, _ in WEAVINGS:
            told = woven(web, weaving)
            self.assertEqual(told, end, weaving)
            self.assertIs(type(told), tuple)

    def test_cut_short(self):
        for web, weaving, _, _ in WEAVINGS:
            for many in range(len(weaving)):
                with self.assertRaises(NotOver):
                    woven(web, weaving[:many])

    def test_a_move_too_many(self):
        for web, weaving, _, _ in WEAVINGS:
            for hand in range(-1, len(web) + 1):
                for kind in (STEP, SEND):
                    with self.assertRaises(NoMove):
                        woven(web, weaving + [(hand, kind)])

    def test_a_move_that_cannot_be_done(self):
        for web, weaving in FAILING:
            with self.assertRaises(NoMove, msg=weaving):
                woven(web, weaving)

    def test_no_move_goes_ahead_of_not_over(self):
        for thing in ((0, "steps"), (2, STEP), (-1, STEP), (True, STEP), None, (1, SEND)):
            for weaving in ([thing], [A_STEP, thing], [A_STEP, A_SEND, thing]):
                with self.assertRaises(NoMove):
                    woven(CROSS, weaving)

    def test_what_is_no_move_at_all(self):
        whole = [A_STEP, A_SEND, A_STEP, B_STEP, B_STEP, B_SEND]
        for thing in NO_MOVES:
            for weaving in one_more_at_each_place(whole, thing):
                with self.assertRaises(NoMove, msg=repr(thing)):
                    woven(CROSS, weaving)

    def test_a_list_within_itself(self):
        weaving = [A_STEP]
        weaving.append(weaving)
        with self.assertRaises(NoMove):
            woven(CROSS, weaving)
        self.assertIs(is_prompt(CROSS, weaving), False)

    def test_what_is_no_list(self):
        for thing in (None, 0, True, "", (), {}, (A_STEP, A_SEND)):
            with self.assertRaises(NoMove):
                woven([[PUT]], thing)

    def test_refuses_what_is_no_web_first(self):
        for thing in NO_WEBS:
            for weaving in ([], [A_STEP], [None], [(-1, STEP)], None):
                with self.assertRaises(BadWeb, msg=str(thing)[:60]):
                    woven(thing, weaving)

    def test_by_chance_against_the_model(self):
        chance = random.Random(5)
        for web in chance_webs(7, 300, 8):
            model, weaving = Model(web), []
            while model.doable():
                weaving.append(chance.choice(model.doable()))
                model.do(*weaving[-1])
            self.assertEqual(woven(web, weaving), model.end())
            self.assertIs(is_prompt(web, weaving), put_and_sent(web, weaving))
            chance.shuffle(weaving)
            end = end_of_weaving(web, weaving)
            if end is None:
                with self.assertRaises(NoMove):
                    woven(web, weaving)
                self.assertIs(is_prompt(web, weaving), False)
            else:
                self.assertEqual(woven(web, weaving), end)


class TestIsPrompt(unittest.TestCase):
    def test_tells_which_weavings_are_prompt(self):
        for web, weaving, _, prompt in WEAVINGS:
            self.assertIs(is_prompt(web, weaving), prompt, (web, weaving))

    def test_a_list_cut_short_or_with_a_move_too_many(self):
        for web, weaving, _, _ in WEAVINGS:
            for many in range(len(weaving)):
                self.assertIs(is_prompt(web, weaving[:many]), False)
            for hand in range(-1, len(web) + 1):
                for kind in (STEP, SEND):
                    self.assertIs(is_prompt(web, weaving + [(hand, kind)]), False)

    def test_a_move_that_cannot_be_done(self):
        for web, weaving in FAILING:
            self.assertIs(is_prompt(web, weaving), False, weaving)

    def test_what_is_no_move_at_all(self):
        whole = [A_STEP, A_SEND, A_STEP, B_STEP, B_SEND, B_STEP]
        self.assertIs(is_prompt(CROSS, whole), True)
        for thing in NO_MOVES:
            for weaving in one_more_at_each_place(whole, thing):
                self.assertIs(is_prompt(CROSS, weaving), False, repr(thing))
            for at in range(len(whole)):
                self.assertIs(is_prompt(CROSS, whole[:at] + [thing] + whole[at + 1:]), False, repr(thing))

    def test_a_send_left_out(self):
        web = [[PUT, ("put", 1, 2), GET]]
        whole = [A_STEP, A_SEND, A_STEP, A_SEND, A_STEP]
        self.assertIs(is_prompt(web, whole), True)
        self.assertIs(is_prompt(web, [A_STEP, A_STEP, A_SEND, A_STEP]), False)
        self.assertIs(is_prompt(web, [A_STEP, A_SEND, A_STEP, A_STEP]), False)

    def test_a_send_of_another_hand_between_a_put_and_its_send(self):
        web = [[PUT], [("put", 1, 2)]]
        self.assertIs(is_prompt(web, [A_STEP, B_STEP, B_SEND, A_SEND]), False)
        self.assertIs(is_prompt(web, [A_STEP, B_STEP, A_SEND, B_SEND]), False)
        self.assertIs(is_prompt(web, [A_STEP, A_SEND, B_STEP, B_SEND]), True)

    def test_a_puts_send_told_later(self):
        web = [[PUT, FENCE, GET], [("get", 0), FENCE]]
        self.assertIs(is_prompt(web, [A_STEP, A_SEND, A_STEP, A_STEP, B_STEP, B_STEP]), True)
        for weaving in ([A_STEP, B_STEP, A_SEND, A_STEP, A_STEP, B_STEP],
                        [B_STEP, A_STEP, B_STEP, A_SEND, A_STEP, A_STEP]):
            self.assertIsNotNone(end_of_weaving(web, weaving))
            self.assertIs(is_prompt(web, weaving), False)

    def test_two_puts_of_one_hand_ahead_of_their_sends(self):
        web = [[PUT, PUT]]
        self.assertIs(is_prompt(web, [A_STEP, A_STEP, A_SEND, A_SEND]), False)
        self.assertIs(is_prompt(web, [A_STEP, A_SEND, A_STEP, A_SEND]), True)

    def test_what_is_no_list(self):
        for thing in (None, 0, True, "", (), {}, (A_STEP, A_SEND)):
            self.assertIs(is_prompt([[PUT]], thing), False)

    def test_refuses_what_is_no_web_first(self):
        for thing in NO_WEBS:
            for weaving in ([], [A_STEP], [None], [(-1, STEP)], None):
                with self.assertRaises(BadWeb, msg=str(thing)[:60]):
                    is_prompt(thing, weaving)


class TestEnds(unittest.TestCase):
    def check_pairs(self, web, told, prompt):
        """The pairs are of the right kinds, rise, and each weaving comes to its end; tells the ends."""
        self.assertIs(type(told), list)
        found = []
        for pair in told:
            self.assertIs(type(pair), tuple)
            end, weaving = pair
            self.assertEqual((type(end), type(weaving)), (tuple, list))
            self.assertEqual({type(move) for move in weaving} - {tuple}, set())
            self.assertEqual(woven(web, weaving), end)
            self.assertEqual(end_of_weaving(web, weaving), end)
            self.assertIs(is_prompt(web, weaving), put_and_sent(web, weaving))
            if prompt:
                self.assertIs(is_prompt(web, weaving), True, (web, weaving))
            found.append(end)
        self.assertEqual(found, sorted(set(found)))
        return found

    def check(self, web):
        late = self.check_pairs(web, ends(web), False)
        prompt = self.check_pairs(web, prompt_ends(web), True)
        self.assertGreater(len(prompt), 0)
        self.assertEqual([end for end in prompt if end not in late], [])
        return late, prompt

    def check_by_the_model(self, web):
        late, prompt = self.check(web)
        self.assertEqual(late, sorted(all_ends(web)), web)
        self.assertEqual(prompt, sorted(all_prompt_ends(web)), web)
        return late, prompt

    def test_each_gets_the_other_ones_box(self):
        boxes = (1, 1, 0, 0)
        prompt = [(boxes, ((0,), (1,))), (boxes, ((1,), (0,))), (boxes, ((1,), (1,)))]
        self.assertEqual(self.check(CROSS), ([(boxes, ((0,), (0,)))] + prompt, prompt))

    def test_the_same_with_fences_between(self):
        boxes = (1, 1, 0, 0)
        prompt = [(boxes, ((0,), (1,))), (boxes, ((1,), (0,))), (boxes, ((1,), (1,)))]
        self.assertEqual(self.check(CROSS_FENCED), (prompt, prompt))
        for one_fence in ([CROSS_FENCED[0], CROSS[1]], [CROSS[0], CROSS_FENCED[1]]):
            self.assertEqual(self.check(one_fence), ([(boxes, ((0,), (0,)))] + prompt, prompt))

    def test_three_hands_in_a_ring(self):
        late, prompt = self.check_by_the_model(CROSS_OF_THREE)
        beyond = ((1, 1, 1, 0), ((0,), (0,), (0,)))
        self.assertEqual([end for end in late if end not in prompt], [beyond])

    def test_rows_without_steps(self):
        for web in ([[]], [[], []], [[], [], []]):
            only = [((NOUGHT, tuple(() for _ in web)), [])]
            self.assertEqual(ends(web), only)
            self.assertEqual(prompt_ends(web), only)

    def test_rows_of_fences_alone(self):
        for web in ([[FENCE]], [[FENCE] * 3, []], [[FENCE], [FENCE] * 2, [FENCE]]):
            for told in (ends(web), prompt_ends(web)):
                self.assertEqual([end for end, _ in told], [(NOUGHT, tuple(() for _ in web))])
                self.assertEqual(sorted(told[0][1]), [(hand, STEP) for hand, row in enumerate(web) for _ in row])

    def test_what_ends_rise_by(self):
        web = [[("put", 0, 10), ("put", 0, -9)], [("put", 0, 9)], [("get", 0)]]
        told = [((-9, 0, 0, 0), ((), (), (n,))) for n in (-9, 0, 9, 10)]
        told += [((9, 0, 0, 0), ((), (), (n,))) for n in (-9, 0, 9, 10)]
        self.assertEqual(self.check(web), (told, told))

    def test_a_box_is_got_where_nothing_was_put(self):
        self.assertEqual(self.check([[("get", 3), ("get", 2)]])[0], [(NOUGHT, ((0, 0),))])

    def test_one_hand_has_one_end(self):
        late, prompt = self.check_by_the_model(EIGHT_IN_ONE)
        self.assertEqual(late, [((4, 2, 0, 0), ((1, 2, 3, 0),))])
        self.assertEqual(prompt, late)

    def test_a_hand_gets_its_own_put_late_or_prompt(self):
        web = [[("put", 0, 1), ("get", 0), ("get", 1)], [("put", 1, 1), ("get", 1), ("get", 0)]]
        late, prompt = self.check_by_the_model(web)
        self.assertEqual([end for end in late if end not in prompt], [((1, 1, 0, 0), ((1, 0), (1, 0)))])

    def test_three_puts_and_several_gets_of_that_box(self):
        web = [[("put", 0, 1), ("put", 0, 2), ("put", 0, 3)], [("get", 0), ("get", 0), ("get", 0)]]
        rising = [(a, b, c) for a in range(4) for b in range(a, 4) for c in range(b, 4)]
        told = [((3, 0, 0, 0), ((), got)) for got in rising]
        self.assertEqual(self.check_by_the_model(web), (told, told))

    def test_eight_puts_and_gets_over_more_rows(self):
        for web in EIGHTS_OVER_TWO + EIGHTS_OVER_THREE:
            self.check_by_the_model(web)

    def test_many_fences_change_no_more_than_a_few(self):
        for web in [CROSS, EIGHT_IN_ONE] + EIGHTS_OVER_TWO + EIGHTS_OVER_THREE:
            self.assertEqual(self.check(with_many_fences(web, 40)), self.check(with_many_fences(web, 1)))

    def test_thousands_of_fences(self):
        web = with_many_fences(CROSS, 3000)
        boxes = (1, 1, 0, 0)
        prompt = [(boxes, ((0,), (1,))), (boxes, ((1,), (0,))), (boxes, ((1,), (1,)))]
        self.assertEqual([end for end, _ in ends(web)], prompt)
        self.assertEqual([end for end, _ in prompt_ends(web)], prompt)
        for end, weaving in ends(web) + prompt_ends(web):
            self.assertEqual(woven(web, weaving), end)

    def test_numbers_of_thirty_figures(self):
        web = [[("put", 0, THIRTY), ("get", 1)], [("put", 1, -THIRTY), ("get", 0)]]
        boxes = (THIRTY, -THIRTY, 0, 0)
        late = [(boxes, ((-THIRTY,), (0,))), (boxes, ((-THIRTY,), (THIRTY,))), (boxes, ((0,), (0,))),
                (boxes, ((0,), (THIRTY,)))]
        self.assertEqual(self.check(web), (late, [late[0], late[1], late[3]]))

    def test_against_the_model_all_small_webs(self):
        for web in small_webs():
            self.check_by_the_model(web)

    def test_against_the_model_by_chance(self):
        for web in chance_webs(1, 250, 6):
            self.check_by_the_model(web)

    def test_webs_of_point_2(self):
        for web in GOOD_WEBS:
            self.check(web)

    def test_refuses_what_is_no_web(self):
        for thing in NO_WEBS:
            for told in (ends, prompt_ends):
                with self.assertRaises(BadWeb, msg=str(thing)[:60]):
                    told(thing)


if __name__ == "__main__":
    unittest.main()
