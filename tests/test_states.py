"""States (point 3), moves (point 4) and the end (point 5)."""

import copy
import unittest

from fencewright.errors import BadWeb, NoMove, NotOver
from fencewright.states import begun, can, end_of, is_over, moved
from model import FENCE, SEND, STEP, Model
from samples import NO_MOVES


def after(web, moves):
    """The state behind the moves, each of which can be done."""
    state = begun(web)
    for move in moves:
        if can(web, state, move) is not True:
            raise AssertionError((move, state))
        state = moved(web, state, move)
    return state


def only_tuples(thing):
    if isinstance(thing, tuple):
        return type(thing) is tuple and all(only_tuples(part) for part in thing)
    return type(thing) is int


class TestBegun(unittest.TestCase):
    def test_first_states(self):
        nought = (0, 0, 0, 0)
        self.assertEqual(begun([[]]), ((0,), ((),), nought, ((),)))
        self.assertEqual(begun([[("get", 0)], []]), ((0, 0), ((), ()), nought, ((), ())))
        web = [[("put", 3, 9)], [FENCE], [("put", 0, 1), ("get", 0)]]
        self.assertEqual(begun(web), ((0, 0, 0), ((), (), ()), nought, ((), (), ())))

    def test_tuples_within_tuples(self):
        for web in ([[]], [[], []], [[], [FENCE], []]):
            self.assertTrue(only_tuples(begun(web)))

    def test_refuses_what_is_no_web(self):
        nine = [[("put", 0, 1)] * 9]
        for thing in (None, True, 0, "", {}, (), ([],), [], [[], [], [], []], [None], [()], [[None]],
                      [[("get", True)]], [[["fence"]]], nine):
            with self.assertRaises(BadWeb, msg=repr(thing)):
                begun(thing)

    def test_changes_nothing(self):
        web = [[("put", 0, 1)], []]
        begun(web)
        self.assertEqual(web, [[("put", 0, 1)], []])


class TestMoves(unittest.TestCase):
    def test_a_put_goes_behind_the_line(self):
        web = [[("put", 1, 5), ("put", 2, -6)], []]
        one = after(web, [(0, STEP)])
        self.assertEqual(one, ((1, 0), (((1, 5),), ()), (0, 0, 0, 0), ((), ())))
        two = after(web, [(0, STEP), (0, STEP)])
        self.assertEqual(two, ((2, 0), (((1, 5), (2, -6)), ()), (0, 0, 0, 0), ((), ())))

    def test_a_send_takes_the_first_pair(self):
        web = [[("put", 1, 5), ("put", 2, -6)], []]
        two = [(0, STEP), (0, STEP)]
        self.assertEqual(after(web, two + [(0, SEND)]), ((2, 0), (((2, -6),), ()), (0, 5, 0, 0), ((), ())))
        self.assertEqual(after(web, two + [(0, SEND)] * 2), ((2, 0), ((), ()), (0, 5, -6, 0), ((), ())))

    def test_two_puts_into_one_box_are_sent_in_order(self):
        web = [[("put", 0, 1), ("put", 0, 2)]]
        state = after(web, [(0, STEP), (0, STEP), (0, SEND)])
        self.assertEqual(state, ((2,), (((0, 2),),), (1, 0, 0, 0), ((),)))
        self.assertEqual(moved(web, state, (0, SEND)), ((2,), ((),), (2, 0, 0, 0), ((),)))

    def test_a_get_by_the_same_hand_takes_its_lines_last_pair(self):
        web = [[("put", 0, 1), ("put", 0, 2), ("put", 1, 3), ("get", 0), ("get", 1), ("get", 2)]]
        self.assertEqual(after(web, [(0, STEP)] * 6)[3], ((2, 3, 0),))
        self.assertEqual(after(web, [(0, STEP)] * 2 + [(0, SEND)] + [(0, STEP)] * 4)[3], ((2, 3, 0),))
        self.assertEqual(after(web, [(0, STEP)] * 3 + [(0, SEND)] * 3 + [(0, STEP)] * 3)[3], ((2, 3, 0),))

    def test_a_hand_does_not_get_its_own_later_put(self):
        web = [[("get", 0), ("put", 0, 1)]]
        self.assertEqual(after(web, [(0, STEP), (0, STEP)])[3], ((0,),))

    def test_the_own_line_goes_ahead_of_the_box(self):
        web = [[("put", 0, 1), ("get", 0)], [("put", 0, 2)]]
        moves = [(0, STEP), (1, STEP), (1, SEND), (0, STEP)]
        self.assertEqual(after(web, moves), ((2, 1), (((0, 1),), ()), (2, 0, 0, 0), ((1,), ())))
        sent_first = [(0, STEP), (0, SEND), (1, STEP), (1, SEND), (0, STEP)]
        self.assertEqual(after(web, sent_first)[3], ((2,), ()))

    def test_a_put_of_nought_in_the_line_counts(self):
        web = [[("put", 0, 0), ("get", 0)], [("put", 0, 2)]]
        self.assertEqual(after(web, [(0, STEP), (1, STEP), (1, SEND), (0, STEP)])[3], ((0,), ()))

    def test_a_get_by_another_hand_takes_the_box(self):
        web = [[("put", 0, 1)], [("get", 0), ("get", 0)]]
        ahead = after(web, [(0, STEP), (1, STEP)])
        self.assertEqual(ahead, ((1, 1), (((0, 1),), ()), (0, 0, 0, 0), ((), (0,))))
        self.assertEqual(after(web, [(0, STEP), (0, SEND), (1, STEP)])[3], ((), (1,)))
        self.assertEqual(after(web, [(0, STEP), (1, STEP), (0, SEND), (1, STEP)])[3], ((), (0, 1)))

    def test_a_fence_waits_for_the_own_line_alone(self):
        web = [[("put", 0, 1), FENCE], [FENCE, FENCE]]
        self.assertEqual(after(web, [(1, STEP)]), ((0, 1), ((), ()), (0, 0, 0, 0), ((), ())))
        held = after(web, [(0, STEP)])
        self.assertIs(can(web, held, (0, STEP)), False)
        self.assertIs(can(web, held, (1, STEP)), True)
        with self.assertRaises(NoMove):
            moved(web, held, (0, STEP))
        free = moved(web, held, (0, SEND))
        self.assertEqual(moved(web, free, (0, STEP)), ((2, 0), ((), ()), (1, 0, 0, 0), ((), ())))

    def test_a_put_and_a_get_do_not_wait(self):
        web = [[("put", 0, 1), ("put", 0, 2), ("get", 0)]]
        self.assertIs(can(web, after(web, [(0, STEP)]), (0, STEP)), True)
        self.assertIs(can(web, after(web, [(0, STEP)] * 2), (0, STEP)), True)

    def test_a_send_with_an_empty_line(self):
        web = [[("put", 0, 1)], [("put", 0, 2)]]
        for state, hand in ((begun(web), 0), (begun(web), 1), (after(web, [(0, STEP)]), 1),
                            (after(web, [(0, STEP), (0, SEND)]), 0)):
            self.assertIs(can(web, state, (hand, SEND)), False)
            with self.assertRaises(NoMove):
                moved(web, state, (hand, SEND))

    def test_a_step_behind_the_rows_end(self):
        web = [[("get", 0)], []]
        for state, hand in ((begun(web), 1), (after(web, [(0, STEP)]), 0), (after(web, [(0, STEP)]), 1)):
            self.assertIs(can(web, state, (hand, STEP)), False)
            with self.assertRaises(NoMove):
                moved(web, state, (hand, STEP))

    def test_a_line_is_sent_behind_the_rows_end(self):
        web = [[("put", 2, 7)]]
        self.assertEqual(after(web, [(0, STEP), (0, SEND)])[2], (0, 0, 7, 0))

    def test_what_is_no_move_at_all(self):
        web = [[("put", 0, 1), ("get", 0)], [("put", 1, 1), ("get", 1)]]
        states = [begun(web), after(web, [(0, STEP), (1, STEP)])]
        for state in states:
            for thing in NO_MOVES:
                self.assertIs(can(web, state, thing), False, repr(thing))
                with self.assertRaises(NoMove, msg=repr(thing)):
                    moved(web, state, thing)

    def test_hands_that_the_web_does_not_have(self):
        for hands in (1, 2, 3):
            web = [[("put", 0, 1), ("get", 0)] for _ in range(hands)]
            state = after(web, [(hand, STEP) for hand in range(hands)])
            for hand in (-3, -2, -1, hands, hands + 1):
                for kind in (STEP, SEND):
                    self.assertIs(can(web, state, (hand, kind)), False)
                    with self.assertRaises(NoMove):
                        moved(web, state, (hand, kind))

    def test_thirty_figures(self):
        n = 10 ** 30 - 1
        web = [[("put", 3, -n), ("get", 3)], [("put", 3, n)]]
        state = after(web, [(0, STEP), (0, STEP), (1, STEP), (0, SEND), (1, SEND)])
        self.assertEqual(state, ((2, 1), ((), ()), (0, 0, 0, n), ((-n,), ())))

    def test_refuses_what_is_no_web(self):
        state = begun([[("get", 0)]])
        for thing in (None, [], [[("get", 4)]], ([("get", 0)],)):
            for call in (lambda: can(thing, state, (0, STEP)), lambda: moved(thing, state, (0, STEP)),
                         lambda: is_over(thing, state), lambda: end_of(thing, state)):
                with self.assertRaises(BadWeb):
                    call()


class TestAgainstTheModel(unittest.TestCase):
    """Goes through all states that the webs below can come to."""

    webs = [
        [[]],
        [[("put", 0, 1), FENCE, ("get", 0), ("put", 0, 2), ("get", 0)]],
        [[("put", 0, 1), ("get", 1)], [("put", 1, 1), ("get", 0)]],
        [[("put", 0, 1), FENCE, ("get", 1)], [("put", 1, 1), ("put", 0, -2), FENCE, ("get", 0)]],
        [[("put", 3, 4), ("put", 3, 5)], [("get", 3), FENCE, ("get", 3)], [("put", 3, 6), ("get", 3)]],
        [[], [("put", 2, 1), ("put", 1, 0)], [FENCE, ("get", 2), ("get", 1)]],
    ]

    def check_state(self, web, state, model):
        self.assertEqual(state, model.state())
        self.assertTrue(only_tuples(state))
        doable = model.doable()
        for hand in range(-1, len(web) + 1):
            for kind in (STEP, SEND):
                self.assertIs(can(web, state, (hand, kind)), (hand, kind) in doable)
                if (hand, kind) not in doable:
                    with self.assertRaises(NoMove):
                        moved(web, state, (hand, kind))
        self.assertIs(is_over(web, state), not doable)
        if doable:
            with self.assertRaises(NotOver):
                end_of(web, state)
        else:
            self.assertEqual(end_of(web, state), (model.state()[2], model.state()[3]))
        return doable

    def test_all_states(self):
        for web in self.webs:
            before = copy.deepcopy(web)
            found = {begun(web): []}
            waiting = [begun(web)]
            while waiting:
                state = waiting.pop()
                for move in self.check_state(web, state, Model(web, found[state])):
                    further = moved(web, state, move)
                    if further not in found:
                        found[further] = found[state] + [move]
                        waiting.append(further)
            self.assertEqual(web, before)


class TestEnd(unittest.TestCase):
    def test_a_web_without_steps_is_over_at_first(self):
        for web in ([[]], [[], []], [[], [], []]):
            nobody = tuple(() for _ in web)
            self.assertIs(is_over(web, begun(web)), True)
            self.assertEqual(end_of(web, begun(web)), ((0, 0, 0, 0), nobody))

    def test_over(self):
        web = [[("put", 0, 1), ("get", 0)], [("put", 3, -2)], [FENCE]]
        state = after(web, [(0, STEP), (1, STEP), (2, STEP), (0, STEP), (1, SEND), (0, SEND)])
        self.assertIs(is_over(web, state), True)
        self.assertEqual(end_of(web, state), ((1, 0, 0, -2), ((1,), (), ())))
        self.assertIs(type(end_of(web, state)), tuple)

    def test_what_was_got_stands_in_order(self):
        web = [[("get", 0), ("get", 0), ("get", 1)], [("put", 0, 4), ("put", 1, 3)]]
        state = after(web, [(1, STEP), (1, STEP), (0, STEP), (1, SEND), (0, STEP), (1, SEND), (0, STEP)])
        self.assertEqual(end_of(web, state), ((4, 3, 0, 0), ((0, 4, 3), ())))

    def test_not_over_for_a_step_left(self):
        web = [[("get", 0)], [FENCE]]
        for moves in ([], [(0, STEP)], [(1, STEP)]):
            state = after(web, moves)
            self.assertIs(is_over(web, state), False)
            with self.assertRaises(NotOver):
                end_of(web, state)

    def test_not_over_for_a_line_that_is_not_empty(self):
        web = [[("put", 0, 1)], [("put", 0, 0)]]
        for moves in ([(0, STEP), (0, SEND), (1, STEP)], [(1, STEP), (1, SEND), (0, STEP)], [(0, STEP), (1, STEP)]):
            state = after(web, moves)
            self.assertIs(is_over(web, state), False)
            with self.assertRaises(NotOver):
                end_of(web, state)


if __name__ == "__main__":
    unittest.main()
