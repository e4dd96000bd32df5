"""Webs, and things that are no webs, no steps and no moves."""

import random
from unittest.mock import ANY

from model import FENCE

PUT = ("put", 0, 1)
GET = ("get", 0)
THIRTY = 10 ** 30 - 1

GOOD_WEBS = [
    [[]],
    [[], [], []],
    [[PUT]],
    [[PUT, GET], [GET, FENCE]],
    [[PUT], [GET], [FENCE]],
    [[PUT, GET] * 4],
    [[PUT] * 3, [GET] * 3, [PUT, GET]],
    [[PUT] * 8, [FENCE], []],
    [[FENCE] * 2000],
    [[FENCE] * 30 + [PUT] * 8, [FENCE] * 30, [FENCE] * 30],
    [[("put", 3, 0), ("get", 3)]],
    [[("put", 0, THIRTY), ("put", 0, -THIRTY)]],
    [[("put", 0, 0), ("put", 0, -1)]],
]

NO_STEPS = [
    ("put", -1, 0), ("put", 4, 0), ("get", -1), ("get", 4),
    ("put", 0, THIRTY + 1), ("put", 0, -THIRTY - 1), ("put", 0, 10 ** 5000),
    ("put", True, 0), ("put", False, 0), ("get", True), ("get", False),
    ("put", 0, True), ("put", 0, False), ("put", 0, None), ("put", 0, "1"), ("put", 0, 1.0),
    ("put", None, 0), ("put", "0", 0), ("put", 0.0, 0), ("get", 0.0), ("get", None), ("get", "0"),
    ("put", 0), ("put",), ("put", 0, 1, 2), ("get",), ("get", 0, 1), ("fence", 0), ("fence", 0, 0), (),
    ("set", 0, 1), ("Get", 0), ("look", 0), ("Fence",), ("fences",), ("",), (0,), (None,), (FENCE,),
    (["put"], 0, 1), ("put", [0], 1), ("put", 0, [1]), (b"fence",), (True,), (ANY, 0, 1), (ANY, 0), (ANY,),
    ["put", 0, 1], ["get", 0], ["fence"], "fence", "get", None, 0, {}, {"put": 0}, [],
]

NO_WEBS = [
    None, True, 0, 3, "", "put 0 1", b"", {}, {0: []}, (), ([],), ([PUT], [GET]), 1.5, set(), object(),
    [], [[], [], [], []], [[PUT], [GET], [PUT], [GET]],
    [None], [0], [""], ["fence"], [{}], [()], [(PUT,)], [[PUT], (GET,)], [PUT], [FENCE],
    [[PUT, GET] * 4 + [GET]], [[PUT] * 4 + [GET] * 5],
    [[PUT] * 3, [GET] * 3, [PUT, GET, GET]], [[PUT] * 9, [], []], [[], [], [GET] * 9],
    [[FENCE] * 30 + [PUT] * 9],
]

# No moves of a web of two hands.
NO_MOVES = [
    None, True, 0, 1, "", "step", "send", b"step", [], {}, (), (0,), ("step",), (0, "step", 0), (0, "step", "send"),
    [0, "step"], [0, "send"], (["step"],), (0, ["step"]), ([0], "step"), ((0,), "step"), (0, ("step",)),
    ("step", 0), ("0", "step"), (None, "step"), (0, None), (0, 0), (0, True), (0, b"step"), (0, {}), ({}, "send"),
    (0, "Step"), (0, "steps"), (0, ""), (0, "step "), (0, "put"), (0, "fence"), (0.0, "step"), (0, set()),
    (True, "step"), (False, "step"), (True, "send"), (False, "send"),
    (-1, "step"), (-1, "send"), (-2, "step"), (-3, "send"), (2, "step"), (2, "send"), (3, "step"),
    (10 ** 40, "step"), (-10 ** 40, "send"), (object(), "step"), (0, ANY), (ANY, "step"),
]

# Each hand puts into a box of its own and then gets from the other one's.
CROSS = [[("put", 0, 1), ("get", 1)], [("put", 1, 1), ("get", 0)]]
CROSS_FENCED = [[("put", 0, 1), FENCE, ("get", 1)], [("put", 1, 1), FENCE, ("get", 0)]]
CROSS_OF_THREE = [[("put", 0, 1), ("get", 1)], [("put", 1, 1), ("get", 2)], [("put", 2, 1), ("get", 0)]]

# Eight puts and gets, in one row, and dealt out over two and three.
EIGHT_IN_ONE = [[("put", 0, 1), ("get", 0), ("put", 1, 2), ("put", 0, 3), ("get", 1), ("get", 0), ("put", 0, 4),
                 ("get", 2)]]
EIGHTS_OVER_TWO = [
    [[("put", 0, 1), ("get", 1), ("put", 1, 2), ("get", 0)], [("put", 1, 3), ("get", 0), ("put", 0, 4), ("get", 1)]],
    [[("put", 0, 1), ("put", 0, 2), ("put", 0, 3), ("put", 1, 4)], [("get", 1), ("get", 0), ("get", 0), ("get", 0)]],
    [[("put", 0, 1), ("put", 1, 2), ("get", 2), ("get", 3)], [("put", 2, 3), ("put", 3, 4), ("get", 0), ("get", 1)]],
]
EIGHTS_OVER_THREE = [
    [[("put", 0, 1), ("get", 1), ("get", 2)], [("put", 1, 2), ("get", 2), ("get", 0)], [("put", 2, 3), ("get", 0)]],
    [[("put", 0, 1), ("put", 0, 2), ("put", 0, 3)], [("get", 0), ("get", 0), ("get", 0)], [("get", 0), ("put", 0, 8)]],
    [[("put", 0, 1), ("put", 0, 2), ("put", 0, 3)], [("put", 0, 4), ("put", 0, 5), ("put", 0, 6)],
     [("put", 0, 7), ("put", 0, 8)]],
    [[("get", 0), ("put", 1, 1), ("get", 2)], [("get", 1), ("put", 2, 1), ("get", 0)], [("put", 0, 1), ("get", 2)]],
]


def with_many_fences(web, many):
    """The web with so many fences ahead of each row, ahead of each of its gets, and behind it."""
    told = []
    for row in web:
        steps = [FENCE] * many
        for step in row:
            steps += [FENCE] * many + [step] if step[0] == "get" else [step]
        told.append(steps + [FENCE] * many)
    return told


def small_webs():
    """All webs of two hands with at most two steps each, of two boxes."""
    words = [("put", 0, 1), ("put", 1, 2), ("get", 0), ("get", 1), FENCE]
    rows = [[]] + [[one] for one in words] + [[one, two] for one in words for two in words]
    return [[list(row), list(other)] for row in rows for other in rows]


def chance_webs(seed, many, most):
    """So many webs of up to three hands, with at most so many puts and gets, and some fences."""
    chance = random.Random(seed)
    webs = []
    for _ in range(many):
        web = [[] for _ in range(chance.choice((1, 2, 2, 3, 3)))]
        boxes = chance.choice((1, 2, 2, 3))
        for _ in range(chance.randint(most // 2, most)):
            if chance.random() < 0.5:
                step = ("put", chance.randrange(boxes), chance.choice((1, 2, -1, -2, 0)))
            else:
                step = ("get", chance.randrange(boxes))
            row = chance.choice(web)
            row.extend([FENCE] * chance.choice((0, 0, 0, 0, 1, 2)) + [step])
        webs.append(web)
    return webs
