"""The document's rules once more, told plainly and slowly, for the tests to compare with."""

FENCE = ("fence",)
STEP = "step"
SEND = "send"


class Model:
    """The rules of points 3 to 5, by lists that change."""

    def __init__(self, web, moves=()):
        self.web = web
        self.done = [0 for _ in web]
        self.lines = [[] for _ in web]
        self.boxes = [0, 0, 0, 0]
        self.got = [[] for _ in web]
        for hand, kind in moves:
            self.do(hand, kind)

    def behind(self, move):
        other = Model(self.web)
        other.done = list(self.done)
        other.lines = [list(line) for line in self.lines]
        other.boxes = list(self.boxes)
        other.got = [list(ns) for ns in self.got]
        other.do(*move)
        return other

    def doable(self):
        told = []
        for hand, row in enumerate(self.web):
            rest = row[self.done[hand]:]
            if rest and not (rest[0] == FENCE and self.lines[hand]):
                told.append((hand, STEP))
            if self.lines[hand]:
                told.append((hand, SEND))
        return told

    def do(self, hand, kind):
        if kind == SEND:
            box, n = self.lines[hand].pop(0)
            self.boxes[box] = n
            return
        step = self.web[hand][self.done[hand]]
        self.done[hand] += 1
        if step[0] == "put":
            self.lines[hand].append(step[1:])
        if step[0] == "get":
            own = [n for box, n in self.lines[hand] if box == step[1]]
            self.got[hand].append((own or [self.boxes[step[1]]])[-1])

    def state(self):
        return (tuple(self.done), tuple(tuple(line) for line in self.lines),
                tuple(self.boxes), tuple(tuple(ns) for ns in self.got))

    def end(self):
        return self.state()[2:]


def end_of_weaving(web, weaving):
    """The end to which the weaving comes, or None where it is no weaving of the web."""
    model = Model(web)
    for move in weaving:
        if move not in model.doable():
            return None
        model.do(*move)
    return None if model.doable() else model.end()


def put_and_sent(web, weaving):
    """True if right behind each put of the weaving comes a send of the same hand."""
    done = [0 for _ in web]
    for at, (hand, kind) in enumerate(weaving):
        if kind == STEP:
            if web[hand][done[hand]][0] == "put" and weaving[at + 1:at + 2] != [(hand, SEND)]:
                return False
            done[hand] += 1
    return True


def all_ends(web):
    """The ends of point 7: of all moves, in all orders."""
    first = Model(web)
    seen = {first.state()}
    waiting = [first]
    found = set()
    while waiting:
        model = waiting.pop()
        moves = model.doable()
        if not moves:
            found.add(model.end())
        for move in moves:
            further = model.behind(move)
            if further.state() not in seen:
                seen.add(further.state())
                waiting.append(further)
    return found


def all_prompt_ends(web):
    """The prompt ends of point 7: a put goes straight into its box, and a fence is nothing."""
    rows = [[step for step in row if step != FENCE] for row in web]
    found = set()

    def go(done, boxes, got):
        over = True
        for hand, row in enumerate(rows):
            if done[hand] == len(row):
                continue
            over = False
            step = row[done[hand]]
            further = done[:hand] + (done[hand] + 1,) + done[hand + 1:]
            if step[0] == "put":
                go(further, boxes[:step[1]] + (step[2],) + boxes[step[1] + 1:], got)
            else:
                go(further, boxes, got[:hand] + (got[hand] + (boxes[step[1]],),) + got[hand + 1:])
        if over:
            found.add((boxes, got))

    go((0,) * len(web), (0, 0, 0, 0), ((),) * len(web))
    return found


def all_places(web):
    return [(hand, at) for hand in range(len(web)) for at in range(1, len(web[hand]))]


def fenced_at(web, some):
    told = []
    for hand, row in enumerate(web):
        steps = []
        for at, step in enumerate(row):
            steps += [FENCE, step] if (hand, at) in some else [step]
        told.append(steps)
    return told


def wanted_places(web):
    """The places of point 9, gone through as it says."""
    prompt = all_prompt_ends(web)
    left_out = []
    for place in all_places(web):
        trial = left_out + [place]
        some = [one for one in all_places(web) if one not in trial]
        if all_ends(fenced_at(web, some)) == prompt:
            left_out = trial
    return [one for one in all_places(web) if one not in left_out]
