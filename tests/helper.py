"""What all tests share: calls by their names, and a naive picture editor to compare with."""

from fractions import Fraction

from layerpaint.editor import answers

BIG = 18446744073709551615


def begin(w, h, budget, colours):
    return [1, w, h, budget, len(colours)] + list(colours)


def act(deed, *more):
    return [2, deed, len(more)] + list(more)


def undo():
    return [3]


def redo():
    return [4]


def row(y):
    return [5, y]


def own(y):
    return [6, y]


def chosen(y):
    return [7, y]


def listed():
    return [8]


def history():
    return [9]


def copy():
    return [10]


def record():
    return [11]


def stop():
    return [12]


def play():
    return [13]


def split(told):
    """The answers, one list for each call."""
    found = []
    place = 0
    while place < len(told):
        many = told[place]
        found.append(told[place + 1:place + 1 + many])
        place += 1 + many
    return found


def ask(*calls):
    """Asks all calls in one list and answers a list for each of them."""
    flat = []
    for call in calls:
        flat.extend(call)
    return split(answers(flat))


def last(*calls):
    return ask(*calls)[-1]


def all_rows(h):
    """The calls that look at all that can be seen of a picture h high."""
    calls = []
    for y in range(h):
        calls.extend([row(y), own(y), chosen(y)])
    return calls


def look(h, *calls):
    """All that can be seen behind these calls, the picture being h high."""
    return ask(*calls, *all_rows(h))[len(calls):]


def everything(h, *calls):
    """All that can be asked behind these calls, the picture being h high."""
    return ask(*calls, listed(), history(), *all_rows(h))[len(calls):]


def shown(h, *calls):
    """What is shown, row by row, without the widths."""
    return [told[1:] for told in ask(*calls, *[row(y) for y in range(h)])[len(calls):]]


def owned(h, *calls):
    return [told[1:] for told in ask(*calls, *[own(y) for y in range(h)])[len(calls):]]


def picked(h, *calls):
    return [told[1:] for told in ask(*calls, *[chosen(y) for y in range(h)])[len(calls):]]


def half_up(value):
    return (value + Fraction(1, 2)).__floor__()


def blended(stack):
    """What dots show: of each, from below, (seen, strong, way, colour, cover)."""
    b = Fraction(0)
    B = Fraction(0)
    for seen, strong, way, colour, cover in stack:
        s = Fraction(cover, 255) * Fraction(strong, 255) * seen
        S = Fraction(colour, 255)
        M = (S, B * S, B + S - B * S, min(B, S), max(B, S), abs(B - S), min(B + S, Fraction(1)))[way]
        together = s + b - s * b
        product = S * s * (1 - b) + B * b * (1 - s) + s * b * M
        b = together
        B = product / together if together else Fraction(0)
    cover = half_up(b * 255)
    return (half_up(B * 255), cover) if cover else (0, 0)


class Refused(Exception):
    pass


def refuse_if(condition, number):
    if condition:
        raise Refused(number)


class Naive:
    """The document's words written down once more, in another way: by places, fractions and whole copies."""

    COUNTS = {0: 0, 1: 1, 2: 1, 3: 4, 4: 1, 5: 5, 6: 6, 7: 1, 8: 1, 9: 1, 10: 2, 11: 1, 12: 3, 13: 2,
              14: 0, 15: 0, 16: 0, 17: 0, 18: 1}

    def __init__(self):
        self.begin(1, 1, 100, [0])

    def begin(self, w, h, budget, colours):
        refuse_if(w not in range(1, 13) or h not in range(1, 13) or budget > 10 ** 6, -1)
        refuse_if(len(colours) != w * h or [c for c in colours if c > 255], -3)
        dots = {(x, y): (colours[y * w + x], 255) for y in range(h) for x in range(w)}
        self.state = {"w": w, "h": h, "order": [0], "on": 0, "chosen": frozenset(), "count": 1,
                      "how": {0: (1, 255, 0)}, "dots": {0: dots}}
        self.budget = budget
        self.kept = []
        self.redos = []
        self.aside = None
        self.tape = []
        self.taping = False
        return [0]

    def fresh(self):
        s = dict(self.state)
        s["order"] = list(s["order"])
        s["how"] = dict(s["how"])
        s["dots"] = {i: dict(d) for i, d in s["dots"].items()}
        return s

    def pixels(self):
        return [(x, y) for y in range(self.state["h"]) for x in range(self.state["w"])]

    def free(self):
        return set(self.state["chosen"]) or set(self.pixels())

    def act(self, deed, more):
        refuse_if(deed not in self.COUNTS or len(more) != self.COUNTS[deed], -3)
        refuse_if(self.taping and len(self.tape) == 40, -5)
        new = getattr(self, "deed%d" % deed)(self.fresh(), *more)
        if deed == 14:
            self.copy()
        spent = self.cost(self.state, new)
        self.kept.insert(0, (self.state, spent))
        self.trim()
        self.redos = []
        self.state = new
        if self.taping:
            self.tape = self.tape + [(deed, tuple(more))]
        return [spent, len(self.kept)]

    def trim(self):
        while sum(c for _, c in self.kept) > self.budget:
            self.kept.pop()

    @staticmethod
    def cost(a, b):
        if (a["w"], a["h"]) != (b["w"], b["h"]):
            return 1 + sum(s["w"] * s["h"] * (len(s["order"]) + 1) for s in (a, b))
        spent = 1 + len(a["chosen"] ^ b["chosen"])
        for i in set(a["order"]) | set(b["order"]):
            if i in a["order"] and i in b["order"]:
                spent += sum(a["dots"][i][p] != b["dots"][i][p] for p in a["dots"][i])
            else:
                spent += a["w"] * a["h"]
        return spent

    def undo(self):
        refuse_if(not self.kept, -6)
        state, spent = self.kept.pop(0)
        self.redos.insert(0, (self.state, spent))
        self.state = state
        return [len(self.kept), len(self.redos)]

    def redo(self):
        refuse_if(not self.redos, -6)
        state, spent = self.redos.pop(0)
        self.kept.insert(0, (self.state, spent))
        self.trim()
        self.state = state
        return [len(self.kept), len(self.redos)]

    def row(self, y):
        refuse_if(y >= self.state["h"], -1)
        told = [self.state["w"]]
        for x in range(self.state["w"]):
            told += blended([self.state["how"][i] + self.state["dots"][i][(x, y)] for i in self.state["order"]])
        return told

    def own(self, y):
        refuse_if(y >= self.state["h"], -1)
        told = [self.state["w"]]
        for x in range(self.state["w"]):
            told += self.state["dots"][self.state["on"]][(x, y)]
        return told

    def chosen(self, y):
        refuse_if(y >= self.state["h"], -1)
        return [self.state["w"]] + [int((x, y) in self.state["chosen"]) for x in range(self.state["w"])]

    def listed(self):
        told = [self.state["on"], self.state["w"], self.state["h"], len(self.state["order"])]
        for i in self.state["order"]:
            told += (i,) + self.state["how"][i]
        return told

    def history(self):
        return [len(self.kept), sum(c for _, c in self.kept), len(self.redos), len(self.tape)]

    def copy(self):
        self.aside = {p: self.state["dots"][self.state["on"]][p] for p in self.free()}
        return [len(self.aside)]

    def record(self):
        self.tape = []
        self.taping = True
        return [0]

    def stop(self):
        self.taping = False
        return [len(self.tape)]

    def play(self):
        refuse_if(self.taping, -6)
        for many, (deed, more) in enumerate(self.tape):
            try:
                self.act(deed, more)
            except Refused:
                return [many, len(self.kept)]
        return [len(self.tape), len(self.kept)]

    def deed0(self, s):
        refuse_if(len(s["order"]) == 5, -5)
        new = s["count"]
        s["count"] += 1
        s["order"].insert(s["order"].index(s["on"]) + 1, new)
        s["how"][new] = (1, 255, 0)
        s["dots"][new] = {p: (0, 0) for p in self.pixels()}
        s["on"] = new
        return s

    def deed1(self, s, i):
        refuse_if(i not in s["order"], -2)
        refuse_if(len(s["order"]) == 1, -6)
        s["order"].remove(i)
        if s["on"] == i:
            s["on"] = s["order"][0]
        return s

    def deed2(self, s, i):
        refuse_if(i not in s["order"], -2)
        k = s["order"].index(i)
        refuse_if(k + 1 == len(s["order"]), -6)
        s["order"][k], s["order"][k + 1] = s["order"][k + 1], i
        return s

    def deed3(self, s, i, seen, strong, way):
        refuse_if(seen > 1 or strong > 255 or way > 6, -1)
        refuse_if(i not in s["order"], -2)
        s["how"][i] = (seen, strong, way)
        return s

    def deed4(self, s, i):
        refuse_if(i not in s["order"], -2)
        s["on"] = i
        return s

    @staticmethod
    def join(s, how, told):
        old = s["chosen"]
        s["chosen"] = frozenset((told, old | told, old - told, old & told, old ^ told)[how])
        return s

    def deed5(self, s, how, x, y, w, h):
        refuse_if(how > 4, -1)
        return self.join(s, how, {p for p in self.pixels() if 0 <= p[0] - x < w and 0 <= p[1] - y < h})

    def deed6(self, s, how, x, y, tolerance, kind, corners):
        refuse_if(how > 4 or kind > 1 or corners > 1 or (x, y) not in self.pixels(), -1)
        colour = {p: d[0] for p, d in s["dots"][s["on"]].items()}
        told = {(x, y)}
        grew = True
        while grew:
            grew = False
            for p in self.pixels():
                if p not in told and any(self.steps(q, p, corners) and abs(
                        colour[p] - colour[q if kind else (x, y)]) <= tolerance for q in told):
                    told.add(p)
                    grew = True
        return self.join(s, how, told)

    @staticmethod
    def steps(p, q, corners):
        apart = sorted((abs(p[0] - q[0]), abs(p[1] - q[1])))
        return apart == [0, 1] or (corners == 1 and apart == [1, 1])

    def deed7(self, s, how):
        refuse_if(how > 4, -1)
        return self.join(s, how, set(self.pixels()))

    @staticmethod
    def apart(p, q):
        return (p[0] - q[0]) ** 2 + (p[1] - q[1]) ** 2

    def deed8(self, s, r):
        refuse_if(r > 1000, -1)
        s["chosen"] = frozenset(p for p in self.pixels() if any(self.apart(p, q) <= r for q in s["chosen"]))
        return s

    def deed9(self, s, r):
        refuse_if(r > 1000, -1)
        others = set(self.pixels()) - s["chosen"]
        s["chosen"] = frozenset(p for p in self.pixels() if all(self.apart(p, q) > r for q in others))
        return s

    def deed10(self, s, colour, cover):
        refuse_if(colour > 255 or cover > 255, -1)
        s["dots"][s["on"]].update({p: (colour, cover) for p in self.free()})
        return s

    def seen_from(self, place, r):
        dots = self.state["dots"][self.state["on"]]
        xs = [sorted((0, place[0] + k, self.state["w"] - 1))[1] for k in range(-r, r + 1)]
        ys = [sorted((0, place[1] + k, self.state["h"] - 1))[1] for k in range(-r, r + 1)]
        return sorted(dots[(x, y)][0] for x in xs for y in ys)

    def deed11(self, s, r):
        refuse_if(r > 4, -1)
        dots = s["dots"][s["on"]]
        for p in self.free():
            colours = self.seen_from(p, r)
            dots[p] = (half_up(Fraction(sum(colours), len(colours))), dots[p][1])
        return s

    def deed12(self, s, r, p, q):
        refuse_if(r > 4 or q == 0 or p > q, -1)
        dots = s["dots"][s["on"]]
        for place in self.free():
            colours = self.seen_from(place, r)
            dots[place] = (colours[int(Fraction(p * (len(colours) - 1), q))], dots[place][1])
        return s

    def deed13(self, s, a, b):
        refuse_if(a > 32 or b > 32, -1)
        dots = s["dots"][s["on"]]
        moved = {(x + a - 16, y + b - 16): dots[(x, y)] for x, y in self.free()}
        for p in self.free():
            dots[p] = (0, 0)
        inside = {p: d for p, d in moved.items() if p in dots}
        dots.update(inside)
        if s["chosen"]:
            s["chosen"] = frozenset(inside)
        return s

    def deed14(self, s):
        return self.deed10(s, 0, 0)

    def deed15(self, s):
        refuse_if(self.aside is None, -6)
        s = self.deed0(s)
        s["dots"][s["on"]].update({p: d for p, d in self.aside.items() if p in self.pixels()})
        return s

    def deed16(self, s):
        k = s["order"].index(s["on"])
        refuse_if(k == 0, -6)
        lower, upper = s["order"][k - 1:k + 1]
        for p in self.pixels():
            low = s["how"][lower][:2] + (0,) + s["dots"][lower][p]
            s["dots"][lower][p] = blended([low, s["how"][upper] + s["dots"][upper][p]])
        s["how"][lower] = (1, 255, s["how"][lower][2])
        s["order"].remove(upper)
        s["on"] = lower
        return s

    def deed17(self, s):
        refuse_if(not s["chosen"], -6)
        left, right = min(x for x, _ in s["chosen"]), max(x for x, _ in s["chosen"])
        top, bottom = min(y for _, y in s["chosen"]), max(y for _, y in s["chosen"])
        places = {p: (p[0] - left, p[1] - top) for p in self.pixels()
                  if left <= p[0] <= right and top <= p[1] <= bottom}
        return self.placed(s, right - left + 1, bottom - top + 1, places)

    def deed18(self, s, k):
        refuse_if(k > 2, -1)
        w, h = s["w"], s["h"]
        if k == 2:
            return self.placed(s, h, w, {(x, y): (h - 1 - y, x) for x, y in self.pixels()})
        return self.placed(s, w, h, {(x, y): (w - 1 - x, y) if k == 0 else (x, h - 1 - y) for x, y in self.pixels()})

    @staticmethod
    def placed(s, w, h, places):
        s["w"], s["h"] = w, h
        s["dots"] = {i: {places[p]: d for p, d in dots.items() if p in places} for i, dots in s["dots"].items()}
        s["chosen"] = frozenset(places[p] for p in s["chosen"])
        return s

    def told(self, call):
        """What is answered to one call of the list."""
        try:
            if call[0] == 1:
                return self.begin(call[1], call[2], call[3], call[5:])
            if call[0] == 2:
                return self.act(call[1], call[3:])
            return (self.undo, self.redo, self.row, self.own, self.chosen, self.listed, self.history, self.copy,
                    self.record, self.stop, self.play)[call[0] - 3](*call[1:])
        except Refused as refused:
            return [refused.args[0]]
