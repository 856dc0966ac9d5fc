"""The desk at which one picture is worked on: a method for each call."""

from layerpaint.deeds import CUT
from layerpaint.deeds import cost
from layerpaint.deeds import is_told_so
from layerpaint.deeds import picture_after
from layerpaint.dot_deeds import lifted
from layerpaint.history import History
from layerpaint.mixing import shown_dot
from layerpaint.picture import first_picture
from layerpaint.picture import worked_dots
from layerpaint.refusals import CannotBe
from layerpaint.refusals import NotSoTold
from layerpaint.refusals import TooMany

LONGEST_SIDE = 12
MOST_BUDGET = 1000000
MOST_RECORDED = 40


# What is aside and what is recorded is no part of the picture: it stays when
# that is undone.
class Desk:
    def __init__(self):
        self.begin(1, 1, 100, [0])

    def begin(self, w, h, budget, colours):
        if min(w, h) < 1 or max(w, h) > LONGEST_SIDE or budget > MOST_BUDGET:
            raise CannotBe()
        if len(colours) != w * h or max(colours) > 255:
            raise NotSoTold()
        self.picture = first_picture(w, h, colours)
        self.history = History(budget)
        self.aside = []
        self.recording = False
        self.recorded = []
        return [0]

    def act(self, deed, more):
        if not is_told_so(deed, more):
            raise NotSoTold()
        if self.recording and len(self.recorded) >= MOST_RECORDED:
            raise TooMany()
        before = self.picture
        after = picture_after(before, self.aside, deed, more)
        spent = cost(before, after)
        self.history.deed_done(before, spent)
        self.picture = after
        if deed == CUT:
            self.aside = lifted(before)
        if self.recording:
            self.recorded.append((deed, more))
        return [spent, len(self.history.kept)]

    def undo(self):
        self.picture = self.history.step_back(self.picture)
        return self.history.counts()

    def redo(self):
        self.picture = self.history.step_on(self.picture)
        return self.history.counts()

    # The places of row y, from left to right.
    def places(self, y):
        if y >= self.picture.h:
            raise CannotBe()
        return list(range(y * self.picture.w, (y + 1) * self.picture.w))

    def row(self, y):
        answer = [self.picture.w]
        for place in self.places(y):
            answer.extend(shown_dot(self.picture.layers, place))
        return answer

    def own(self, y):
        dots = worked_dots(self.picture)
        answer = [self.picture.w]
        for place in self.places(y):
            answer.extend(dots[place])
        return answer

    def chosen_row(self, y):
        return [self.picture.w] + [self.picture.chosen[place] for place in self.places(y)]
