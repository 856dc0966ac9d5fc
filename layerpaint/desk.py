"""The desk at which one picture is worked on: a method for each call."""

from layerpaint.deeds import CUT
from layerpaint.deeds import cost
from layerpaint.deeds import is_told_so
from layerpaint.deeds import picture_after
from layerpaint.dot_deeds import lifted
from layerpaint.history import History
from layerpaint.mixing import shown_dot
from layerpaint.picture import first_picture
from layerpaint.picture import worked_dots
from layerpaint.refusals import CannotBe
from layerpaint.refusals import NotNow
from layerpaint.refusals import NotSoTold
from layerpaint.refusals import Refusal
from layerpaint.refusals import TooMany

LONGEST_SIDE = 12
MOST_BUDGET = 1000000
MOST_RECORDED = 40


# What is aside and what is recorded is no part of the picture: it stays when
# that is undone.
class Desk:
    def __init__(self):
        self.begin(1, 1, 100, [0])

    def begin(self, w, h, budget, colours):
        if min(w, h) < 1 or max(w, h) > LONGEST_SIDE or budget > MOST_BUDGET:
            raise CannotBe()
        if len(colours) != w * h or max(colours) > 255:
            raise NotSoTold()
        self.picture = first_picture(w, h, colours)
        self.history = History(budget)
        self.aside = []
        self.recording = False
        self.recorded = []
        return [0]

    def act(self, deed, more):
        if not is_told_so(deed, more):
            raise NotSoTold()
        if self.recording and len(self.recorded) >= MOST_RECORDED:
            raise TooMany()
        price = self.do_deed(deed, more)
        if self.recording:
            self.recorded.append((deed, more))
        return [price, len(self.history.kept)]

    # All that can be refused comes ahead of the first change, so that a
    # refused deed leaves all as it was.
    def do_deed(self, deed, more):
        before = self.picture
        after = picture_after(before, self.aside, deed, more)
        price = cost(before, after)
        self.history.deed_done(before, price)
        self.picture = after
        if deed == CUT:
            self.aside = lifted(before)
        return price

    def undo(self):
        self.picture = self.history.step_back(self.picture)
        return self.history.counts()

    def redo(self):
        self.picture = self.history.step_on(self.picture)
        return self.history.counts()

    # The places of row y, from left to right.
    def places(self, y):
        if y >= self.picture.h:
            raise CannotBe()
        return list(range(y * self.picture.w, (y + 1) * self.picture.w))

    def row(self, y):
        answer = [self.picture.w]
        for place in self.places(y):
            answer.extend(shown_dot(self.picture.layers, place))
        return answer

    def own(self, y):
        dots = worked_dots(self.picture)
        answer = [self.picture.w]
        for place in self.places(y):
            answer.extend(dots[place])
        return answer

    def chosen_row(self, y):
        return [self.picture.w] + [self.picture.chosen[place] for place in self.places(y)]

    def listed(self):
        picture = self.picture
        answer = [picture.worked, picture.w, picture.h, len(picture.layers)]
        for layer in picture.layers:
            answer.extend([layer.number, layer.seen, layer.strong, layer.way])
        return answer

    def history_told(self):
        past = self.history
        return [len(past.kept), past.spent, len(past.undone), len(self.recorded)]

    # Copying is no deed: no state is kept for it, and what may be redone stays.
    def copy_dots(self):
        self.aside = lifted(self.picture)
        return [len(self.aside)]

    def start_recording(self):
        self.recording = True
        self.recorded = []
        return [0]

    def stop_recording(self):
        self.recording = False
        return [len(self.recorded)]

    def play_recorded(self):
        if self.recording:
            raise NotNow()
        many = 0
        for deed, more in self.recorded:
            if not self.try_deed(deed, more):
                break
            many += 1
        return [many, len(self.history.kept)]

    # False if the deed is refused; all is as it was then.
    def try_deed(self, deed, more):
        try:
            self.do_deed(deed, more)
        except Refusal:
            return False
        return True
