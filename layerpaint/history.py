"""The states kept to be undone, within the budget, and those that may be redone."""

from layerpaint.refusals import NotNow


# Both lists hold a picture with the cost of the deed between it and the one
# that comes next, the latest last.
class History:
    def __init__(self, budget):
        self.budget = budget
        self.kept = []
        self.undone = []

    def deed_done(self, picture, spent):
        self.undone = []
        self.keep(picture, spent)

    # The first state that the budget doesn't reach for is left out with all
    # before it, even if a cheaper one stands there.
    def keep(self, picture, spent):
        self.kept.append((picture, spent))
        left = self.budget
        place = len(self.kept)
        while place > 0 and self.kept[place - 1][1] <= left:
            place -= 1
            left -= self.kept[place][1]
        self.kept = self.kept[place:]

    def step_back(self, picture):
        if len(self.kept) == 0:
            raise NotNow()
        state = self.kept.pop()
        self.undone.append((picture, state[1]))
        return state[0]

    def step_on(self, picture):
        if len(self.undone) == 0:
            raise NotNow()
        state = self.undone.pop()
        self.keep(picture, state[1])
        return state[0]

    def counts(self):
        return [len(self.kept), len(self.undone)]
