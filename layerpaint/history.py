"""The states kept to be undone, within the budget, and those that may be redone."""

from layerpaint.refusals import NotNow


# Both lists hold a picture with the cost of the deed between it and the one
# that comes next, the latest last. spent is what those kept cost together.
class History:
    def __init__(self, budget):
        self.budget = budget
        self.kept = []
        self.spent = 0
        self.undone = []

    def deed_done(self, picture, price):
        self.undone = []
        self.keep(picture, price)

    # The oldest go first until the budget is met: so a deed that is dearer
    # than all of it leaves nothing kept, not even cheap ones before it.
    def keep(self, picture, price):
        self.kept.append((picture, price))
        self.spent += price
        first = 0
        while self.spent > self.budget:
            self.spent -= self.kept[first][1]
            first += 1
        self.kept = self.kept[first:]

    def step_back(self, picture):
        if len(self.kept) == 0:
            raise NotNow()
        state = self.kept.pop()
        self.spent -= state[1]
        self.undone.append((picture, state[1]))
        return state[0]

    def step_on(self, picture):
        if len(self.undone) == 0:
            raise NotNow()
        state = self.undone.pop()
        self.keep(picture, state[1])
        return state[0]

    def counts(self):
        return [len(self.kept), len(self.undone)]
