"""A list of calls on one picture, and what is answered to them."""

from layerpaint.desk import Desk
from layerpaint.refusals import Refusal

# How many whole numbers stand behind a call's own, ahead of its list if it
# has one.
PLAIN = {1: 3, 2: 1, 3: 0, 4: 0, 5: 1, 6: 1, 7: 1}
WITH_LIST = (1, 2)


def answers(calls):
    desk = Desk()
    told = []
    place = 0
    while place < len(calls):
        end = call_end(calls, place)
        answered = answer_to(desk, calls[place:end])
        told.append(len(answered))
        told.extend(answered)
        place = end
    return told


def call_end(calls, place):
    end = place + 1 + PLAIN[calls[place]]
    if calls[place] in WITH_LIST:
        end += 1 + calls[end]
    return end


def answer_to(desk, call):
    try:
        return call_on(desk, call)
    except Refusal as e:
        return [e.answer]


def call_on(desk, call):
    number = call[0]
    if number == 1:
        return desk.begin(call[1], call[2], call[3], call[5:])
    if number == 2:
        return desk.act(call[1], call[3:])
    if number == 3:
        return desk.undo()
    if number == 4:
        return desk.redo()
    if number == 5:
        return desk.row(call[1])
    if number == 6:
        return desk.own(call[1])
    return desk.chosen_row(call[1])
