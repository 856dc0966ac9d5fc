"""A list of calls on one picture, and what is answered to them."""

from layerpaint.desk import Desk
from layerpaint.refusals import Refusal

# How many whole numbers stand behind a call's own, ahead of its list if it
# has one.
PLAIN = {1: 3, 2: 1, 3: 0, 4: 0, 5: 1, 6: 1, 7: 1, 8: 0, 9: 0, 10: 0, 11: 0, 12: 0, 13: 0}
WITH_LIST = (1, 2)


def answers(calls):
    desk = Desk()
    told = []
    place = 0
    while place < len(calls):
        end = call_end(calls, place)
        answered = answer_to(desk, calls[place:end])
        told.append(len(answered))
        told.extend(answered)
        place = end
    return told


def call_end(calls, place):
    end = place + 1 + PLAIN[calls[place]]
    if calls[place] in WITH_LIST:
        end += 1 + calls[end]
    return end


def answer_to(desk, call):
    try:
        return call_on(desk, call)
    except Refusal as e:
        return [e.answer]


def call_on(desk, call):
    number = call[0]
    if number == 1:
        return desk.begin(call[1], call[2], call[3], call[5:])
    if number == 2:
        return desk.act(call[1], call[3:])
    if PLAIN[number] == 1:
        return row_call(desk, number, call[1])
    return bare_call(desk, number)


def row_call(desk, number, y):
    if number == 5:
        return desk.row(y)
    if number == 6:
        return desk.own(y)
    return desk.chosen_row(y)


def bare_call(desk, number):
    if number == 3:
        return desk.undo()
    if number == 4:
        return desk.redo()
    if number == 8:
        return desk.listed()
    if number == 9:
        return desk.history_told()
    if number == 10:
        return desk.copy_dots()
    if number == 11:
        return desk.start_recording()
    if number == 12:
        return desk.stop_recording()
    return desk.play_recorded()
