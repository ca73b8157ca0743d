"""The calls on one house, as one flat list, and their answers."""

from handsoutline.asking import ask_amounts, ask_find, ask_line, ask_row, ask_same, ask_tree, ask_values
from handsoutline.changes import add_amount, begin, clear_field, less_amount, make, move, tell
from handsoutline.forgetting import ask_kept, forget
from handsoutline.letters import comes, send
from handsoutline.state import House
from handsoutline.takings import back, redo, undo

BEGIN = 1
MAKE = 2
MOVE = 3
TELL = 4
CLEAR = 5
ADD = 6
LESS = 7
BACK = 8
UNDO = 9
REDO = 10
SEND = 11
COMES = 12
FORGET = 13
TREE = 14
ROW = 15
LINE = 16
VALUES = 17
AMOUNTS = 18
FIND = 19
KEPT = 20
SAME = 21

# How many numbers follow each call's own.
SIZES = {1: 1, 2: 3, 3: 4, 4: 4, 5: 3, 6: 3, 7: 3, 8: 2, 9: 1, 10: 1, 11: 2,
         12: 1, 13: 1, 14: 2, 15: 2, 16: 2, 17: 3, 18: 2, 19: 3, 20: 1, 21: 2}


def answers(calls):
    return answers_of(House(1), calls)


def answers_of(house, calls):
    told = []
    start = 0
    while start < len(calls):
        end = start + 1 + SIZES[calls[start]]
        answer = answer_of(house, calls[start], calls[start + 1:end])
        told.append(len(answer))
        told.extend(answer)
        start = end
    return told


# Calls of one sort are numbered one behind another, but for kept, which goes with forget.
def answer_of(house, call, numbers):
    if call == BEGIN:
        return begin(house, numbers[0])
    if call <= LESS:
        return answer_of_change(house, call, numbers)
    if call <= REDO:
        return answer_of_taking(house, call, numbers)
    if call <= FORGET or call == KEPT:
        return answer_of_keeping(house, call, numbers)
    return answer_of_question(house, call, numbers)


def answer_of_change(house, call, numbers):
    if call == MAKE:
        return make(house, numbers[0], numbers[1], numbers[2])
    if call == MOVE:
        return move(house, numbers[0], numbers[1], numbers[2], numbers[3])
    if call == TELL:
        return tell(house, numbers[0], numbers[1], numbers[2], numbers[3])
    if call == CLEAR:
        return clear_field(house, numbers[0], numbers[1], numbers[2])
    if call == ADD:
        return add_amount(house, numbers[0], numbers[1], numbers[2])
    return less_amount(house, numbers[0], numbers[1], numbers[2])


def answer_of_taking(house, call, numbers):
    if call == BACK:
        return back(house, numbers[0], numbers[1])
    if call == UNDO:
        return undo(house, numbers[0])
    return redo(house, numbers[0])


def answer_of_keeping(house, call, numbers):
    if call == SEND:
        return send(house, numbers[0], numbers[1])
    if call == COMES:
        return comes(house, numbers[0])
    if call == FORGET:
        return forget(house, numbers[0])
    return ask_kept(house, numbers[0])


def answer_of_question(house, call, numbers):
    if call == TREE:
        return ask_tree(house, numbers[0], numbers[1])
    if call == ROW:
        return ask_row(house, numbers[0], numbers[1])
    if call == LINE:
        return ask_line(house, numbers[0], numbers[1])
    if call == VALUES:
        return ask_values(house, numbers[0], numbers[1], numbers[2])
    if call == AMOUNTS:
        return ask_amounts(house, numbers[0], numbers[1])
    if call == FIND:
        return ask_find(house, numbers[0], numbers[1], numbers[2])
    return ask_same(house, numbers[0], numbers[1])
