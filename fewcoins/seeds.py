"""The program's one function: the answers to a line of calls."""

from fewcoins.line import Line
from fewcoins.reader import read_call


def answers(calls):
    line = Line()
    told = []
    place = 0
    while place < len(calls):
        call = read_call(calls, place)
        answer = line.answer(call)
        told.append(len(answer))
        told.extend(answer)
        place = call.behind
    return told
