"""The interface: a line of calls, and what is answered to each."""

from bitsways.line import Line
from bitsways.spelling import spelled


def answers(calls):
    line = Line()
    given_back = []
    for name, given in spelled(calls):
        numbers = line.reply(name, given)
        given_back.append(len(numbers))
        given_back.extend(numbers)
    return given_back
