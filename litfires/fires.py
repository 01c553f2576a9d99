"""The calls on one object read from a list of whole numbers, and their answers written as one."""

from litfires.calls import answer
from litfires.ground import Ground

ROW = 11
# By a call's number: how many numbers stand behind it. Row's one tells how many more there are.
NUMBERS_BEHIND = (1, 2, 2, 1, 1, 1, 0, 0, 0, 0, 0, 1, 1, 2, 2, 2, 2, 1, 0, 0, 0, 0)


def end_of_call(calls, at):
    end = at + 1 + NUMBERS_BEHIND[calls[at]]
    if calls[at] == ROW:
        end += calls[at + 1]
    return end


def answers(calls):
    ground = Ground()
    said = []
    at = 0
    while at < len(calls):
        end = end_of_call(calls, at)
        answered = answer(ground, calls[at], calls[at + 1:end])
        said.append(len(answered))
        said.extend(answered)
        at = end
    return said
