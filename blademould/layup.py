"""The calls on one new mould, one behind another in one list of numbers, and what they answer."""

from blademould.calls import START, answer_call
from blademould.mould import Mould

# By a call's number: how many whole numbers it has ahead of its rows.
PLAIN_NUMBERS = (2, 2, 2, 3, 1, 1, 0, 0, 0, 0, 0, 1, 1, 0, 1, 1, 1, 2, 1, 0, 0)


def end_of_call(calls, place):
    """Where the call ends whose number stands at place."""
    end = place + 1 + PLAIN_NUMBERS[calls[place]]
    if calls[place] == START:
        end += 1 + calls[end]
    return end


def answers(calls):
    """For each call how many numbers it answers, then these."""
    answered = []
    mould = Mould()
    place = 0
    while place < len(calls):
        end = end_of_call(calls, place)
        answer = answer_call(mould, calls[place], calls[place + 1:end])
        answered.append(len(answer))
        answered.extend(answer)
        place = end
    return answered
