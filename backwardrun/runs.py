"""The interface: a flat list of calls in, a flat list of what they answer out."""

from backwardrun.calls import answer_call
from backwardrun.session import Session

# By the calls' numbers: begin and pads have a row each, the others so many numbers.
ROW_CALLS = (0, 1)
HOW_MANY_NUMBERS = {2: 1, 3: 1, 4: 2, 5: 2, 6: 0, 7: 0, 8: 1, 9: 0, 10: 0, 11: 1, 12: 2, 13: 0}


# Where the numbers of the call at `at` begin: a row has its count before it.
def numbers_start(calls, at):
    return at + 2 if calls[at] in ROW_CALLS else at + 1


def numbers_end(calls, at):
    many = calls[at + 1] if calls[at] in ROW_CALLS else HOW_MANY_NUMBERS[calls[at]]
    return numbers_start(calls, at) + many


def answers(calls):
    session = Session()
    answered = []
    at = 0
    while at < len(calls):
        end = numbers_end(calls, at)
        answer = answer_call(session, calls[at], calls[numbers_start(calls, at):end])
        answered.append(len(answer))
        answered.extend(answer)
        at = end
    return answered
