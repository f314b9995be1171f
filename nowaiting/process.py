"""The calls, laid out one behind another in a list, and what they answer."""

from nowaiting.codes import DONE, WRONG_ARGUMENTS
from nowaiting.member import Member

BEGIN = 0
DO = 1
RECORD = 2

# How many numbers a call takes in the list, itself among them: uo_begin, uo_do, uo_record, uo_wrote.
CALL_LENGTHS = (4, 6, 2, 2)

LEAST_MEMBERS = 2
MOST_MEMBERS = 8


def answers(calls):
    """Answer each call in order; before each answer stands how many numbers it has."""
    members = {}
    answered = []
    at = 0
    while at < len(calls):
        end = at + CALL_LENGTHS[calls[at]]
        answer = answer_call(members, calls[at:end])
        answered.append(len(answer))
        answered.extend(answer)
        at = end
    return answered


def answer_call(members, call):
    number = call[0]
    which = call[1]
    if number == BEGIN:
        return begin(members, which, call[2], call[3])
    member = members[which]
    if number == DO:
        return member.do(call[2], call[3], call[4], call[5])
    if number == RECORD:
        return member.show_record()
    return member.wrote()


def begin(members, which, me, n):
    if not (LEAST_MEMBERS <= n <= MOST_MEMBERS and 0 <= me < n):
        return [WRONG_ARGUMENTS]
    members[which] = Member(me, n)
    return [DONE]
