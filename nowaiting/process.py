"""The calls, laid out one behind another in a list, and what they answer."""

from nowaiting.codes import DONE, WRONG_ARGUMENTS
from nowaiting.member import Member

BEGIN = 0
DO = 1
RECORD = 2
WROTE = 3
GOT = 4
PLACE = 5
ANSWER = 6

# How many numbers a call takes in the list, itself among them, by its number: uo_begin, uo_do, uo_record,
# uo_wrote, uo_got (whose record always has 40), uo_place, uo_answer, uo_value.
CALL_LENGTHS = (4, 6, 2, 2, 43, 2, 2, 3)

LEAST_MEMBERS = 2
MOST_MEMBERS = 8


def answers(calls):
    """Answer each call in order; before each answer stands how many numbers it has."""
    members = {}
    answered = []
    at = 0
    while at < len(calls):
        end = at + CALL_LENGTHS[calls[at]]
        answer = answer_call(members, calls[at:end])
        answered.append(len(answer))
        answered.extend(answer)
        at = end
    return answered


def answer_call(members, call):
    which = call[1]
    if call[0] == BEGIN:
        return begin(members, which, call[2], call[3])
    return ask_member(members[which], call)


def begin(members, which, me, n):
    if not (LEAST_MEMBERS <= n <= MOST_MEMBERS and 0 <= me < n):
        return [WRONG_ARGUMENTS]
    members[which] = Member(me, n)
    return [DONE]


def ask_member(member, call):
    number = call[0]
    if number == DO:
        return member.do(call[2], call[3], call[4], call[5])
    if number == RECORD:
        return member.show_record()
    if number == WROTE:
        return member.wrote()
    if number == GOT:
        # Ahead of the record stands how many numbers it has.
        return member.got(call[3:])
    if number == PLACE:
        return member.show_place()
    if number == ANSWER:
        return member.show_answer()
    return member.show_value(call[2])
