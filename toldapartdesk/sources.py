"""The interface: a list of calls on one new object, and the list of their answers."""

from toldapartdesk.desk import Desk
from toldapartdesk.desk import answer_of_call


def answers(calls):
    desk = Desk()
    answered = []
    place = 0
    while place < len(calls):
        first = place + 2
        behind = first + calls[place + 1]
        answer = answer_of_call(desk, calls[place], calls[first:behind])
        answered.append(len(answer))
        answered.extend(answer)
        # Behind its numbers a call has how many lists it has, which is 0 for every call.
        place = behind + 1
    return answered
