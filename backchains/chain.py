"""The interface: calls one behind another in one list, and their answers likewise."""

from backchains.holder import Holder

CHAIN = 0
RUN = 1
STATE = 2
BACKWARD = 3
FORWARD = 4
LEAST = 5
SPLIT = 6
MOST = 7
ROOM = 8
SCHEDULE = 9
CHECK = 10
PLAY = 11

# For each call, by its number: how many whole numbers it has, then how many rows.
SHAPES = ((1, 2), (1, 1), (1, 0), (0, 1), (0, 1), (2, 0), (2, 0), (2, 0), (2, 0), (2, 0), (2, 1), (1, 2), (1, 1))


def answers(calls):
    """For each call how many numbers are answered, then these."""
    holder = Holder()
    told = []
    place = 0
    while place < len(calls):
        number = calls[place]
        place += 1
        arguments = calls[place:place + SHAPES[number][0]]
        place += SHAPES[number][0]
        for row in range(SHAPES[number][1]):
            length = calls[place]
            arguments.append(calls[place + 1:place + 1 + length])
            place += 1 + length
        answer = answer_of(holder, number, arguments)
        told.append(len(answer))
        told.extend(answer)
    return told


def answer_of(holder, number, arguments):
    if number == CHAIN:
        return holder.tell_chain(arguments[0], arguments[1], arguments[2])
    if number == RUN:
        return holder.tell_run(arguments[0], arguments[1])
    if number == STATE:
        return holder.state(arguments[0])
    if number == BACKWARD:
        return holder.backward(arguments[0])
    if number == FORWARD:
        return holder.forward(arguments[0])
    if number == LEAST:
        return holder.least(arguments[0], arguments[1])
    if number == SPLIT:
        return holder.parting(arguments[0], arguments[1])
    if number == MOST:
        return holder.most(arguments[0], arguments[1])
    if number == ROOM:
        return holder.room(arguments[0], arguments[1])
    if number == SCHEDULE:
        return holder.schedule(arguments[0], arguments[1])
    if number == CHECK:
        return holder.check(arguments[0], arguments[1], arguments[2])
    if number == PLAY:
        return holder.play(arguments[0], arguments[1], arguments[2])
    return holder.auto(arguments[0], arguments[1])
