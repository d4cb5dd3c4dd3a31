"""The calls, told as one list of numbers, and their answers, told as one list."""

from boxturns.line import Line

# How many numbers a call has, with its own; a program's are told within the call.
SIZES = {1: 3, 2: 3, 3: 3, 4: 2, 5: 2, 6: 2, 7: 2, 8: 2, 9: 1, 10: 1}


def answers(calls):
    line = Line()
    answered = []
    place = 0
    while place < len(calls):
        size = size_of_call(calls, place)
        answer = answer_call(line, calls[place:place + size])
        answered.append(len(answer))
        answered.extend(answer)
        place += size
    return answered


def size_of_call(calls, place):
    if calls[place] == 0:
        return 2 + calls[place + 1]
    return SIZES[calls[place]]


def answer_call(line, call):
    if call[0] == 0:
        return line.program(call[2:])
    if call[0] == 1:
        return line.begin(call[1], call[2])
    if call[0] == 2:
        return line.run(call[1], call[2])
    if call[0] == 3:
        return line.deliver(call[1], call[2])
    if call[0] == 4:
        return line.ticks(call[1])
    if call[0] == 5:
        return line.turns(call[1])
    return answer_question(line, call)


# These leave the world as it is.
def answer_question(line, call):
    if call[0] == 6:
        return line.tell_process(call[1])
    if call[0] == 7:
        return line.tell_box(call[1])
    if call[0] == 8:
        return line.tell_said(call[1])
    if call[0] == 9:
        return line.tell_air()
    return line.tell_counts()
