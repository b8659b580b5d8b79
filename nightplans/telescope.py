"""The calls of one session, handed in and answered as one list of numbers."""

from nightplans.session import Session

LOAD = 0
NIGHT = 1
OBSERVE = 2
CLOSE = 3
STARTS = 4
SLEW = 5
PLAN = 6
CHECK = 7
WITH = 8

# By the number of a call: how many whole numbers it has, ahead of its row if it has one.
NUMBERS = {0: 0, 1: 6, 2: 5, 3: 2, 4: 1, 5: 2, 6: 0, 7: 0, 8: 1, 9: 2}
WITH_ROW = (0, 7, 9)


def answers(calls):
    """For each call in order: how many numbers it answers, then these."""
    session = Session()
    answered = []
    begin = 0
    while begin < len(calls):
        end = end_of_call(calls, begin)
        answer = answer_of(session, calls[begin:end])
        answered.append(len(answer))
        answered.extend(answer)
        begin = end
    return answered


def end_of_call(calls, begin):
    end = begin + 1 + NUMBERS[calls[begin]]
    if calls[begin] in WITH_ROW:
        end += 1 + calls[end]
    return end


def answer_of(session, call):
    if call[0] == LOAD:
        return session.load(call[2:])
    if call[0] == NIGHT:
        return session.night(call[1], call[2], call[3], call[4], call[5], call[6])
    if call[0] == OBSERVE:
        return session.observe(call[1], call[2], call[3], call[4], call[5])
    if call[0] == CLOSE:
        return session.close(call[1], call[2])
    if call[0] == STARTS:
        return session.starts(call[1])
    if call[0] == SLEW:
        return session.slew(call[1], call[2])
    if call[0] == PLAN:
        return session.plan()
    if call[0] == CHECK:
        return session.check(call[2:])
    if call[0] == WITH:
        return session.plan_with(call[1])
    return session.rest(call[1], call[2], call[4:])
