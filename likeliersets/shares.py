"""The calls on one new object, told as one list of whole numbers, and what they answer."""

from likeliersets.session import Session

NOT_BEGUN = -11

BEGIN = 0
TELL = 1
UNTELL = 2
CAN = 3
WAYS = 4
PLAINEST = 5
FITS = 6
WRONG = 7
RULES = 8
ALL_SHARES = 9
BROKEN = 10
BEYOND = 11
WHOLE = 12
CHANCE = 13
GIVEN = 14
ALIKE = 15
CLASHES = 16
SPARE = 17
SETTLED = 18
LOOK = 19
STATE = 20

# How many whole numbers stand behind each call's number, rows apart.
HOW_MANY_NUMBERS = (1, 3, 1, 0, 0, 0, 0, 0, 2, 2, 0, 0, 0, 1, 3, 0, 0, 0, 1, 1, 0)


def end_of_call(calls, start):
    number = calls[start]
    if number == FITS or number == WRONG:
        return start + 2 + calls[start + 1]
    return start + 1 + HOW_MANY_NUMBERS[number]


def answer_about_told(session, number, numbers):
    if number == BEGIN:
        return session.begin(numbers[0])
    if number == TELL:
        return session.tell(numbers[0], numbers[1], numbers[2])
    if number == UNTELL:
        return session.untell(numbers[0])
    if number == LOOK:
        return session.look(numbers[0])
    return session.state()


def answer_about_fitting(session, number, numbers):
    if number == CAN:
        return session.can()
    if number == WAYS:
        return session.ways()
    if number == PLAINEST:
        return session.plainest()
    # Ahead of a row stands how many numbers it has.
    if number == FITS:
        return session.fits(numbers[1:])
    return session.wrong(numbers[1:])


def answer_by_shares(session, number, numbers):
    if number == ALL_SHARES:
        return session.all_shares(numbers[0], numbers[1])
    if number == GIVEN:
        return session.given(numbers[0], numbers[1], numbers[2])
    if number == CHANCE:
        return session.chance(numbers[0])
    if number == SPARE:
        return session.spare()
    return session.clashes()


def answer_by_rules(session, number, numbers):
    if number == RULES:
        return session.rules(numbers[0], numbers[1])
    if number == BROKEN:
        return session.broken()
    if number == WHOLE:
        return session.whole()
    if number == ALIKE:
        return session.alike()
    if number == BEYOND:
        return session.beyond()
    return session.settled(numbers[0])


def answer_to(session, number, numbers):
    if number != BEGIN and not session.has_begun():
        return [NOT_BEGUN]
    if number in (BEGIN, TELL, UNTELL, LOOK, STATE):
        return answer_about_told(session, number, numbers)
    if number in (CAN, WAYS, PLAINEST, FITS, WRONG):
        return answer_about_fitting(session, number, numbers)
    if number in (ALL_SHARES, GIVEN, CHANCE, SPARE, CLASHES):
        return answer_by_shares(session, number, numbers)
    return answer_by_rules(session, number, numbers)


def answers(calls):
    session = Session()
    answered = []
    start = 0
    while start < len(calls):
        end = end_of_call(calls, start)
        answer = answer_to(session, calls[start], calls[start + 1:end])
        answered.append(len(answer))
        answered.extend(answer)
        start = end
    return answered
