"""Writes calls as rows of numbers, and reads what is answered."""

from travelday.desk import answers

EVERY_DAY = 127
MOST_NUMBER = 4294967295

ON = [8]
STILL = [9]
ANEW = [10]
PRICE = [11]
WHERE = [12]


def begins(zones, weekday):
    return [0, zones, weekday]


def border(i, j):
    return [1, i, j]


def any_product(count, price=100, minutes=60, persons=1, start=0, end=1440):
    return [2, 0, count, price, minutes, persons, start, end]


def told_product(zones, price=100, minutes=60, persons=1, start=0, end=1440):
    return [2, 1, len(zones)] + list(zones) + [price, minutes, persons, start, end]


def stop(change, zone):
    return [3, change, zone]


def trip(days, *calls):
    row = [4, days, len(calls)]
    for call in calls:
        row.extend(call)
    return row


def walk(start, end, minutes):
    return [5, start, end, minutes]


def late(number, call, minutes):
    return [6, number, call, minutes]


def out(start, goal, minute):
    return [7, start, goal, minute]


def written(calls):
    row = []
    for call in calls:
        row.extend([0, len(call)])
        row.extend(call)
    return row


def read(answered):
    rows = []
    at = 0
    while at < len(answered):
        end = at + 1 + answered[at]
        rows.append(answered[at + 1:end])
        at = end
    if at != len(answered):
        raise ValueError("the last answer is cut off")
    return rows


def ask(*calls):
    """The answers, a list each."""
    answered = read(answers(written(calls)))
    if len(answered) != len(calls):
        raise ValueError("not one answer for each call")
    return answered


def last(*calls):
    """The last call's answer."""
    return ask(*calls)[-1]


def split(answer):
    """An answer's number, then its lists."""
    lists = []
    at = 1
    while at < len(answer):
        end = at + 1 + answer[at]
        lists.append(answer[at + 1:end])
        at = end
    return [answer[0]] + lists


def plan_answer(minute, rides, *legs):
    """What out and anew answer of such a plan."""
    row = [0, 2, minute, rides]
    for leg in legs:
        row.extend([5] + list(leg))
    return row
