"""The desk: answers a list of calls about one day."""

from travelday.fares import MOST_ZONES, Fares
from travelday.timetable import DAYS_OF_WEEK, Call, Timetable
from travelday.traveller import Traveller
from travelday.ways import FRESH, Place, find_plan

LAST_MINUTE_OUT = 2879
MOST_RIDES_PRICED = 7


class Desk:

    def __init__(self, zones, weekday):
        self.begin_day(zones, weekday)

    def begin_day(self, zones, weekday):
        self.fares = Fares(zones)
        self.timetable = Timetable(weekday)
        self.traveller = None


# A list within an answer stands behind how many numbers it has.
def written(numbers):
    return [len(numbers)] + numbers


def written_plan(plan):
    answer = [0] + written([plan.minute, plan.rides])
    for leg in plan.legs:
        answer.extend(written(leg))
    return answer


def answer_begins(desk, told):
    zones = told[0]
    weekday = told[1]
    if weekday >= DAYS_OF_WEEK or zones < 1 or zones > MOST_ZONES:
        return [-1]
    desk.begin_day(zones, weekday)
    return [0]


def answer_border(desk, told):
    return [desk.fares.add_border(told[0], told[1])]


def answer_product(desk, told):
    if told[0] == 0:
        return [desk.fares.add_any_product(told[1], told[2:])]
    end = 2 + told[1]
    return [desk.fares.add_told_product(told[2:end], told[end:])]


def answer_stop(desk, told):
    return [desk.timetable.add_stop(told[0], told[1], desk.fares.zones)]


def answer_trip(desk, told):
    calls = [Call(told[at], told[at + 1], told[at + 2]) for at in range(2, len(told), 3)]
    return [desk.timetable.add_trip(told[0], calls)]


def answer_walk(desk, told):
    return [desk.timetable.add_walk(told[0], told[1], told[2])]


def answer_late(desk, told):
    return [desk.timetable.tell_late(told[0], told[1], told[2])]


def answer_out(desk, told):
    start = told[0]
    goal = told[1]
    minute = told[2]
    stops = len(desk.timetable.stops)
    if start >= stops or goal >= stops or minute > LAST_MINUTE_OUT:
        return [-2]
    place = Place(start, minute, FRESH)
    plan = find_plan(desk.timetable, place, goal)
    if plan is None:
        return [-6]
    desk.traveller = Traveller(place, goal, plan.legs)
    return written_plan(plan)


def answer_on(desk, told):
    traveller = desk.traveller
    if traveller is None:
        return [-4]
    if len(traveller.legs) == 0:
        return [-3]
    if not traveller.go_leg(desk.timetable):
        return [-7]
    return [0] + written([traveller.place.stop, traveller.place.minute])


def answer_still(desk, told):
    traveller = desk.traveller
    if traveller is None:
        return [-4]
    places = traveller.places_to_come(desk.timetable)
    if len(places) > len(traveller.legs):
        return [0] + written([places[-1].minute])
    return [1] + written([len(places) - 1])


def answer_anew(desk, told):
    traveller = desk.traveller
    if traveller is None:
        return [-4]
    plan = find_plan(desk.timetable, traveller.place, traveller.goal)
    if plan is None:
        return [-6]
    traveller.legs = plan.legs
    return written_plan(plan)


def answer_price(desk, told):
    traveller = desk.traveller
    if traveller is None:
        return [-4]
    if not traveller.can_go_all(desk.timetable):
        return [-7]
    rides = traveller.all_rides(desk.timetable)
    if len(rides) > MOST_RIDES_PRICED:
        return [-5]
    purchase = desk.fares.cheapest(rides)
    if purchase is None:
        return [-6]
    answer = [purchase.price] + written([purchase.ways])
    for ticket in purchase.tickets:
        answer.extend(written(ticket))
    return answer


def answer_where(desk, told):
    traveller = desk.traveller
    if traveller is None:
        return [-4]
    place = traveller.place
    answer = [0] + written([place.stop, place.minute, place.how])
    return answer + written([len(traveller.rides_made), len(traveller.legs)])


# A call's place in this row is its number in the list of calls.
ANSWERS = (
    answer_begins, answer_border, answer_product, answer_stop, answer_trip, answer_walk, answer_late,
    answer_out, answer_on, answer_still, answer_anew, answer_price, answer_where,
)


# Each call is written as 0, how many numbers it has, then these, its place first.
def answers(calls):
    desk = Desk(0, 0)
    answered = []
    at = 0
    while at < len(calls):
        start = at + 2
        end = start + calls[at + 1]
        answer = ANSWERS[calls[start]](desk, calls[start + 1:end])
        answered.extend(written(answer))
        at = end
    return answered
