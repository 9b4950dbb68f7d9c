"""The timetable of one day of the week: its stops, its walks, its trips and how late they are."""

MINUTES_OF_DAY = 1440
DAYS_OF_WEEK = 7
MOST_STOPS = 10
MOST_WALKS = 12
MOST_TRIPS = 12
MOST_CHANGE = 120
MOST_WALK_MINUTES = 240
MOST_DAYS = 127
FEWEST_CALLS = 2
MOST_CALLS = 64
END_OF_TRIPS = 2880
MOST_LATE_CALL = 63
MOST_LATE_MINUTES = 240


class Stop:

    def __init__(self, change, zone):
        self.change = change
        self.zone = zone


class Walk:

    def __init__(self, start, end, minutes):
        self.start = start
        self.end = end
        self.minutes = minutes


class Call:

    def __init__(self, stop, comes, goes):
        self.stop = stop
        self.comes = comes
        self.goes = goes


class Trip:

    def __init__(self, days, calls):
        self.days = days
        self.calls = calls
        self.late_call = 0
        self.late_minutes = 0


# A trip as it begins on one day: -1 the day before, 0 this day, 1 the day after.
class Run:

    def __init__(self, trip, day, calls):
        self.trip = trip
        self.day = day
        self.calls = calls


# What is added or told is answered with a number, which is below 0 if it is refused.
class Timetable:

    def __init__(self, weekday):
        self.weekday = weekday
        self.stops = []
        self.walks = []
        self.trips = []

    def add_stop(self, change, zone, zones):
        if zone >= zones:
            return -2
        if len(self.stops) >= MOST_STOPS:
            return -5
        if change > MOST_CHANGE:
            return -2
        self.stops.append(Stop(change, zone))
        return len(self.stops) - 1

    def add_trip(self, days, calls):
        if len(self.trips) >= MOST_TRIPS:
            return -5
        if days < 1 or days > MOST_DAYS:
            return -2
        if len(calls) < FEWEST_CALLS or len(calls) > MOST_CALLS:
            return -2
        if not self.are_calls_in_order(calls):
            return -4
        self.trips.append(Trip(days, calls))
        return len(self.trips) - 1

    def are_calls_in_order(self, calls):
        gone = 0
        for call in calls:
            if call.stop >= len(self.stops):
                return False
            if call.comes < gone or call.goes < call.comes or call.goes >= END_OF_TRIPS:
                return False
            gone = call.goes
        return True

    def add_walk(self, start, end, minutes):
        if len(self.walks) >= MOST_WALKS:
            return -5
        if start >= len(self.stops) or end >= len(self.stops) or minutes > MOST_WALK_MINUTES:
            return -2
        self.walks.append(Walk(start, end, minutes))
        return len(self.walks) - 1

    # A call that the trip does not have may be told: the bound is the one on calls of any trip.
    def tell_late(self, number, call, minutes):
        if number >= len(self.trips) or call > MOST_LATE_CALL or minutes > MOST_LATE_MINUTES:
            return -2
        trip = self.trips[number]
        trip.late_call = call
        trip.late_minutes = minutes
        return 0

    def calls_now(self, number, day):
        trip = self.trips[number]
        # The trips of the day before and of the day after are on other days of the week.
        late = trip.late_minutes if day == 0 else 0
        shift = day * MINUTES_OF_DAY
        calls = []
        for at, call in enumerate(trip.calls):
            comes = call.comes + shift
            goes = call.goes + shift
            if at > trip.late_call:
                comes += late
            if at >= trip.late_call:
                goes += late
            calls.append(Call(call.stop, comes, goes))
        return calls

    # By trip, then by day: the order in which rides are compared.
    def runs_now(self):
        runs = []
        for number, trip in enumerate(self.trips):
            for day in (-1, 0, 1):
                weekday = (self.weekday + day) % DAYS_OF_WEEK
                if (trip.days >> weekday) & 1 == 1:
                    runs.append(Run(number, day, self.calls_now(number, day)))
        return runs
