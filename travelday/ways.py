"""Ways through the timetable: where one is, what a leg leads to, and the plan to a stop."""

FRESH = 0
OFF = 1
BEHIND = 2

# A walk's numbers begin with this in the place of a trip.
WALK = -1

# Later than any minute of the timetable, and as a number below 0 earlier than any, by far more than walks add up to.
NEVER = 1000000


class Place:

    def __init__(self, stop, minute, how):
        self.stop = stop
        self.minute = minute
        self.how = how


# A leg is a list of its numbers.
class Plan:

    def __init__(self, minute, rides, legs):
        self.minute = minute
        self.rides = rides
        self.legs = legs


def ready_minute(timetable, place):
    if place.how == OFF:
        return place.minute + timetable.stops[place.stop].change
    return place.minute


# Gives back None if the leg can't be gone. A walk always can: no plan has a walk behind a walk.
def place_after(timetable, place, leg):
    if leg[0] == WALK:
        walk = timetable.walks[leg[1]]
        return Place(walk.end, place.minute + walk.minutes, BEHIND)
    calls = timetable.calls_now(leg[0], leg[1])
    if calls[leg[2]].goes < ready_minute(timetable, place):
        return None
    return Place(calls[leg[3]].stop, calls[leg[3]].comes, OFF)


# For each stop the earliest minute one is there, and the earliest that one can get on a trip there,
# with so many rides at most as were gone.
class Reach:

    def __init__(self, timetable, place):
        self.timetable = timetable
        self.there = [NEVER for stop in timetable.stops]
        self.ready = [NEVER for stop in timetable.stops]
        if place.how != BEHIND:
            walkable = [NEVER for stop in timetable.stops]
            walkable[place.stop] = place.minute
            self.walk_from(walkable)
        self.arrive(place.stop, place.minute, ready_minute(timetable, place))

    def arrive(self, stop, minute, ready):
        self.there[stop] = min(self.there[stop], minute)
        self.ready[stop] = min(self.ready[stop], ready)

    def walk_from(self, minutes):
        for walk in self.timetable.walks:
            minute = minutes[walk.start] + walk.minutes
            self.arrive(walk.end, minute, minute)

    def ride_once(self, runs):
        minutes = minutes_off(runs, self.ready)
        for number, stop in enumerate(self.timetable.stops):
            self.arrive(number, minutes[number], minutes[number] + stop.change)
        self.walk_from(minutes)


# The earliest minute at which one ride leads to each stop.
def minutes_off(runs, ready):
    minutes = [NEVER for stop in ready]
    for run in runs:
        aboard = False
        for call in run.calls:
            if aboard:
                minutes[call.stop] = min(minutes[call.stop], call.comes)
            if call.goes >= ready[call.stop]:
                aboard = True
    return minutes


# The earliest minute at the goal (NEVER if one can't get there), then the fewest rides for it.
def earliest(timetable, runs, place, goal):
    reach = Reach(timetable, place)
    minute = reach.there[goal]
    fewest = 0
    rides = 0
    ready = []
    while ready != reach.ready:
        ready = list(reach.ready)
        rides += 1
        reach.ride_once(runs)
        if reach.there[goal] < minute:
            minute = reach.there[goal]
            fewest = rides
    return (minute, fewest)


# The latest minutes at each stop, off a trip and behind a walk, from which one is still at the goal in time.
# (Nobody gets fresh anywhere by a leg.)
class LastMinutes:

    def __init__(self, off, behind):
        self.off = off
        self.behind = behind


# The latest minute at each stop at which one can get on a trip there that one can leave in time.
def last_boardings(runs, last_off):
    minutes = [-NEVER for stop in last_off]
    for run in runs:
        in_time = False
        for call in reversed(run.calls):
            if in_time:
                minutes[call.stop] = max(minutes[call.stop], call.goes)
            if call.comes <= last_off[call.stop]:
                in_time = True
    return minutes


# The latest minutes to be in time, given the latest to get on a trip at each stop.
def last_minutes(timetable, boardings, goal, minute):
    behind = list(boardings)
    behind[goal] = max(behind[goal], minute)
    off = [boardings[number] - stop.change for number, stop in enumerate(timetable.stops)]
    off[goal] = max(off[goal], minute)
    for walk in timetable.walks:
        off[walk.start] = max(off[walk.start], behind[walk.end] - walk.minutes)
    return LastMinutes(off, behind)


# Of 0, 1, 2 .. rides that are left, up to so many, the latest minutes.
def last_minutes_by_rides(timetable, runs, goal, minute, rides):
    boardings = [-NEVER for stop in timetable.stops]
    lasts = [last_minutes(timetable, boardings, goal, minute)]
    while len(lasts) <= rides:
        boardings = last_boardings(runs, lasts[-1].off)
        lasts.append(last_minutes(timetable, boardings, goal, minute))
    return lasts


def first_walk(timetable, place, last_behind):
    for number, walk in enumerate(timetable.walks):
        minute = place.minute + walk.minutes
        if walk.start == place.stop and minute <= last_behind[walk.end]:
            return [WALK, number, walk.start, walk.end, minute]
    return None


def first_ride(timetable, runs, place, last_off):
    ready = ready_minute(timetable, place)
    for run in runs:
        for on, call in enumerate(run.calls):
            if call.stop == place.stop and call.goes >= ready:
                off = first_call_off(run.calls, on, last_off)
                if off is not None:
                    return [run.trip, run.day, on, off, run.calls[off].comes]
    return None


def first_call_off(calls, on, last_off):
    for off in range(on + 1, len(calls)):
        if calls[off].comes <= last_off[calls[off].stop]:
            return off
    return None


# A leg is taken if one can still be at the goal in time behind it, so the first such leg is always right,
# and one is there in time when one is there. Walks come ahead of rides, since their numbers begin with -1.
def first_legs(timetable, runs, place, goal, lasts):
    legs = []
    left = len(lasts) - 1
    while place.stop != goal:
        leg = None
        if place.how != BEHIND:
            leg = first_walk(timetable, place, lasts[left].behind)
        if leg is None:
            left -= 1
            leg = first_ride(timetable, runs, place, lasts[left].off)
        place = place_after(timetable, place, leg)
        legs.append(leg)
    return legs


# Gives back None if one can't get there.
def find_plan(timetable, place, goal):
    runs = timetable.runs_now()
    found = earliest(timetable, runs, place, goal)
    minute = found[0]
    rides = found[1]
    if minute == NEVER:
        return None
    lasts = last_minutes_by_rides(timetable, runs, goal, minute, rides)
    return Plan(minute, rides, first_legs(timetable, runs, place, goal, lasts))
