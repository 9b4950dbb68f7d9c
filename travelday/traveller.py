"""The traveller: where one is, the legs to come, and the rides that were made."""

from travelday.fares import Ride
from travelday.ways import WALK, place_after


# A ride by the times as they are now.
def ride_now(timetable, leg):
    calls = timetable.calls_now(leg[0], leg[1])
    zones = 0
    for call in calls[leg[2]:leg[3] + 1]:
        zones |= 1 << timetable.stops[call.stop].zone
    return Ride(calls[leg[2]].goes, calls[leg[3]].comes, zones)


def rides_now(timetable, legs):
    return [ride_now(timetable, leg) for leg in legs if leg[0] != WALK]


class Traveller:

    def __init__(self, place, goal, legs):
        self.place = place
        self.goal = goal
        self.legs = legs
        self.rides_made = []

    # Tells whether the next leg could be gone. A ride is kept with its times, which may be told otherwise later.
    def go_leg(self, timetable):
        place = place_after(timetable, self.place, self.legs[0])
        if place is None:
            return False
        self.rides_made.extend(rides_now(timetable, self.legs[:1]))
        self.place = place
        self.legs = self.legs[1:]
        return True

    # Where one is now, then behind each leg to come, up to the first that can't be gone.
    def places_to_come(self, timetable):
        places = [self.place]
        for leg in self.legs:
            place = place_after(timetable, places[-1], leg)
            if place is None:
                break
            places.append(place)
        return places

    def can_go_all(self, timetable):
        return len(self.places_to_come(timetable)) > len(self.legs)

    def all_rides(self, timetable):
        return self.rides_made + rides_now(timetable, self.legs)
