"""Point 7, and what it says of fares: price."""

import unittest

from tests.helper import (
    ON, PRICE, WHERE, any_product, ask, begins, border, last, late, out, stop, told_product, trip, walk,
)


def line(rides, zones=None, weekday=0):
    """Stops in a row, one trip from each to the following one: ride i goes at 10 i and is there 10 later."""
    zones = zones or [0] * (rides + 1)
    calls = [begins(max(zones) + 1, weekday)]
    calls += [stop(0, zone) for zone in zones]
    calls += [trip(127, (at, 10 * at, 10 * at), (at + 1, 10 * at + 10, 10 * at + 10)) for at in range(rides)]
    return calls


def priced(rides, *others, zones=None):
    return last(*line(rides, zones), *others, out(0, rides, 0), PRICE)


class Counting(unittest.TestCase):

    def test_no_rides(self):
        self.assertEqual(last(begins(1, 0), stop(0, 0), out(0, 0, 5), PRICE), [0, 1, 1])
        self.assertEqual(last(begins(1, 0), stop(0, 0), any_product(1), out(0, 0, 5), PRICE), [0, 1, 1])
        self.assertEqual(last(begins(1, 0), stop(0, 0), stop(0, 0), walk(0, 1, 5), out(0, 1, 5), ON, PRICE), [0, 1, 1])

    def test_one_ride(self):
        self.assertEqual(priced(1, any_product(1, 70)), [70, 1, 1, 2, 0, 0])
        self.assertEqual(priced(1, any_product(1, 0)), [0, 1, 1, 2, 0, 0])

    def test_the_cheapest_product(self):
        self.assertEqual(priced(1, any_product(1, 70), any_product(1, 60), any_product(1, 65)), [60, 1, 1, 2, 1, 0])

    def test_several_products_at_a_price(self):
        self.assertEqual(priced(1, any_product(1, 70), any_product(1, 60), told_product([0], 60)),
                         [60, 1, 2, 2, 1, 0])

    def test_one_ticket_for_several_rides(self):
        self.assertEqual(priced(3, any_product(1, 70)), [70, 1, 1, 4, 0, 0, 1, 2])

    def test_a_ticket_each(self):
        self.assertEqual(priced(3, any_product(1, 70, minutes=10)), [210, 1, 1, 2, 0, 0, 2, 0, 1, 2, 0, 2])

    def test_many_ways_and_the_earliest_of_them(self):
        # Two rides at most on a ticket: 0 and 1, 2 alone; or 0 alone, 1 and 2.
        self.assertEqual(priced(3, any_product(1, 70, minutes=20)), [140, 1, 2, 2, 0, 0, 3, 0, 1, 2])

    def test_rides_that_are_not_side_by_side_may_share_a_ticket(self):
        answer = priced(3, told_product([0], 70), told_product([1], 5), zones=[0, 0, 1, 1])
        self.assertEqual(answer, [-6])
        # Rides 0 and 2 are in zone 0 and 1, ride 1 in zone 2 and 3.
        calls = [begins(4, 0), stop(0, 0), stop(0, 1), stop(0, 2), stop(0, 3), stop(0, 0), stop(0, 1),
                 walk(1, 2, 0), walk(3, 4, 0),
                 trip(1, (0, 10, 10), (1, 20, 20)), trip(1, (2, 20, 20), (3, 30, 30)),
                 trip(1, (4, 30, 30), (5, 40, 40)), told_product([0, 1], 70), told_product([2, 3], 50)]
        self.assertEqual(last(*calls, out(0, 5, 10), PRICE), [120, 1, 1, 3, 0, 0, 2, 2, 1, 1])

    def test_no_price_at_all_and_every_way_counts(self):
        # 3 rides can be parted in 5 ways; with two products at 0: 2 + 3 * 4 + 8.
        self.assertEqual(priced(3, any_product(1, 0)), [0, 1, 5, 2, 0, 0, 2, 0, 1, 2, 0, 2])
        self.assertEqual(priced(3, any_product(1, 0), any_product(1, 0)), [0, 1, 22, 2, 0, 0, 2, 0, 1, 2, 0, 2])

    def test_the_same_price_by_one_ticket_or_two(self):
        # {0} 50 + {1} 50 is as much as {0, 1} 100.
        self.assertEqual(priced(2, any_product(1, 100), any_product(1, 50, minutes=10)),
                         [100, 1, 2, 2, 1, 0, 2, 1, 1])

    def test_the_lesser_set_counts_ahead_of_the_lesser_product(self):
        self.assertEqual(priced(2, any_product(1, 100), any_product(1, 100), any_product(1, 50, minutes=10)),
                         [100, 1, 3, 2, 2, 0, 2, 2, 1])

    def test_the_lesser_set_is_by_its_number(self):
        # Two tickets for two rides each, {0, 1} and {2, 3}, or one for all: {0, 1} is 3, {0, 1, 2, 3} is 15.
        answer = priced(4, any_product(1, 60, minutes=20), any_product(1, 120))
        self.assertEqual(answer, [120, 1, 2, 3, 0, 0, 1, 3, 0, 2, 3])

    def test_7_rides_at_most(self):
        self.assertEqual(priced(7, any_product(1, 70, minutes=70)), [70, 1, 1, 8, 0, 0, 1, 2, 3, 4, 5, 6])
        self.assertEqual(priced(8, any_product(1, 70, minutes=80)), [-5])

    def test_the_ways_of_7_rides(self):
        self.assertEqual(priced(7, any_product(1, 0, minutes=70))[:3], [0, 1, 877])


class Refusals(unittest.TestCase):

    def test_not_on_the_way(self):
        self.assertEqual(last(*line(1), any_product(1), PRICE), [-4])

    def test_no_such_tickets(self):
        self.assertEqual(priced(1), [-6])
        self.assertEqual(priced(2, told_product([0]), zones=[0, 0, 1]), [-6])

    def test_legs_that_can_not_be_gone_are_told_first(self):
        for rides in (2, 8):
            calls = line(rides) + [out(0, rides, 0), late(0, 0, 1), PRICE, WHERE]
            self.assertEqual(ask(*calls)[-2:], [[-7], [0, 3, 0, 0, 0, 2, 0, rides]])

    def test_too_many_rides_are_told_ahead_of_no_tickets(self):
        self.assertEqual(priced(8), [-5])
        self.assertEqual(priced(7), [-6])

    def test_made_rides_and_those_to_come_count_together(self):
        calls = line(8) + [any_product(1, 70, minutes=80), out(0, 7, 0)] + [ON] * 7
        self.assertEqual(last(*calls, PRICE), [70, 1, 1, 8, 0, 0, 1, 2, 3, 4, 5, 6])
        calls = line(8) + [any_product(1, 70, minutes=80), out(0, 8, 0)] + [ON] * 4
        self.assertEqual(last(*calls, PRICE), [-5])

    def test_it_changes_nothing(self):
        calls = line(2) + [any_product(1, 70), out(0, 2, 0), PRICE, WHERE, PRICE, ON, PRICE, any_product(1)]
        self.assertEqual(ask(*calls)[-6:], [[70, 1, 1, 3, 0, 0, 1], [0, 3, 0, 0, 0, 2, 0, 2], [70, 1, 1, 3, 0, 0, 1],
                                            [0, 2, 1, 10], [70, 1, 1, 3, 0, 0, 1], [1]])


class Minutes(unittest.TestCase):

    def test_how_long_it_is_good(self):
        self.assertEqual(priced(2, any_product(1, 70, minutes=20)), [70, 1, 1, 3, 0, 0, 1])
        self.assertEqual(priced(2, any_product(1, 70, minutes=19)), [140, 1, 1, 2, 0, 0, 2, 0, 1])
        self.assertEqual(priced(2, any_product(1, 70, minutes=9)), [-6])

    def test_it_begins_when_the_trip_goes_where_one_gets_on(self):
        calls = [begins(1, 0), stop(0, 0), stop(0, 0), trip(1, (1, 0, 5), (0, 30, 50), (1, 60, 90))]
        self.assertEqual(last(*calls, any_product(1, 70, minutes=10), out(0, 1, 0), PRICE), [70, 1, 1, 2, 0, 0])
        self.assertEqual(last(*calls, any_product(1, 70, minutes=9), out(0, 1, 0), PRICE), [-6])

    def test_from_which_minute_of_a_day_up_to_which(self):
        calls = [begins(1, 0), stop(0, 0), stop(0, 0), trip(127, (0, 100, 100), (1, 150, 150))]
        for minute in (0, 1000):
            for start, end, answer in (
                    (100, 101, [70, 1, 1, 2, 0, 0]), (101, 102, [-6]), (0, 100, [-6]), (0, 101, [70, 1, 1, 2, 0, 0]),
                    (100, 1440, [70, 1, 1, 2, 0, 0]), (101, 1440, [-6])):
                self.assertEqual(
                    last(*calls, any_product(1, 70, start=start, end=end), out(0, 1, minute), PRICE), answer)

    def test_the_first_ride_alone_must_be_within_them(self):
        self.assertEqual(priced(3, any_product(1, 70, start=0, end=1), any_product(1, 300)), [70, 1, 1, 4, 0, 0, 1, 2])
        self.assertEqual(priced(3, any_product(1, 70, start=10, end=11), any_product(1, 300)), [300, 1, 1, 4, 1, 0, 1, 2])
        self.assertEqual(priced(2, any_product(1, 70, start=10, end=11), any_product(1, 30, minutes=10)),
                         [60, 1, 1, 2, 1, 0, 2, 1, 1])

    def test_for_one_person_every_product_is_good(self):
        for persons in (1, 9):
            self.assertEqual(priced(1, any_product(1, 70, persons=persons)), [70, 1, 1, 2, 0, 0])

    def test_by_the_times_as_they_are_now(self):
        calls = line(2) + [any_product(1, 70, minutes=20), out(0, 2, 0)]
        self.assertEqual(last(*calls, late(1, 0, 1), PRICE), [140, 1, 1, 2, 0, 0, 2, 0, 1])

    def test_trips_of_the_day_before_and_of_the_day_after(self):
        # From 0 to 1 with the day before's trip at 10, on to 2 at 30; from 3 on this day at 1435, then the day after.
        calls = [begins(1, 0), stop(0, 0), stop(0, 0), stop(0, 0), stop(0, 0),
                 trip(127, (0, 1450, 1450), (1, 1460, 1460)), trip(127, (1, 30, 30), (2, 40, 40)),
                 trip(127, (3, 1435, 1435), (1, 1440, 1440))]
        for start, minute, minutes in ((0, 5, 30), (3, 1430, 45)):
            self.assertEqual(last(*calls, any_product(1, 70, minutes=minutes), out(start, 2, minute), PRICE),
                             [70, 1, 1, 3, 0, 0, 1])
            self.assertEqual(last(*calls, any_product(1, 70, minutes=minutes - 1), out(start, 2, minute), PRICE),
                             [140, 1, 1, 2, 0, 0, 2, 0, 1])

    def test_a_ride_made_is_as_it_was(self):
        calls = line(2) + [any_product(1, 70, minutes=20), out(0, 2, 0), ON, ON]
        self.assertEqual(last(*calls, late(1, 0, 1), PRICE), [70, 1, 1, 3, 0, 0, 1])
        calls = line(2) + [any_product(1, 70, minutes=20), out(0, 2, 0), ON, late(1, 0, 1), ON, late(1, 0, 0)]
        self.assertEqual(last(*calls, PRICE), [140, 1, 1, 2, 0, 0, 2, 0, 1])


class Zones(unittest.TestCase):

    def test_told_ones(self):
        self.assertEqual(priced(1, told_product([0, 1], 70), told_product([0], 1), told_product([1], 1), zones=[0, 1]),
                         [70, 1, 1, 2, 0, 0])
        self.assertEqual(priced(1, told_product([1, 2, 1, 0], 70), zones=[0, 2]), [70, 1, 1, 2, 0, 0])

    def test_told_ones_need_not_hang_together(self):
        self.assertEqual(priced(1, told_product([0, 2], 70), zones=[0, 2]), [70, 1, 1, 2, 0, 0])

    def test_zones_between_the_ends_count(self):
        calls = [begins(3, 0), stop(0, 0), stop(0, 1), stop(0, 2), stop(0, 0),
                 trip(1, (2, 0, 0), (0, 10, 10), (1, 20, 20), (3, 30, 30), (2, 40, 40))]
        self.assertEqual(last(*calls, told_product([0], 70), out(0, 3, 5), PRICE), [-6])
        self.assertEqual(last(*calls, told_product([0, 1], 70), out(0, 3, 5), PRICE), [70, 1, 1, 2, 0, 0])
        self.assertEqual(last(*calls, any_product(1, 70), border(0, 1), out(0, 3, 5), PRICE), [-6])
        self.assertEqual(last(*calls, any_product(2, 70), border(0, 1), out(0, 3, 5), PRICE), [70, 1, 1, 2, 0, 0])

    def test_zones_that_do_not_hang_together(self):
        self.assertEqual(priced(1, any_product(8, 70), zones=[0, 1]), [-6])
        self.assertEqual(priced(1, any_product(8, 70), border(0, 1), zones=[0, 1]), [70, 1, 1, 2, 0, 0])
        self.assertEqual(priced(1, any_product(8, 70), border(1, 0), zones=[0, 1]), [70, 1, 1, 2, 0, 0])

    def test_one_zone_hangs_together(self):
        self.assertEqual(priced(1, any_product(1, 70), zones=[7, 7]), [70, 1, 1, 2, 0, 0])

    def test_two_rides_apart_are_not_on_one_ticket(self):
        answer = priced(2, any_product(8, 70), zones=[1, 1, 1])
        self.assertEqual(answer, [70, 1, 1, 3, 0, 0, 1])
        calls = [begins(2, 0), stop(0, 0), stop(0, 0), stop(0, 1), stop(0, 1), walk(1, 2, 0),
                 trip(1, (0, 10, 10), (1, 20, 20)), trip(1, (2, 20, 20), (3, 30, 30)), any_product(8, 70),
                 out(0, 3, 10)]
        self.assertEqual(last(*calls, PRICE), [140, 1, 1, 2, 0, 0, 2, 0, 1])
        self.assertEqual(last(*calls, border(0, 1), PRICE), [70, 1, 1, 3, 0, 0, 1])

    def test_the_hull_takes_the_shortest_way_round(self):
        # A ring of 6 zones: from 0 to 2 over 1, from 0 to 3 half round, from 0, 2 and 4 over all but one.
        ring = [border(at, (at + 1) % 6) for at in range(6)]
        for visited, hull in (([0, 0], 1), ([0, 1], 2), ([0, 2], 3), ([5, 1], 3), ([0, 3], 4), ([0, 2, 4], 5),
                              ([0, 1, 3], 4), ([1, 3, 4, 0], 5)):
            calls = [begins(6, 0)] + ring + [stop(0, zone) for zone in visited]
            calls += [trip(1, *[(at, 10 * at, 10 * at) for at in range(len(visited))])]
            goal = len(visited) - 1
            self.assertEqual(last(*calls, any_product(hull, 70), out(0, goal, 0), PRICE), [70, 1, 1, 2, 0, 0])
            if hull > 1:
                self.assertEqual(last(*calls, any_product(hull - 1, 70), out(0, goal, 0), PRICE), [-6])

    def test_the_hull_has_a_zone_in_the_middle(self):
        # A star: the outer zones hang together over zone 0 alone.
        calls = [begins(4, 0), border(0, 1), border(2, 0), border(0, 3), stop(0, 1), stop(0, 2), stop(0, 3),
                 trip(1, (0, 0, 0), (1, 5, 5), (2, 9, 9))]
        self.assertEqual(last(*calls, any_product(3, 70), out(0, 2, 0), PRICE), [-6])
        self.assertEqual(last(*calls, any_product(4, 70), out(0, 2, 0), PRICE), [70, 1, 1, 2, 0, 0])

    def test_a_border_told_later_counts(self):
        calls = line(1, [0, 1]) + [any_product(2, 70), out(0, 1, 0), ON, PRICE, border(0, 1), PRICE]
        self.assertEqual(ask(*calls)[-3:], [[-6], [0], [70, 1, 1, 2, 0, 0]])


if __name__ == "__main__":
    unittest.main()
