"""Point 4, and what it says of ways: out, and which plan it is."""

import unittest

from tests.helper import (
    EVERY_DAY, MOST_NUMBER, ON, WHERE, ask, begins, last, late, out, plan_answer, stop, trip, walk,
)


def stops(*changes):
    return (begins(1, 0),) + tuple(stop(change, 0) for change in changes)


THREE = stops(0, 0, 0)


class Going(unittest.TestCase):

    def test_one_ride(self):
        before = THREE + (trip(1, (0, 10, 12), (1, 20, 21), (2, 30, 30)),)
        self.assertEqual(last(*before, out(0, 2, 5)), plan_answer(30, 1, (0, 0, 0, 2, 30)))
        self.assertEqual(last(*before, out(1, 2, 21)), plan_answer(30, 1, (0, 0, 1, 2, 30)))
        self.assertEqual(last(*before, out(1, 2, 22)), [-6])
        self.assertEqual(last(*before, out(2, 0, 0)), [-6])

    def test_the_traveller_is_there_fresh(self):
        before = THREE + (trip(1, (0, 10, 12), (1, 20, 21)),)
        self.assertEqual(last(*before, out(0, 1, 5), WHERE), [0, 3, 0, 5, 0, 2, 0, 1])

    def test_wrong_stops_and_minutes(self):
        before = THREE + (walk(0, 1, 3),)
        self.assertEqual(
            ask(*before, out(3, 0, 0), out(0, 3, 0), out(0, 1, 2880), out(MOST_NUMBER, 0, 0), out(0, 1, MOST_NUMBER),
                out(0, 2, 2880), out(0, 2, 0), out(0, 1, 2879), out(0, 1, 0))[5:],
            [[-2], [-2], [-2], [-2], [-2], [-2], [-6], plan_answer(2882, 0, (-1, 0, 0, 1, 2882)),
             plan_answer(3, 0, (-1, 0, 0, 1, 3))])

    def test_a_refusal_leaves_the_journey(self):
        before = THREE + (trip(1, (0, 10, 12), (1, 20, 21)), walk(1, 0, 4), out(0, 0, 7), out(0, 1, 5), ON)
        for wrong, answer in ((out(0, 9, 0), [-2]), (out(0, 1, 2880), [-2]), (out(0, 2, 0), [-6])):
            self.assertEqual(ask(*before, wrong, WHERE)[-2:], [answer, [0, 3, 1, 20, 1, 2, 1, 0]])

    def test_out_again_forgets_the_rides(self):
        before = THREE + (trip(1, (0, 10, 12), (1, 20, 21)), out(0, 1, 5), ON)
        self.assertEqual(ask(*before, out(0, 1, 6), WHERE)[-1], [0, 3, 0, 6, 0, 2, 0, 1])

    def test_to_where_one_is(self):
        before = THREE + (trip(1, (0, 10, 10), (0, 10, 10)), walk(0, 0, 0))
        self.assertEqual(last(*before, out(0, 0, 10)), plan_answer(10, 0))
        self.assertEqual(last(*before, out(1, 1, 10)), plan_answer(10, 0))

    def test_a_ride_to_the_same_stop_is_one(self):
        before = THREE + (trip(1, (0, 10, 10), (1, 15, 15), (0, 20, 20), (2, 30, 30)),)
        self.assertEqual(last(*before, out(0, 2, 0)), plan_answer(30, 1, (0, 0, 0, 3, 30)))
        self.assertEqual(last(*before, out(0, 2, 11)), plan_answer(30, 1, (0, 0, 2, 3, 30)))


class Days(unittest.TestCase):

    def test_each_day_of_the_week_and_those_beside_it(self):
        for weekday in range(7):
            for shift in (-1, 0, 1):
                for days, runs in ((1 << (weekday + shift) % 7, True), (127 ^ 1 << (weekday + shift) % 7, False)):
                    start = 100 + 1440 * (shift == -1)
                    minute = start + 1440 * shift
                    answer = last(begins(1, weekday), stop(0, 0), stop(0, 0),
                                  trip(days, (0, start, start), (1, start + 9, start + 9)), out(0, 1, minute))
                    ride = plan_answer(minute + 9, 1, (0, shift, 0, 1, minute + 9))
                    if runs:
                        self.assertEqual(answer, ride, (weekday, shift))
                    else:
                        self.assertNotEqual(answer, ride, (weekday, shift))

    def test_the_day_before_is_over_midnight(self):
        before = stops(0, 0) + (trip(EVERY_DAY, (0, 1430, 1430), (1, 1450, 1450), (0, 1460, 1460), (1, 1470, 1470)),)
        self.assertEqual(last(*before, out(0, 1, 0)), plan_answer(30, 1, (0, -1, 2, 3, 30)))
        self.assertEqual(last(*before, out(0, 1, 21)), plan_answer(1450, 1, (0, 0, 0, 1, 1450)))
        self.assertEqual(last(*before, out(0, 1, 1461)), plan_answer(2890, 1, (0, 1, 0, 1, 2890)))
        self.assertEqual(last(*before, out(0, 1, 2871)), plan_answer(2910, 1, (0, 1, 2, 3, 2910)))

    def test_there_is_no_second_day_after(self):
        before = stops(0, 0) + (trip(EVERY_DAY, (0, 5, 5), (1, 9, 9)),)
        self.assertEqual(last(*before, out(0, 1, 1445)), plan_answer(1449, 1, (0, 1, 0, 1, 1449)))
        self.assertEqual(last(*before, out(0, 1, 1446)), [-6])

    def test_the_day_before_is_not_earlier_by_its_number(self):
        before = stops(0, 0) + (trip(EVERY_DAY, (0, 10, 10), (1, 20, 20), (0, 1450, 1450), (1, 1460, 1460)),)
        self.assertEqual(last(*before, out(0, 1, 0)), plan_answer(20, 1, (0, -1, 2, 3, 20)))


class Changing(unittest.TestCase):

    def two_trips(self, change, goes):
        return stops(0, change, 0) + (
            trip(1, (0, 10, 10), (1, 20, 20)), trip(1, (1, goes, goes), (2, goes + 10, goes + 10)))

    def test_the_change_counts_between_trips(self):
        self.assertEqual(last(*self.two_trips(5, 25), out(0, 2, 0)),
                         plan_answer(35, 2, (0, 0, 0, 1, 20), (1, 0, 0, 1, 35)))
        self.assertEqual(last(*self.two_trips(5, 24), out(0, 2, 0)), [-6])
        self.assertEqual(last(*self.two_trips(0, 20), out(0, 2, 0)),
                         plan_answer(30, 2, (0, 0, 0, 1, 20), (1, 0, 0, 1, 30)))

    def test_it_does_not_count_for_who_is_fresh(self):
        self.assertEqual(last(*self.two_trips(120, 24), out(1, 2, 24)), plan_answer(34, 1, (1, 0, 0, 1, 34)))
        self.assertEqual(last(*self.two_trips(120, 24), out(1, 2, 25)), [-6])

    def test_it_does_not_count_behind_a_walk(self):
        self.assertEqual(last(*self.two_trips(120, 24), walk(1, 1, 4), out(0, 2, 0)),
                         plan_answer(34, 2, (0, 0, 0, 1, 20), (-1, 0, 1, 1, 24), (1, 0, 0, 1, 34)))
        self.assertEqual(last(*self.two_trips(120, 24), walk(1, 1, 5), out(0, 2, 0)), [-6])
        self.assertEqual(last(*self.two_trips(120, 20), walk(1, 1, 0), out(0, 2, 0)),
                         plan_answer(30, 2, (0, 0, 0, 1, 20), (-1, 0, 1, 1, 20), (1, 0, 0, 1, 30)))

    def test_it_counts_on_the_same_trip_too(self):
        before = stops(0, 5, 0) + (trip(1, (0, 10, 10), (1, 20, 24), (2, 30, 30)),)
        self.assertEqual(last(*before, out(0, 2, 0)), plan_answer(30, 1, (0, 0, 0, 2, 30)))


class Walking(unittest.TestCase):

    def test_no_walk_behind_a_walk(self):
        before = THREE + (walk(0, 1, 5), walk(1, 2, 5))
        self.assertEqual(last(*before, out(0, 2, 0)), [-6])
        self.assertEqual(last(*before, out(0, 1, 0)), plan_answer(5, 0, (-1, 0, 0, 1, 5)))

    def test_one_way_alone(self):
        self.assertEqual(last(*THREE, walk(0, 1, 5), out(1, 0, 0)), [-6])

    def test_walk_ride_walk(self):
        before = stops(9, 9, 9, 9) + (walk(0, 1, 5), trip(1, (1, 8, 8), (2, 20, 20)), walk(2, 3, 7))
        self.assertEqual(last(*before, out(0, 3, 3)),
                         plan_answer(27, 1, (-1, 0, 0, 1, 8), (0, 0, 0, 1, 20), (-1, 1, 2, 3, 27)))
        self.assertEqual(last(*before, out(0, 3, 4)), [-6])

    def test_a_walk_is_no_ride(self):
        before = THREE + (trip(1, (0, 0, 0), (1, 10, 10)), walk(0, 1, 10))
        self.assertEqual(last(*before, out(0, 1, 0)), plan_answer(10, 0, (-1, 0, 0, 1, 10)))

    def test_a_walk_of_0_minutes(self):
        self.assertEqual(last(*THREE, walk(0, 1, 0), out(0, 1, 4)), plan_answer(4, 0, (-1, 0, 0, 1, 4)))

    def test_a_needless_walk_is_first_by_its_numbers(self):
        before = THREE + (trip(1, (0, 10, 10), (1, 20, 20)), walk(0, 0, 10))
        self.assertEqual(last(*before, out(0, 1, 0)), plan_answer(20, 1, (-1, 0, 0, 0, 10), (0, 0, 0, 1, 20)))
        self.assertEqual(last(*before, out(0, 1, 1)), plan_answer(20, 1, (0, 0, 0, 1, 20)))

    def test_no_needless_walk_at_the_end(self):
        before = THREE + (trip(1, (0, 10, 10), (1, 20, 20)), walk(1, 1, 0))
        self.assertEqual(last(*before, out(0, 1, 0)), plan_answer(20, 1, (0, 0, 0, 1, 20)))


class Choosing(unittest.TestCase):

    def test_the_earliest_though_it_takes_more_rides(self):
        before = THREE + (trip(1, (0, 10, 10), (2, 31, 31)), trip(1, (0, 10, 10), (1, 20, 20)),
                          trip(1, (1, 20, 20), (2, 30, 30)))
        self.assertEqual(last(*before, out(0, 2, 0)), plan_answer(30, 2, (1, 0, 0, 1, 20), (2, 0, 0, 1, 30)))

    def test_the_fewest_rides_of_those_as_early(self):
        before = THREE + (trip(1, (0, 10, 10), (1, 20, 20)), trip(1, (1, 20, 20), (2, 30, 30)),
                          trip(1, (0, 25, 25), (2, 30, 30)))
        self.assertEqual(last(*before, out(0, 2, 0)), plan_answer(30, 1, (2, 0, 0, 1, 30)))

    def test_the_lesser_trip(self):
        before = THREE + (trip(1, (0, 12, 12), (1, 20, 20)), trip(1, (0, 10, 10), (1, 20, 20)))
        self.assertEqual(last(*before, out(0, 1, 0)), plan_answer(20, 1, (0, 0, 0, 1, 20)))
        self.assertEqual(last(*before, late(0, 0, 1), out(0, 1, 0)), plan_answer(20, 1, (1, 0, 0, 1, 20)))

    def test_the_lesser_call_on(self):
        before = THREE + (trip(1, (0, 10, 10), (0, 12, 12), (1, 20, 20)),)
        self.assertEqual(last(*before, out(0, 1, 0)), plan_answer(20, 1, (0, 0, 0, 2, 20)))
        self.assertEqual(last(*before, out(0, 1, 11)), plan_answer(20, 1, (0, 0, 1, 2, 20)))

    def test_the_lesser_call_off(self):
        before = THREE + (trip(1, (0, 10, 10), (1, 20, 20), (1, 20, 20)),)
        self.assertEqual(last(*before, out(0, 1, 0)), plan_answer(20, 1, (0, 0, 0, 1, 20)))

    def test_the_lesser_call_off_of_a_first_ride(self):
        before = stops(0, 0, 0, 0) + (
            trip(1, (0, 10, 10), (1, 20, 20), (2, 25, 25)), trip(1, (1, 30, 30), (2, 35, 35), (3, 40, 40)))
        self.assertEqual(last(*before, out(0, 3, 0)), plan_answer(40, 2, (0, 0, 0, 1, 20), (1, 0, 0, 2, 40)))

    def test_a_first_leg_that_leads_too_late_is_not_taken(self):
        before = stops(0, 20, 0, 0) + (
            trip(1, (0, 10, 10), (1, 20, 20), (2, 25, 25)), trip(1, (1, 30, 30), (2, 35, 35), (3, 40, 40)))
        self.assertEqual(last(*before, out(0, 3, 0)), plan_answer(40, 2, (0, 0, 0, 2, 25), (1, 0, 1, 2, 40)))

    def test_the_lesser_walk_though_it_is_longer(self):
        before = THREE + (walk(0, 1, 9), walk(0, 1, 2), trip(1, (1, 10, 10), (2, 20, 20)))
        self.assertEqual(last(*before, out(0, 2, 0)), plan_answer(20, 1, (-1, 0, 0, 1, 9), (0, 0, 0, 1, 20)))
        self.assertEqual(last(*before, out(0, 2, 2)), plan_answer(20, 1, (-1, 1, 0, 1, 4), (0, 0, 0, 1, 20)))

    def test_a_walk_ahead_of_a_ride_at_the_end(self):
        before = THREE + (trip(1, (0, 10, 10), (1, 20, 20), (2, 25, 25)), walk(1, 2, 5))
        self.assertEqual(last(*before, out(0, 2, 0)), plan_answer(25, 1, (0, 0, 0, 1, 20), (-1, 0, 1, 2, 25)))

    def test_a_walk_at_the_end_that_is_too_long_is_not_taken(self):
        before = THREE + (trip(1, (0, 10, 10), (1, 20, 20), (2, 25, 25)), walk(1, 2, 6))
        self.assertEqual(last(*before, out(0, 2, 0)), plan_answer(25, 1, (0, 0, 0, 2, 25)))

    def test_trips_that_take_no_time_do_not_go_round_for_ever(self):
        before = THREE + (trip(1, (0, 10, 10), (1, 10, 10), (0, 10, 10)), trip(1, (1, 10, 10), (0, 10, 10)),
                          trip(1, (1, 10, 10), (2, 10, 10)), walk(0, 0, 0), walk(1, 1, 0))
        self.assertEqual(
            last(*before, out(0, 2, 10)),
            plan_answer(10, 2, (-1, 0, 0, 0, 10), (0, 0, 0, 1, 10), (-1, 1, 1, 1, 10), (2, 0, 0, 1, 10)))

    def test_a_late_trip_is_planned_by_its_times_now(self):
        before = THREE + (trip(1, (0, 10, 10), (1, 20, 20)), trip(1, (0, 12, 12), (1, 25, 25)))
        self.assertEqual(last(*before, out(0, 1, 0)), plan_answer(20, 1, (0, 0, 0, 1, 20)))
        self.assertEqual(last(*before, late(0, 0, 6), out(0, 1, 0)), plan_answer(25, 1, (1, 0, 0, 1, 25)))
        self.assertEqual(last(*before, late(0, 0, 6), out(0, 1, 13)), plan_answer(26, 1, (0, 0, 0, 1, 26)))

    def test_nine_rides_over_ten_stops(self):
        rides = [trip(1, (at, 10 * at, 10 * at), (at + 1, 10 * at + 10, 10 * at + 10)) for at in range(9)]
        legs = [(at, 0, 0, 1, 10 * at + 10) for at in range(9)]
        self.assertEqual(last(*stops(*[0] * 10), *rides, out(0, 9, 0)), plan_answer(90, 9, *legs))


if __name__ == "__main__":
    unittest.main()
