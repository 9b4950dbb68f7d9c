"""Points 1, 2 and 3: begins, border, product, stop, trip, walk, late."""

import unittest

from tests.helper import (
    ANEW, EVERY_DAY, MOST_NUMBER, ON, PRICE, STILL, WHERE, any_product, ask, begins, border, last, late, out,
    plan_answer, stop, told_product, trip, walk,
)
from travelday.timetable import Call, Timetable

TWO_STOPS = (begins(2, 0), stop(0, 0), stop(0, 1))
SIMPLE_TRIP = trip(EVERY_DAY, (0, 10, 10), (1, 20, 20))


class Beginning(unittest.TestCase):

    def test_bounds_of_zones_and_days(self):
        for zones, weekday, answer in (
                (1, 0, 0), (8, 6, 0), (8, 0, 0), (1, 6, 0), (0, 0, -1), (9, 0, -1), (1, 7, -1), (0, 7, -1),
                (MOST_NUMBER, 0, -1), (1, MOST_NUMBER, -1)):
            self.assertEqual(last(begins(zones, weekday)), [answer], (zones, weekday))

    def test_so_many_zones_are_there(self):
        for zones in range(1, 9):
            self.assertEqual(ask(begins(zones, 0), stop(0, zones - 1), stop(0, zones)), [[0], [0], [-2]])

    def test_all_else_is_as_at_the_beginning(self):
        before = TWO_STOPS + (border(0, 1), any_product(1), SIMPLE_TRIP, walk(0, 1, 3), late(0, 0, 9), out(0, 1, 0))
        self.assertEqual(last(*before, begins(2, 3), WHERE), [-4])
        self.assertEqual(last(*before, begins(2, 3), border(0, 1)), [0])
        self.assertEqual(last(*before, begins(2, 3), any_product(1)), [0])
        self.assertEqual(last(*before, begins(2, 3), out(0, 1, 0)), [-2])
        self.assertEqual(last(*before, begins(2, 3), stop(0, 0)), [0])
        again = before + (begins(2, 0), stop(0, 0), stop(0, 1))
        self.assertEqual(last(*again, out(0, 1, 0)), [-6])
        self.assertEqual(last(*again, walk(0, 1, 3)), [0])
        self.assertEqual(ask(*again, SIMPLE_TRIP, out(0, 1, 0))[-2:], [[0], plan_answer(20, 1, (0, 0, 0, 1, 20))])

    def test_a_refusal_leaves_all(self):
        before = TWO_STOPS + (border(0, 1), any_product(1), SIMPLE_TRIP, out(0, 1, 0))
        for wrong in (begins(0, 0), begins(9, 0), begins(1, 7)):
            after = ask(*before, wrong, WHERE, border(0, 1), any_product(1), stop(0, 1))
            self.assertEqual(after[-5:], [[-1], [0, 3, 0, 0, 0, 2, 0, 1], [-3], [1], [2]])

    def test_without_begins_it_is_day_0_and_nothing_is_there(self):
        self.assertEqual(
            ask(WHERE, ON, STILL, ANEW, PRICE, border(0, 0), stop(0, 0), SIMPLE_TRIP, walk(0, 0, 0), late(0, 0, 0),
                out(0, 0, 0), told_product([0]), any_product(8)),
            [[-4], [-4], [-4], [-4], [-4], [-2], [-2], [-4], [-2], [-2], [-2], [-1], [0]])


class Bordering(unittest.TestCase):

    def test_answers(self):
        self.assertEqual(
            ask(begins(3, 0), border(0, 1), border(2, 1), border(0, 1), border(1, 0), border(1, 2), border(0, 2)),
            [[0], [0], [0], [-3], [-3], [-3], [0]])

    def test_no_such_zone_is_told_ahead_of_the_same(self):
        self.assertEqual(
            ask(begins(3, 0), border(3, 0), border(0, 3), border(3, 3), border(2, 2), border(MOST_NUMBER, 1),
                border(1, MOST_NUMBER))[1:],
            [[-2], [-2], [-2], [-3], [-2], [-2]])


class Products(unittest.TestCase):

    def refuses(self, *wrongs):
        for wrong in wrongs:
            self.assertEqual(ask(begins(3, 0), wrong, any_product(1))[1:], [[-1], [0]], wrong)

    def takes(self, *rights):
        for right in rights:
            self.assertEqual(ask(begins(3, 0), right, any_product(1))[1:], [[0], [1]], right)

    def test_zones(self):
        self.takes(any_product(1), any_product(8), told_product([0]), told_product([2, 2, 0, 2]),
                   told_product([1] * 40))
        self.refuses(any_product(0), any_product(9), any_product(MOST_NUMBER), told_product([]), told_product([3]),
                     told_product([0, 1, 31]), told_product([0, 3, 1]))

    def test_terms(self):
        self.takes(any_product(1, price=0), any_product(1, price=1000000), any_product(1, minutes=1),
                   any_product(1, minutes=1000000), any_product(1, persons=1), any_product(1, persons=9),
                   any_product(1, start=0, end=1), any_product(1, start=1439, end=1440))
        self.refuses(any_product(1, price=1000001), any_product(1, minutes=0), any_product(1, minutes=1000001),
                     any_product(1, persons=0), any_product(1, persons=10), any_product(1, start=5, end=5),
                     any_product(1, start=6, end=5), any_product(1, start=0, end=1441),
                     any_product(1, start=1440, end=1440), told_product([1], price=1000001),
                     told_product([1], persons=0), told_product([1], start=3, end=2))

    def test_there_are_8_at_most_and_that_is_told_last(self):
        eight = [begins(3, 0)] + [any_product(1)] * 4 + [told_product([1])] * 4
        self.assertEqual(ask(*eight), [[0]] + [[number] for number in range(8)])
        self.assertEqual(ask(*eight, any_product(1), told_product([1]), any_product(0), told_product([3]),
                             any_product(1, minutes=0), WHERE)[9:], [[-5], [-5], [-1], [-1], [-1], [-4]])


class Stops(unittest.TestCase):

    def test_bounds(self):
        self.assertEqual(
            ask(begins(3, 0), stop(0, 0), stop(120, 2), stop(121, 0), stop(0, 3), stop(121, 3), stop(MOST_NUMBER, 1),
                stop(0, MOST_NUMBER), stop(7, 1)),
            [[0], [0], [1], [-2], [-2], [-2], [-2], [-2], [2]])

    def test_there_are_10_at_most(self):
        ten = [begins(3, 0)] + [stop(5, 1)] * 10
        self.assertEqual(ask(*ten), [[0]] + [[number] for number in range(10)])
        self.assertEqual(ask(*ten, stop(5, 1), stop(121, 1), stop(5, 3), stop(121, 3))[11:],
                         [[-5], [-5], [-2], [-2]])


class Trips(unittest.TestCase):

    def asked(self, *trips):
        return ask(*TWO_STOPS, *trips)[3:]

    def test_days(self):
        calls = ((0, 10, 10), (1, 20, 20))
        self.assertEqual(
            self.asked(trip(0, *calls), trip(1, *calls), trip(127, *calls), trip(128, *calls),
                       trip(MOST_NUMBER, *calls)),
            [[-2], [0], [1], [-2], [-2]])

    def test_how_many_calls(self):
        call = (0, 10, 10)
        self.assertEqual(
            self.asked(trip(1), trip(1, call), trip(1, call, call), trip(1, *[call] * 40)), [[-2], [-2], [0], [1]])

    def test_64_calls_at_most(self):
        timetable = Timetable(0)
        timetable.add_stop(0, 0, 1)
        self.assertEqual(timetable.add_trip(1, [Call(0, 10, 10) for at in range(65)]), -2)
        self.assertEqual(timetable.add_trip(1, [Call(0, 10, 10) for at in range(64)]), 0)

    def test_times(self):
        for calls, answer in (
                (((0, 10, 10), (1, 10, 10)), 0),
                (((0, 0, 0), (1, 0, 2879)), 0),
                (((0, 0, 0), (1, 0, 2880)), -4),
                (((0, 2879, 2879), (1, 2879, 2879)), 0),
                (((0, 2880, 2880), (1, 2880, 2880)), -4),
                (((0, 10, 9), (1, 20, 20)), -4),
                (((0, 10, 10), (1, 20, 19)), -4),
                (((0, 10, 12), (1, 11, 20)), -4),
                (((0, 10, 12), (1, 12, 20)), 0),
                (((0, 0, MOST_NUMBER), (1, MOST_NUMBER, MOST_NUMBER)), -4)):
            self.assertEqual(self.asked(trip(1, *calls)), [[answer]], calls)

    def test_a_stop_that_there_is_not(self):
        self.assertEqual(
            self.asked(trip(1, (2, 10, 10), (1, 20, 20)), trip(1, (0, 10, 10), (2, 20, 20)),
                       trip(1, (0, 10, 10), (MOST_NUMBER, 20, 20)), trip(1, (1, 10, 10), (1, 20, 20))),
            [[-4], [-4], [-4], [0]])

    def test_which_is_told_first(self):
        wrong_calls = ((2, 10, 10), (1, 5, 5))
        self.assertEqual(self.asked(trip(0, *wrong_calls), trip(1, (2, 9, 8)), trip(1, *wrong_calls)),
                         [[-2], [-2], [-4]])
        twelve = [SIMPLE_TRIP] * 12
        self.assertEqual(self.asked(*twelve, SIMPLE_TRIP, trip(0, *wrong_calls), trip(1, *wrong_calls), trip(1)),
                         [[number] for number in range(12)] + [[-5]] * 4)


class Walks(unittest.TestCase):

    def asked(self, *walks):
        return ask(*TWO_STOPS, *walks)[3:]

    def test_bounds(self):
        self.assertEqual(
            self.asked(walk(0, 1, 0), walk(1, 0, 240), walk(1, 1, 5), walk(0, 1, 241), walk(2, 0, 5), walk(0, 2, 5),
                       walk(MOST_NUMBER, 0, 5), walk(0, 1, MOST_NUMBER), walk(0, 0, 0)),
            [[0], [1], [2], [-2], [-2], [-2], [-2], [-2], [3]])

    def test_there_are_12_at_most_and_that_is_told_first(self):
        self.assertEqual(self.asked(*[walk(0, 1, 5)] * 12, walk(0, 1, 5), walk(2, 0, 5), walk(0, 1, 241)),
                         [[number] for number in range(12)] + [[-5]] * 3)


class Lateness(unittest.TestCase):

    def test_bounds(self):
        self.assertEqual(
            ask(*TWO_STOPS, SIMPLE_TRIP, late(0, 0, 0), late(0, 63, 240), late(0, 64, 0), late(0, 0, 241),
                late(1, 0, 0), late(MOST_NUMBER, 0, 0), late(0, MOST_NUMBER, 0), late(0, 0, MOST_NUMBER))[4:],
            [[0], [0], [-2], [-2], [-2], [-2], [-2], [-2]])

    def plan(self, *lates):
        """Rides 0 to 2 and 1 to 2 of a trip with three calls, each of which stops for 5 minutes."""
        before = (begins(1, 0), stop(0, 0), stop(0, 0), stop(0, 0),
                  trip(1, (0, 10, 15), (1, 20, 25), (2, 30, 35))) + lates
        return [last(*before, out(0, 1, 0)), last(*before, out(0, 2, 0)), last(*before, out(1, 2, 22))]

    def test_on_time_at_first(self):
        self.assertEqual(self.plan(), [
            plan_answer(20, 1, (0, 0, 0, 1, 20)), plan_answer(30, 1, (0, 0, 0, 2, 30)),
            plan_answer(30, 1, (0, 0, 1, 2, 30))])

    def test_it_comes_later_behind_the_call_alone(self):
        self.assertEqual(self.plan(late(0, 0, 7)), [
            plan_answer(27, 1, (0, 0, 0, 1, 27)), plan_answer(37, 1, (0, 0, 0, 2, 37)),
            plan_answer(37, 1, (0, 0, 1, 2, 37))])
        self.assertEqual(self.plan(late(0, 1, 7)), [
            plan_answer(20, 1, (0, 0, 0, 1, 20)), plan_answer(37, 1, (0, 0, 0, 2, 37)),
            plan_answer(37, 1, (0, 0, 1, 2, 37))])
        self.assertEqual(self.plan(late(0, 2, 7)), self.plan())
        self.assertEqual(self.plan(late(0, 63, 240)), self.plan())

    def test_it_goes_later_from_the_call_on(self):
        before = (begins(1, 0), stop(0, 0), stop(0, 0), stop(0, 0),
                  trip(1, (0, 10, 15), (1, 20, 25), (2, 30, 35)))
        self.assertEqual(last(*before, late(0, 1, 7), out(1, 2, 32)), plan_answer(37, 1, (0, 0, 1, 2, 37)))
        self.assertEqual(last(*before, late(0, 1, 7), out(1, 2, 33)), [-6])
        self.assertEqual(last(*before, late(0, 1, 7), out(0, 2, 15)), plan_answer(37, 1, (0, 0, 0, 2, 37)))
        self.assertEqual(last(*before, late(0, 1, 7), out(0, 2, 16)), [-6])

    def test_what_is_told_last_holds_alone(self):
        self.assertEqual(self.plan(late(0, 0, 7), late(0, 1, 4)), self.plan(late(0, 1, 4)))
        self.assertEqual(self.plan(late(0, 0, 7), late(0, 0, 0)), self.plan())

    def test_a_refusal_leaves_it(self):
        self.assertEqual(self.plan(late(0, 0, 7), late(0, 64, 9), late(0, 1, 241)), self.plan(late(0, 0, 7)))

    def test_on_this_day_of_the_week_alone(self):
        before = (begins(1, 3), stop(0, 0), stop(0, 0), trip(EVERY_DAY, (0, 1500, 1500), (1, 1510, 1510)),
                  late(0, 0, 100))
        self.assertEqual(last(*before, out(0, 1, 0)), plan_answer(70, 1, (0, -1, 0, 1, 70)))
        self.assertEqual(last(*before, out(0, 1, 61)), plan_answer(1610, 1, (0, 0, 0, 1, 1610)))
        self.assertEqual(last(*before, out(0, 1, 1601)), plan_answer(2950, 1, (0, 1, 0, 1, 2950)))


if __name__ == "__main__":
    unittest.main()
