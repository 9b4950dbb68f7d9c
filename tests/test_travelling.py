"""Points 5 and 6, and where: on, still, anew."""

import unittest

from tests.helper import ANEW, ON, PRICE, STILL, WHERE, ask, begins, last, late, out, plan_answer, stop, trip, walk

# Walk 0 to 1, trip 0 to 2, trip 1 to 3, walk to 4; trip 2 goes from 2 to 3 later.
JOURNEY = (
    begins(1, 0), stop(0, 0), stop(0, 0), stop(5, 0), stop(0, 0), stop(0, 0),
    walk(0, 1, 4), walk(3, 4, 6),
    trip(1, (1, 10, 10), (2, 20, 20)), trip(1, (2, 30, 30), (3, 40, 40)), trip(1, (2, 50, 50), (3, 60, 60)),
    out(0, 4, 3),
)


class Refusals(unittest.TestCase):

    def test_not_on_the_way(self):
        for before in ((), (begins(1, 0),), JOURNEY[:-1], JOURNEY[:-1] + (out(4, 0, 0),),
                       JOURNEY + (begins(1, 0),)):
            self.assertEqual(ask(*before, ON, STILL, ANEW, PRICE, WHERE)[len(before):], [[-4]] * 5)

    def test_no_leg_to_come(self):
        at_the_end = JOURNEY + (ON, ON, ON, ON)
        self.assertEqual(ask(*at_the_end, ON, WHERE, ON)[-3:], [[-3], [0, 3, 4, 46, 2, 2, 2, 0], [-3]])
        self.assertEqual(last(begins(1, 0), stop(0, 0), out(0, 0, 7), ON), [-3])

    def test_a_leg_that_can_not_be_gone(self):
        # At stop 2 the change takes 5 minutes: with 6 minutes late it is too short.
        for minutes, answer in ((5, [0, 2, 3, 40]), (6, [-7])):
            self.assertEqual(last(*JOURNEY, late(0, 0, minutes), ON, ON, ON), answer)

    def test_a_refusal_leaves_where_one_is(self):
        before = JOURNEY + (late(0, 0, 6), ON, ON)
        self.assertEqual(ask(*before, WHERE, ON, WHERE, ON)[-4:],
                         [[0, 3, 2, 26, 1, 2, 1, 2], [-7], [0, 3, 2, 26, 1, 2, 1, 2], [-7]])
        # A train that waits can be reached again.
        self.assertEqual(ask(*before, ON, late(1, 0, 1), ON)[-3:], [[-7], [0], [0, 2, 3, 41]])


class On(unittest.TestCase):

    def test_leg_by_leg(self):
        self.assertEqual(
            ask(*JOURNEY, WHERE, ON, WHERE, ON, WHERE, ON, WHERE, ON, WHERE)[len(JOURNEY):],
            [[0, 3, 0, 3, 0, 2, 0, 4], [0, 2, 1, 7], [0, 3, 1, 7, 2, 2, 0, 3], [0, 2, 2, 20],
             [0, 3, 2, 20, 1, 2, 1, 2], [0, 2, 3, 40], [0, 3, 3, 40, 1, 2, 2, 1], [0, 2, 4, 46],
             [0, 3, 4, 46, 2, 2, 2, 0]])

    def test_by_the_times_as_they_are_now(self):
        self.assertEqual(ask(*JOURNEY, ON, late(0, 0, 3), ON, WHERE)[-2:], [[0, 2, 2, 23], [0, 3, 2, 23, 1, 2, 1, 2]])
        self.assertEqual(ask(*JOURNEY, ON, ON, late(1, 0, 7), ON, ON)[-2:], [[0, 2, 3, 47], [0, 2, 4, 53]])

    def test_what_is_late_behind_one_changes_nothing(self):
        self.assertEqual(ask(*JOURNEY, ON, ON, late(0, 0, 200), WHERE, ON)[-2:],
                         [[0, 3, 2, 20, 1, 2, 1, 2], [0, 2, 3, 40]])

    def test_a_train_that_is_less_late_than_planned_may_be_missed(self):
        before = (begins(1, 0), stop(0, 0), stop(0, 0), trip(1, (0, 10, 10), (1, 20, 20)), late(0, 0, 9))
        self.assertEqual(ask(*before, out(0, 1, 19), late(0, 0, 8), ON)[-3:],
                         [plan_answer(29, 1, (0, 0, 0, 1, 29)), [0], [-7]])

    def test_a_trip_of_another_day_is_not_late(self):
        before = (begins(1, 0), stop(0, 0), stop(0, 0), trip(127, (0, 1450, 1450), (1, 1460, 1460)))
        self.assertEqual(ask(*before, out(0, 1, 0), late(0, 0, 50), STILL, ON)[-2:], [[0, 1, 20], [0, 2, 1, 20]])
        self.assertEqual(ask(*before, out(0, 1, 1460), late(0, 0, 50), STILL, ON)[-2:],
                         [[0, 1, 2900], [0, 2, 1, 2900]])


class Still(unittest.TestCase):

    def test_as_planned(self):
        self.assertEqual(last(*JOURNEY, STILL), [0, 1, 46])
        self.assertEqual(ask(*JOURNEY, ON, STILL, ON, STILL, ON, STILL, ON, STILL)[len(JOURNEY) + 1::2],
                         [[0, 1, 46]] * 4)

    def test_later_but_still(self):
        self.assertEqual(last(*JOURNEY, late(0, 0, 5), STILL), [0, 1, 46])
        self.assertEqual(last(*JOURNEY, late(1, 0, 9), STILL), [0, 1, 55])

    def test_the_first_that_can_not_be_gone(self):
        self.assertEqual(last(*JOURNEY, late(0, 0, 6), STILL), [1, 1, 2])
        self.assertEqual(last(*JOURNEY, late(0, 0, 6), ON, STILL), [1, 1, 1])
        self.assertEqual(last(*JOURNEY, late(0, 0, 6), ON, ON, STILL), [1, 1, 0])

    def test_the_last_that_can_not_be_gone(self):
        before = (begins(1, 0), stop(0, 0), stop(0, 0), stop(0, 0), trip(1, (0, 10, 10), (1, 20, 20)),
                  trip(1, (1, 20, 20), (2, 30, 30)), out(0, 2, 0))
        self.assertEqual(last(*before, late(0, 0, 1), STILL), [1, 1, 1])
        self.assertEqual(last(*before, late(0, 0, 1), ON, STILL), [1, 1, 0])

    def test_none_to_come(self):
        self.assertEqual(last(begins(1, 0), stop(0, 0), out(0, 0, 7), STILL), [0, 1, 7])

    def test_it_changes_nothing(self):
        self.assertEqual(ask(*JOURNEY, late(0, 0, 6), STILL, WHERE, ON)[-2:], [[0, 3, 0, 3, 0, 2, 0, 4], [0, 2, 1, 7]])


class Anew(unittest.TestCase):

    def test_from_off_a_trip_the_change_counts(self):
        before = JOURNEY + (late(0, 0, 6), ON, ON)
        later = plan_answer(66, 1, (2, 0, 0, 1, 60), (-1, 1, 3, 4, 66))
        self.assertEqual(ask(*before, ANEW, WHERE, STILL, ON)[-4:],
                         [later, [0, 3, 2, 26, 1, 2, 1, 2], [0, 1, 66], [0, 2, 3, 60]])
        before = JOURNEY + (late(0, 0, 5), ON, ON)
        self.assertEqual(last(*before, ANEW), plan_answer(46, 1, (1, 0, 0, 1, 40), (-1, 1, 3, 4, 46)))

    def test_from_fresh_the_change_does_not_count(self):
        before = (begins(1, 0), stop(9, 0), stop(0, 0), trip(1, (0, 10, 10), (1, 20, 20)), out(0, 1, 10))
        self.assertEqual(last(*before, ANEW), plan_answer(20, 1, (0, 0, 0, 1, 20)))

    def test_from_off_a_trip_a_walk_may_follow(self):
        before = JOURNEY + (late(0, 0, 6), ON, ON, walk(2, 2, 4))
        self.assertEqual(last(*before, ANEW),
                         plan_answer(46, 1, (-1, 2, 2, 2, 30), (1, 0, 0, 1, 40), (-1, 1, 3, 4, 46)))

    def test_from_behind_a_walk_no_walk_follows(self):
        before = JOURNEY + (ON, walk(1, 4, 1))
        self.assertEqual(ask(*before, WHERE, ANEW)[-2:], [
            [0, 3, 1, 7, 2, 2, 0, 3],
            plan_answer(46, 2, (0, 0, 0, 1, 20), (1, 0, 0, 1, 40), (-1, 1, 3, 4, 46))])
        self.assertEqual(last(*JOURNEY, walk(0, 4, 30), ANEW), plan_answer(33, 0, (-1, 2, 0, 4, 33)))

    def test_behind_a_walk_the_change_does_not_count(self):
        before = (begins(1, 0), stop(0, 0), stop(100, 0), stop(0, 0), walk(0, 1, 5),
                  trip(1, (1, 10, 10), (2, 20, 20)), out(0, 2, 5), ON)
        self.assertEqual(last(*before, ANEW), plan_answer(20, 1, (0, 0, 0, 1, 20)))

    def test_a_new_trip_or_an_earlier_one(self):
        self.assertEqual(last(*JOURNEY, ON, trip(1, (1, 8, 8), (4, 9, 9)), ANEW), plan_answer(9, 1, (3, 0, 0, 1, 9)))

    def test_where_one_is_already(self):
        self.assertEqual(ask(*JOURNEY, ON, ON, ON, ON, ANEW, WHERE)[-2:], [plan_answer(46, 0), [0, 3, 4, 46, 2, 2, 2, 0]])

    def test_one_can_not_get_there_and_what_was_to_come_still_is(self):
        before = JOURNEY[:-2] + (out(0, 4, 3), late(0, 0, 6), ON, ON)
        self.assertEqual(ask(*before, ANEW, WHERE, STILL, late(1, 0, 1), STILL, ON)[-6:],
                         [[-6], [0, 3, 2, 26, 1, 2, 1, 2], [1, 1, 0], [0], [0, 1, 47], [0, 2, 3, 41]])

    def test_the_rides_made_stay(self):
        self.assertEqual(ask(*JOURNEY, ON, ON, ANEW, ON, WHERE)[-1], [0, 3, 3, 40, 1, 2, 2, 1])

    def test_where_one_wanted_is_of_the_last_out(self):
        self.assertEqual(last(*JOURNEY, out(0, 2, 3), ANEW), plan_answer(20, 1, (-1, 0, 0, 1, 7), (0, 0, 0, 1, 20)))
        self.assertEqual(ask(*JOURNEY, out(4, 0, 3), ANEW)[-2:], [
            [-6], plan_answer(46, 2, (-1, 0, 0, 1, 7), (0, 0, 0, 1, 20), (1, 0, 0, 1, 40), (-1, 1, 3, 4, 46))])


if __name__ == "__main__":
    unittest.main()
