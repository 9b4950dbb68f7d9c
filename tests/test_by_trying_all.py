"""Compares the answers with those of a program that tries all rows of legs and all ways to buy tickets."""

import itertools
import random
import unittest

from tests.helper import ANEW, ON, PRICE, STILL, WHERE, ask, read, written
from travelday.desk import answers


class Slow:
    """Says what the document says, call by call, without any thought of speed."""

    def __init__(self):
        self.begin(0, 0)

    def begin(self, zones, weekday):
        self.zones, self.weekday = zones, weekday
        self.borders, self.products = set(), []
        self.stops, self.trips, self.walks, self.lates = [], [], [], {}
        self.way = None

    def answer(self, call):
        names = ("begins", "border", "product", "stop", "trip", "walk", "late", "out", "on", "still", "anew",
                 "price", "where")
        result = getattr(self, "do_" + names[call[0]])(*call[1:])
        if isinstance(result, int):
            return [result]
        row = [result[0]]
        for part in result[1:]:
            row += [len(part)] + list(part)
        return row

    def do_begins(self, zones, weekday):
        if weekday > 6 or not 1 <= zones <= 8:
            return -1
        self.begin(zones, weekday)
        return 0

    def do_border(self, i, j):
        if max(i, j) >= self.zones:
            return -2
        if i == j or (i, j) in self.borders:
            return -3
        self.borders |= {(i, j), (j, i)}
        return 0

    def do_product(self, kind, count, *rest):
        told = None
        if kind == 1:
            told, rest = rest[:count], rest[count:]
        price, minutes, persons, start, end = rest
        if told is None and not 1 <= count <= 8 or told is not None and (not told or max(told) >= self.zones):
            return -1
        if price > 10 ** 6 or not 1 <= minutes <= 10 ** 6 or not 1 <= persons <= 9 or not start < end <= 1440:
            return -1
        if len(self.products) == 8:
            return -5
        self.products.append((told, count, price, minutes, start, end))
        return len(self.products) - 1

    def do_stop(self, change, zone):
        if zone >= self.zones:
            return -2
        if len(self.stops) == 10:
            return -5
        if change > 120:
            return -2
        self.stops.append((change, zone))
        return len(self.stops) - 1

    def do_trip(self, days, count, *numbers):
        if len(self.trips) == 12:
            return -5
        if not 1 <= days <= 127 or not 2 <= count <= 64:
            return -2
        calls = list(zip(numbers[0::3], numbers[1::3], numbers[2::3]))
        times = [minute for call in calls for minute in call[1:]]
        if times != sorted(times) or times[-1] >= 2880 or any(call[0] >= len(self.stops) for call in calls):
            return -4
        self.trips.append((days, calls))
        return len(self.trips) - 1

    def do_walk(self, start, end, minutes):
        if len(self.walks) == 12:
            return -5
        if max(start, end) >= len(self.stops) or minutes > 240:
            return -2
        self.walks.append((start, end, minutes))
        return len(self.walks) - 1

    def do_late(self, number, call, minutes):
        if number >= len(self.trips) or call > 63 or minutes > 240:
            return -2
        self.lates[number] = (call, minutes)
        return 0

    def comes(self, number, day, at):
        call, minutes = self.lates.get(number, (0, 0))
        return self.trips[number][1][at][1] + 1440 * day + (minutes if day == 0 and at > call else 0)

    def goes(self, number, day, at):
        call, minutes = self.lates.get(number, (0, 0))
        return self.trips[number][1][at][2] + 1440 * day + (minutes if day == 0 and at >= call else 0)

    def legs_from(self, place):
        stop, minute, how = place
        if how != 2:
            for number, (start, end, minutes) in enumerate(self.walks):
                if start == stop:
                    yield (-1, number, start, end, minute + minutes), (end, minute + minutes, 2)
        for number, (days, calls) in enumerate(self.trips):
            for day in (-1, 0, 1):
                if not days & 1 << (self.weekday + day) % 7:
                    continue
                for on, off in itertools.combinations(range(len(calls)), 2):
                    if calls[on][0] == stop and self.goes(number, day, on) >= self.ready(place):
                        comes = self.comes(number, day, off)
                        yield (number, day, on, off, comes), (calls[off][0], comes, 1)

    def ready(self, place):
        return place[1] + (self.stops[place[0]][0] if place[2] == 1 else 0)

    def plan(self, place, goal):
        """The least of all rows of legs that have as many rides at most as there are stops."""
        best = None
        rows = [((), 0, place)]
        while rows:
            legs, rides, at = rows.pop()
            if best is not None and at[1] > best[0]:
                continue
            if at[0] == goal and (best is None or (at[1], rides, legs) < best):
                best = (at[1], rides, legs)
            for leg, after in self.legs_from(at):
                more = rides + (leg[0] >= 0)
                if more <= len(self.stops):
                    rows.append((legs + (leg,), more, after))
        return best

    def do_out(self, start, goal, minute):
        if max(start, goal) >= len(self.stops) or minute > 2879:
            return -2
        place = (start, minute, 0)
        plan = self.plan(place, goal)
        if plan is None:
            return -6
        self.way = {"place": place, "goal": goal, "legs": list(plan[2]), "made": []}
        return (0, plan[:2]) + plan[2]

    def after(self, place, leg):
        """Where the leg leads by the times as they are now, and the ride it is; or None."""
        if leg[0] < 0:
            return (leg[3], place[1] + self.walks[leg[1]][2], 2), None
        number, day, on, off = leg[:4]
        if self.goes(number, day, on) < self.ready(place):
            return None
        calls = self.trips[number][1]
        zones = {self.stops[call[0]][1] for call in calls[on:off + 1]}
        ride = (self.goes(number, day, on), self.comes(number, day, off), zones)
        return (calls[off][0], ride[1], 1), ride

    def do_on(self):
        if self.way is None:
            return -4
        if not self.way["legs"]:
            return -3
        after = self.after(self.way["place"], self.way["legs"][0])
        if after is None:
            return -7
        self.way["legs"].pop(0)
        self.way["place"] = after[0]
        if after[1]:
            self.way["made"].append(after[1])
        return 0, after[0][:2]

    def follow(self):
        place = self.way["place"]
        rides = list(self.way["made"])
        for number, leg in enumerate(self.way["legs"]):
            after = self.after(place, leg)
            if after is None:
                return number, None, None
            place = after[0]
            rides += [after[1]] if after[1] else []
        return None, place, rides

    def do_still(self):
        if self.way is None:
            return -4
        missed, place, _ = self.follow()
        return (0, place[1:2]) if missed is None else (1, [missed])

    def do_anew(self):
        if self.way is None:
            return -4
        plan = self.plan(self.way["place"], self.way["goal"])
        if plan is None:
            return -6
        self.way["legs"] = list(plan[2])
        return (0, plan[:2]) + plan[2]

    def do_where(self):
        if self.way is None:
            return -4
        return 0, self.way["place"], (len(self.way["made"]), len(self.way["legs"]))

    def hull(self, zones):
        for size in range(len(zones), self.zones + 1):
            for others in itertools.combinations(sorted(set(range(self.zones)) - zones), size - len(zones)):
                if self.hangs_together(zones | set(others)):
                    return size
        return None

    def hangs_together(self, zones):
        near = {(i, j): i == j or (i, j) in self.borders for i in zones for j in zones}
        for k, i, j in itertools.product(sorted(zones), repeat=3):
            near[i, j] = near[i, j] or near[i, k] and near[k, j]
        return all(near.values())

    def is_good(self, product, rides):
        told, count, _, minutes, start, end = product
        begin = min(ride[0] for ride in rides)
        if any(ride[1] > begin + minutes for ride in rides) or not start <= begin % 1440 < end:
            return False
        zones = set().union(*(ride[2] for ride in rides))
        if told is not None:
            return zones <= set(told)
        hull = self.hull(zones)
        return hull is not None and hull <= count

    def do_price(self):
        if self.way is None:
            return -4
        missed, _, rides = self.follow()
        if missed is not None:
            return -7
        if len(rides) > 7:
            return -5
        costs = {}
        for parts in partitions(list(range(len(rides)))):
            goods = [[number for number, product in enumerate(self.products)
                      if self.is_good(product, [rides[at] for at in part])] for part in parts]
            for chosen in itertools.product(*goods):
                cost = sum(self.products[number][2] for number in chosen)
                key = [(sum(2 ** at for at in part), number, part) for part, number in zip(parts, chosen)]
                costs.setdefault(cost, []).append(key)
        if not costs:
            return -6
        ways = costs[min(costs)]
        return (min(costs), [len(ways)]) + tuple([number] + part for _, number, part in min(ways))


def partitions(rides):
    """All ways to part them, the parts in order of their first members."""
    if not rides:
        yield []
        return
    for size in range(len(rides)):
        for others in itertools.combinations(rides[1:], size):
            left = [at for at in rides[1:] if at not in others]
            for parts in partitions(left):
                yield [[rides[0]] + list(others)] + parts


def some_trip(chance, stops, beginnings, step):
    row = []
    minute = chance.choice(beginnings) + step * chance.randrange(4)
    count = chance.choice((2, 2, 3, 3, 4))
    for _ in range(count):
        comes = minute
        goes = comes + step * chance.choice((0, 0, 1))
        row += [chance.randrange(stops), comes, goes]
        minute = goes + step * chance.choice((0, 1, 1, 2))
    return [4, chance.choice((127, 127, 127, chance.randrange(1, 128))), count] + row


def some_product(chance, zones):
    zones_told = chance.choice((
        [0, chance.randrange(1, 4)], [1, 2, chance.randrange(zones), chance.randrange(zones)],
        [1, zones] + list(range(zones))))
    start = chance.choice((0, 0, 0, 10, 20))
    return [2] + zones_told + [chance.choice((0, 5, 5, 10, 10, 15)), chance.choice((5, 10, 20, 40, 1000)), 1, start,
                               chance.choice((1440, 1440, 40, 50))]


def some_day(chance):
    zones = chance.randrange(1, 5)
    stops = chance.randrange(2, 5)
    calls = [[0, zones, chance.randrange(7)]]
    for _ in range(chance.randrange(4)):
        calls.append([1, chance.randrange(zones), chance.randrange(zones)])
    calls += [some_product(chance, zones) for _ in range(chance.randrange(1, 5))]
    calls += [[3, chance.choice((0, 0, 5, 10)), chance.randrange(zones)] for _ in range(stops)]
    beginnings = chance.choice(((0,), (0,), (1440,), (0, 1440)))
    calls += [some_trip(chance, stops, beginnings, chance.choice((5, 10))) for _ in range(chance.randrange(1, 6))]
    calls += [[5, chance.randrange(stops), chance.randrange(stops), chance.choice((0, 5, 5, 10, 20))]
              for _ in range(chance.randrange(4))]
    return calls, zones, stops


def some_step(chance, zones, stops):
    return chance.choice((
        ON, ON, ON, STILL, ANEW, PRICE, WHERE,
        [6, chance.randrange(5), chance.randrange(4), chance.choice((0, 5, 10, 20))],
        [7, chance.randrange(stops), chance.randrange(stops), chance.choice((0, 0, 5, 10, 1440))],
        [1, chance.randrange(zones), chance.randrange(zones)],
        [5, chance.randrange(stops), chance.randrange(stops), chance.choice((0, 5))]))


class TryingAll(unittest.TestCase):

    def compare(self, calls):
        slow = Slow()
        for call, answer in zip(calls, ask(*calls)):
            self.assertEqual(answer, slow.answer(call), (call, calls))

    def test_days_with_small_timetables(self):
        chance = random.Random(20)
        for _ in range(700):
            calls, zones, stops = some_day(chance)
            calls.append([7, 0, stops - 1, chance.choice((0, 0, 5, 10))])
            calls += [some_step(chance, zones, stops) for _ in range(14)]
            self.compare(calls)

    def test_journeys_of_many_rides(self):
        chance = random.Random(21)
        for _ in range(60):
            zones = chance.randrange(1, 5)
            rides = chance.randrange(2, 6)
            calls = [[0, zones, 0]]
            calls += [[1, at, at + 1] for at in range(zones - 1) if chance.randrange(4)]
            calls += [some_product(chance, zones) for _ in range(4)]
            calls += [[3, 0, chance.randrange(zones)] for _ in range(rides + 1)]
            calls += [[4, 1, 2, at, 10 * at, 10 * at, at + 1, 10 * at + 10, 10 * at + 10] for at in range(rides)]
            calls += [[7, 0, rides, 0], PRICE, [6, rides - 1, 0, 10], PRICE, ON, [6, rides - 1, 0, 0], PRICE, ON, PRICE]
            self.compare(calls)

    def test_journeys_that_may_be_missed(self):
        chance = random.Random(24)
        for _ in range(300):
            legs = chance.randrange(2, 5)
            calls = [[0, 2, 0], [1, 0, 1], some_product(chance, 2), some_product(chance, 2)]
            calls += [[3, chance.choice((0, 5)), chance.randrange(2)] for _ in range(legs + 1)]
            for _ in range(2):
                for at in range(legs):
                    goes = 20 * at + 5 * chance.randrange(4)
                    comes = goes + chance.choice((5, 10, 10))
                    calls.append([4, 1, 2, at, goes, goes, at + 1, comes, comes])
            calls.append([5, chance.randrange(legs), chance.randrange(1, legs + 1), chance.choice((0, 10, 30))])
            calls.append([7, 0, legs, 0])
            for _ in range(15):
                calls.append(chance.choice((
                    ON, ON, STILL, STILL, PRICE, ANEW, WHERE,
                    [6, chance.randrange(2 * legs), chance.randrange(2), chance.choice((0, 5, 10, 20))],
                    [6, chance.randrange(2 * legs), 0, chance.choice((0, 10, 20, 40))])))
            self.compare(calls)

    def test_any_numbers(self):
        chance = random.Random(22)
        numbers = (0, 1, 2, 3, 6, 7, 8, 9, 10, 63, 64, 120, 121, 127, 128, 240, 241, 1440, 1441, 2879, 2880, 1000000,
                   1000001, 4294967295)
        sizes = {0: 2, 1: 2, 3: 2, 5: 3, 6: 3, 7: 3, 8: 0, 9: 0, 10: 0, 11: 0, 12: 0}
        for _ in range(300):
            calls, _, _ = some_day(chance)
            for _ in range(30):
                place = chance.choice((0, 1, 2, 3, 3, 4, 4, 5, 5, 6, 7, 7, 8, 9, 10, 11, 12))
                if place == 0 and chance.randrange(4):
                    continue
                if place == 2:
                    told = [0, chance.choice(numbers)]
                    if chance.randrange(2):
                        count = chance.randrange(3)
                        told = [1, count] + [chance.randrange(4) for _ in range(count)]
                    terms = [chance.choice(numbers) for _ in range(5)] if chance.randrange(2) else [5, 5, 1, 0, 1440]
                    call = [2] + told + terms
                elif place == 4:
                    count = chance.choice((0, 1, 2, 2, 2, 3))
                    call = [4, chance.choice((0, 1, 127, 128)), count]
                    times = [chance.choice(numbers[:20]) for _ in range(2 * count)]
                    if chance.randrange(4):
                        times = sorted(times)
                    for at in range(count):
                        call += [chance.randrange(4)] + times[2 * at:2 * at + 2]
                else:
                    few = chance.choice((numbers[:3], numbers))
                    call = [place] + [chance.choice(few) for _ in range(sizes[place])]
                calls.append(call)
            self.compare(calls)

    def test_planning_anew_is_no_later_than_the_old_plan(self):
        chance = random.Random(23)
        compared = 0
        for _ in range(300):
            calls, zones, stops = some_day(chance)
            calls.append([7, 0, stops - 1, 0])
            calls += [chance.choice((ON, [6, chance.randrange(4), 0, chance.choice((0, 5, 10))])) for _ in range(3)]
            answered = read(answers(written(calls + [STILL, ANEW])))
            if answered[-2][0] == 0:
                compared += 1
                self.assertLessEqual(answered[-1][2], answered[-2][2])
        self.assertGreater(compared, 50)


if __name__ == "__main__":
    unittest.main()
