"""What holds over lines that mix all eight calls, on trains of every size; each step is looked at by itself."""

import collections
import random
import unittest

from lines import LARGEST, anew, ask, begin, book, cancel, free, row, state, who

ALL_ROWS = [row(number) for number in range(40)]


def changes(answer):
    """How often a row, as it is answered, changes."""
    return sum(1 for one, other in zip(answer[2:], answer[3:]) if one != other)


def parts_of(answer):
    return range(answer[1], answer[1] + answer[0])


class Step:
    """A call, what is answered to it, and the rows of all bookings before and now."""

    def __init__(self, call, told, before, now):
        self.call = call
        self.told = told
        self.refused = told[0] < 0
        self.before = before
        self.now = now


class Walk:
    """Makes calls one by one, by chance, and keeps what it has seen."""

    def __init__(self, chance, stops, seats):
        self.chance = chance
        self.stops = stops
        self.seats = seats
        self.calls = [begin(stops, seats)]
        self.rows = {}
        self.ways = {}
        # Short ways, many of them cancelled, leave gaps that longer ones go through with changes.
        takers = [book(part, part + 1) for part in range(stops - 1) for seat in range(seats)]
        self.planned = chance.sample(takers, min(len(takers), 28))
        self.planned += [cancel(k) for k in range(len(self.planned)) if chance.random() < 0.6]
        self.planned += [book(0, stops - 1)] * 2

    def way(self):
        from_stop = self.chance.randrange(self.stops - 1)
        return from_stop, self.chance.randrange(from_stop + 1, self.stops)

    def next_call(self):
        chance = self.chance
        kind = chance.choice("book book book book book cancel cancel row anew free who state wrong".split())
        if kind == "book":
            return book(*self.way(), chance.choice((0, 0, 0, 0, 0, 1)))
        if kind == "cancel":
            # Mostly one that is there, so that gaps come.
            return cancel(chance.choice(list(self.rows) or [0]) if chance.random() < 0.9 else chance.randrange(41))
        if kind == "row":
            return row(chance.randrange(41))
        if kind == "anew":
            return anew() if chance.random() < 0.4 else state()
        if kind == "free":
            return free(*self.way())
        if kind == "who":
            return who(chance.randrange(self.seats + 1), chance.randrange(self.stops))
        if kind == "state":
            return begin(self.stops, self.seats) if chance.random() < 0.1 else state()
        return chance.choice((begin(1, LARGEST), book(0, self.stops, 0), book(LARGEST, LARGEST, LARGEST),
                              book(0, 1, 2), free(0, self.stops), free(LARGEST, 0), cancel(LARGEST), who(LARGEST, 0)))

    def step(self):
        call = self.planned.pop(0) if self.planned else self.next_call()
        answered = ask(*self.calls, call, *ALL_ROWS)[len(self.calls):]
        self.calls.append(call)
        now = {number: answer for number, answer in enumerate(answered[1:]) if answer[0] >= 0}
        done = Step(call, answered[0], self.rows, now)
        if call[0] == 0 and not done.refused:
            self.ways = {}
        if call[0] == 1 and not done.refused:
            self.ways[done.told[0]] = [call[2] - call[1], call[1]]
        self.rows = now
        return done


class WhatHolds(unittest.TestCase):
    def test_mixed_lines(self):
        chance = random.Random(7)
        self.seen = collections.Counter()
        for stops, seats in ((17, 12), (17, 3), (17, 1), (6, 2), (8, 4), (9, 3), (6, 5), (5, 6), (2, 3)) * 8:
            walk = Walk(chance, stops, seats)
            for k in range(110):
                self.check(walk, walk.step())
        # A line that never comes to these would show little.
        for what in ("full part", "forty bookings", "row with changes", "anew behind changes",
                     "how 1 behind changes", "nobody on the seat", "no seat all the way", "new begin"):
            self.assertGreater(self.seen[what], 15, what)

    def check(self, walk, done):
        self.check_seats(walk, done.now)
        if done.refused:
            self.assertEqual(done.now, done.before, done.call)
        checks = (self.check_begin, self.check_book, self.check_cancel, self.check_row,
                  self.check_anew, self.check_free, self.check_who, self.check_state)
        checks[done.call[0]](walk, done)

    def check_seats(self, walk, now):
        """No seat is given twice, and each row is of the way that was booked."""
        given = set()
        for number, answer in now.items():
            self.assertEqual(answer[:2], walk.ways[number])
            self.assertEqual(len(answer), 2 + answer[0])
            for part, seat in zip(parts_of(answer), answer[2:]):
                self.assertIn(seat, range(walk.seats))
                self.assertNotIn((part, seat), given)
                given.add((part, seat))

    def taken(self, rows):
        return {(part, seat): number for number, answer in rows.items()
                for part, seat in zip(parts_of(answer), answer[2:])}

    def check_begin(self, walk, done):
        if done.call == begin(walk.stops, walk.seats):
            self.seen["new begin"] += 1
            self.assertEqual(done.told, [0])
            self.assertEqual(done.now, {})
        else:
            self.assertEqual(done.told, [-22])

    def check_book(self, walk, done):
        from_stop, to_stop, how = done.call[1:]
        if to_stop >= walk.stops or to_stop <= from_stop or how > 1:
            self.assertEqual(done.told, [-22])
            return
        # This booking is among the ways already, if it was not refused.
        if len(walk.ways) == 40 and done.refused:
            self.seen["forty bookings"] += 1
            self.assertEqual(done.told, [-12])
            return
        on_part = collections.Counter(part for answer in done.before.values() for part in parts_of(answer))
        full = [part for part in range(from_stop, to_stop) if on_part[part] == walk.seats]
        if full:
            self.seen["full part"] += 1
            self.assertEqual(done.told, [-1000 - full[0]])
            return
        self.check_booked(walk, done, how)

    def check_booked(self, walk, done, how):
        number = done.told[0]
        self.assertEqual(number, len(walk.ways) - 1)
        self.assertEqual(sorted(done.now), sorted(done.before) + [number])
        self.assertEqual(done.told, [number, changes(done.now[number])])
        if how == 0:
            self.seen["row with changes"] += done.told[1] > 0
            self.assertEqual({k: done.now[k] for k in done.before}, done.before)
        else:
            self.seen["how 1 behind changes"] += any(changes(answer) for answer in done.before.values())
            self.check_nobody_changes(done)

    def check_nobody_changes(self, done):
        for number, answer in done.now.items():
            self.assertEqual(changes(answer), 0, number)
        for number, answer in done.before.items():
            self.assertEqual(done.now[number][:2], answer[:2])

    def check_cancel(self, walk, done):
        number = done.call[1]
        self.assertEqual(done.told, [len(done.before) - 1 if number in done.before else -2])
        self.assertEqual(done.now, {k: answer for k, answer in done.before.items() if k != number})

    def check_row(self, walk, done):
        self.assertEqual(done.told, done.before.get(done.call[1], [-2]))
        self.assertEqual(done.now, done.before)

    def check_anew(self, walk, done):
        before = sum(changes(answer) for answer in done.before.values())
        self.seen["anew behind changes"] += before > 0
        self.assertEqual(done.told, [before])
        self.assertEqual(sorted(done.now), sorted(done.before))
        self.check_nobody_changes(done)

    def check_free(self, walk, done):
        self.assertEqual(done.now, done.before)
        from_stop, to_stop = done.call[1:]
        if to_stop >= walk.stops or to_stop <= from_stop:
            self.assertEqual(done.told, [-22])
            return
        taken = self.taken(done.before)
        seats = [seat for seat in range(walk.seats)
                 if not any((part, seat) in taken for part in range(from_stop, to_stop))]
        self.seen["no seat all the way"] += not seats
        self.assertEqual(done.told, [len(seats), *seats])

    def check_who(self, walk, done):
        self.assertEqual(done.now, done.before)
        seat, part = done.call[1:]
        if seat >= walk.seats or part >= walk.stops - 1:
            self.assertEqual(done.told, [-2])
            return
        whose = self.taken(done.before).get((part, seat), -6)
        self.seen["nobody on the seat"] += whose == -6
        self.assertEqual(done.told, [whose])

    def check_state(self, walk, done):
        self.assertEqual(done.now, done.before)
        self.assertEqual(done.told, [len(done.before), len(walk.ways),
                                     sum(changes(answer) for answer in done.before.values())])


if __name__ == "__main__":
    unittest.main()
