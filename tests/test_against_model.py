"""Compares lines of calls with a slow model that tries every row and looks at every part."""

import itertools
import random
import unittest

from lines import LARGEST, ask, begin, book, cancel, row


def changes(seats):
    return sum(1 for one, other in zip(seats, seats[1:]) if one != other)


class Model:
    """Keeps who sits where as a dict: (part, seat) -> booking."""

    def __init__(self):
        self.size = None

    def begin(self, stops, seats):
        if stops not in range(2, 18) or seats not in range(1, 13):
            return [-22]
        self.size = (stops, seats)
        self.ways = []
        self.dropped = set()
        self.sits = {}
        return [0]

    def book(self, from_stop, to_stop, how):
        if self.size is None:
            return [-61]
        if to_stop <= from_stop or to_stop > self.size[0] - 1 or how > 1:
            return [-22]
        if len(self.ways) >= 40:
            return [-12]
        seats = range(self.size[1])
        free = [[s for s in seats if (part, s) not in self.sits] for part in range(from_stop, to_stop)]
        for part, left in enumerate(free):
            if not left:
                return [-1000 - from_stop - part]
        number = len(self.ways)
        self.ways.append((from_stop, to_stop))
        if how == 0:
            # product goes through rows from the first on, and min takes the first of like ones.
            chosen = min(itertools.product(*free), key=changes)
            for part, seat in enumerate(chosen):
                self.sits[from_stop + part, seat] = number
        else:
            self.seat_at_once()
        return [number, changes(self.seats_of(number))]

    def seat_at_once(self):
        self.sits = {}
        left = [k for k in range(len(self.ways)) if k not in self.dropped]
        while left:
            number = min(left, key=lambda k: self.ways[k][0])
            left.remove(number)
            parts = range(*self.ways[number])
            seat = 0
            while any((part, seat) in self.sits for part in parts):
                seat += 1
            for part in parts:
                self.sits[part, seat] = number

    def seats_of(self, number):
        found = sorted(place for place, whose in self.sits.items() if whose == number)
        return [seat for part, seat in found]

    def known(self, number):
        return self.size is not None and number < len(self.ways) and number not in self.dropped

    def cancel(self, number):
        if not self.known(number):
            return [-2]
        self.dropped.add(number)
        self.sits = {place: whose for place, whose in self.sits.items() if whose != number}
        return [len(self.ways) - len(self.dropped)]

    def row(self, number):
        if not self.known(number):
            return [-2]
        from_stop, to_stop = self.ways[number]
        return [to_stop - from_stop, from_stop] + self.seats_of(number)

    def ask(self, calls):
        kinds = (self.begin, self.book, self.cancel, self.row)
        return [kinds[call[0]](*call[1:]) for call in calls]


def random_book(chance, stops, longest):
    from_stop = chance.randrange(stops - 1)
    to_stop = min(from_stop + chance.randrange(1, longest + 1), stops - 1)
    return book(from_stop, to_stop, chance.choice((0, 0, 0, 0, 0, 1)))


def wrong_call(chance, stops, seats):
    return chance.choice((
        begin(chance.choice((0, 1, 18, LARGEST)), seats),
        begin(stops, chance.choice((0, 13, LARGEST))),
        book(chance.randrange(stops), stops, 0),
        book(stops - 1, chance.randrange(stops), 1),
        book(0, 1, chance.choice((2, LARGEST))),
        cancel(chance.choice((40, LARGEST))),
        row(chance.choice((40, LARGEST)))))


def random_train(chance):
    """Fills seats by short ways, leaves gaps by cancelling, and asks for longer ways through them."""
    stops = chance.randrange(2, 9)
    seats = chance.randrange(1, 5)
    calls = [begin(stops, seats)]
    calls += [random_book(chance, stops, 2) for k in range(chance.randrange(30))]
    for k in range(chance.randrange(30)):
        calls.append(chance.choice((
            cancel(chance.randrange(20)),
            cancel(chance.randrange(20)),
            random_book(chance, stops, stops),
            random_book(chance, stops, stops),
            row(chance.randrange(40)),
            wrong_call(chance, stops, seats))))
    return calls + [row(k) for k in range(40)]


def train_with_gaps(chance):
    """Takes every seat on every part by itself, cancels some, and asks for ways through the gaps."""
    seats, parts = chance.choice(((2, 8), (3, 8), (4, 7), (5, 6), (6, 5)))
    takers = [book(part, part + 1) for part in range(parts) for seat in range(seats)]
    chance.shuffle(takers)
    gaps = [cancel(k) for k in range(len(takers)) if chance.random() < 0.6]
    # Their rows are told at once: a later booking with how 1 may seat them anew.
    through = [book(k % 2, parts - k % 3 // 2) for k in range(4)] + [row(len(takers) + k) for k in range(4)]
    through += [random_book(chance, parts + 1, parts) for k in range(36 - len(takers))]
    return [begin(parts + 1, seats)] + takers + gaps + through + [row(k) for k in range(40)]


class AgainstModel(unittest.TestCase):
    def compare(self, calls):
        """How many bookings change seats, once the program and the model agree."""
        expected = Model().ask(calls)
        self.assertEqual(ask(*calls), expected, calls)
        return sum(1 for call, told in zip(calls, expected) if call[0] == 1 and len(told) == 2 and told[1] > 0)

    def test_random_lines(self):
        chance = random.Random(20)
        for k in range(200):
            self.compare(random_train(chance) + random_train(chance))

    def test_ways_through_gaps(self):
        chance = random.Random(31)
        changed = sum(self.compare(train_with_gaps(chance)) for k in range(200))
        # Lines in which nobody ever changes would compare little.
        self.assertGreater(changed, 200)


class WhatHolds(unittest.TestCase):
    """On trains too large for the model: no seat is given twice, and how 0 leaves others alone."""

    def test_large_trains(self):
        chance = random.Random(7)
        for k in range(60):
            self.walk(chance, 17, 12 if k % 2 else 3)

    def walk(self, chance, stops, seats):
        calls = [begin(stops, seats)]
        rows = {}
        ways = {}
        for k in range(60):
            call = self.next_call(chance, stops)
            told = ask(*calls, call, *[row(number) for number in range(40)])[len(calls):]
            calls.append(call)
            now = {number: answer for number, answer in enumerate(told[1:]) if answer[0] >= 0}
            self.check_step(call, told[0], rows, now, seats)
            if call[0] == 1 and told[0][0] >= 0:
                ways[told[0][0]] = [call[2] - call[1], call[1]]
            self.check_seats(now, ways, seats)
            rows = now

    def next_call(self, chance, stops):
        if chance.random() < 0.25:
            return cancel(chance.randrange(40))
        from_stop = chance.randrange(stops - 1)
        return book(from_stop, chance.randrange(from_stop + 1, stops), chance.choice((0, 0, 0, 1)))

    def check_step(self, call, told, before, now, seats):
        if told[0] < 0:
            self.assertEqual(now, before)
        elif call[0] == 1:
            self.assertEqual(sorted(now), sorted(before) + [told[0]])
            self.assertEqual(told[1], changes(now[told[0]][2:]))
            if call[3] == 0:
                self.assertEqual({number: now[number] for number in before}, before)
            else:
                self.assertEqual([changes(answer[2:]) for answer in now.values()], [0] * len(now))
        else:
            self.assertEqual(now, {number: before[number] for number in before if number != call[1]})
        if call[0] == 1 and told[0] != -12:
            self.check_refused_where_full(call, told, before, seats)

    def check_refused_where_full(self, call, told, before, seats):
        on_part = [sum(1 for answer in before.values() if answer[1] <= part < answer[1] + answer[0])
                   for part in range(16)]
        full = [part for part in range(call[1], call[2]) if on_part[part] == seats]
        self.assertEqual(told[0] < 0, bool(full))
        if full:
            self.assertEqual(told, [-1000 - full[0]])

    def check_seats(self, now, ways, seats):
        given = set()
        for number, answer in now.items():
            self.assertEqual(answer[:2], ways[number])
            self.assertEqual(len(answer), 2 + answer[0])
            for part, seat in enumerate(answer[2:], start=answer[1]):
                self.assertIn(seat, range(seats))
                self.assertNotIn((part, seat), given)
                given.add((part, seat))


if __name__ == "__main__":
    unittest.main()
