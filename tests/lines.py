"""Helps to write lines of calls and to read what is answered."""

from trainseatsdesk.seating import answers

LARGEST = 4294967295


def begin(stops, seats):
    return [0, stops, seats]


def book(from_stop, to_stop, how=0):
    return [1, from_stop, to_stop, how]


def cancel(booking):
    return [2, booking]


def row(booking):
    return [3, booking]


def anew():
    return [4]


def free(from_stop, to_stop):
    return [5, from_stop, to_stop]


def who(seat, part):
    return [6, seat, part]


def state():
    return [7]


def line_of(calls):
    return [number for call in calls for number in call]


def split_answers(answered):
    """The answers call by call; each stands behind how many numbers it has."""
    split = []
    place = 0
    while place < len(answered):
        behind = place + 1 + answered[place]
        split.append(answered[place + 1:behind])
        place = behind
    if place != len(answered):
        raise ValueError("the last answer is cut off")
    return split


def ask(*calls):
    split = split_answers(answers(line_of(calls)))
    if len(split) != len(calls):
        raise ValueError(f"{len(calls)} calls, {len(split)} answers")
    return split


def all_told(stops, seats):
    """Calls that tell all there is to tell of a train, and change nothing."""
    ways = [(from_stop, to_stop) for from_stop in range(stops) for to_stop in range(from_stop + 1, stops)]
    places = [(seat, part) for seat in range(seats) for part in range(stops - 1)]
    return ([state()] + [row(number) for number in range(41)] + [free(*way) for way in ways]
            + [who(*place) for place in places])


def ask_behind(before, *calls):
    """What is answered to the calls, made behind those of before."""
    return ask(*before, *calls)[len(before):]
