"""Helps to write lines of calls and to read what is answered."""

from trainseatsdesk.seating import answers

LARGEST = 4294967295


def begin(stops, seats):
    return [0, stops, seats]


def book(from_stop, to_stop, how=0):
    return [1, from_stop, to_stop, how]


def cancel(booking):
    return [2, booking]


def row(booking):
    return [3, booking]


def line_of(calls):
    return [number for call in calls for number in call]


def split_answers(answered):
    """The answers call by call; each stands behind how many numbers it has."""
    split = []
    place = 0
    while place < len(answered):
        behind = place + 1 + answered[place]
        split.append(answered[place + 1:behind])
        place = behind
    if place != len(answered):
        raise ValueError("the last answer is cut off")
    return split


def ask(*calls):
    split = split_answers(answers(line_of(calls)))
    if len(split) != len(calls):
        raise ValueError(f"{len(calls)} calls, {len(split)} answers")
    return split


def ask_behind(before, *calls):
    """What is answered to the calls, made behind those of before."""
    return ask(*before, *calls)[len(before):]
