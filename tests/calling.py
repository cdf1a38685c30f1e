"""Calls as short functions, and their answers call by call."""

from backwardrun.runs import answers

REST, A_IS_N, A_IS_BYTE, PUT_A, A_IS_BYTE_X, PUT_A_X, X_IS_N, ADD_TO_X = range(8)
ADD, TAKE, AND, XOR, JUMP, JUMP_Z, JUMP_NOT_Z, JUMP_C = range(8, 16)

GO = [6]
REWIND = [7]
WHERE = [9]
STATE = [10]
UNPOKE = [13]


def begin(*numbers):
    return [0, len(numbers), *numbers]


def pads(*numbers):
    return [1, len(numbers), *numbers]


def step(n):
    return [2, n]


def back(n):
    return [3, n]


def stop(place, on=1):
    return [4, place, on]


def watch(place, on=1):
    return [5, place, on]


def to(n):
    return [8, n]


def wrote(place):
    return [11, place]


def poke(place, byte):
    return [12, place, byte]


def flat(calls):
    return [number for call in calls for number in call]


def split(answered):
    """The flat answers as a list of one list a call."""
    parts = []
    at = 0
    while at < len(answered):
        many = answered[at]
        part = answered[at + 1:at + 1 + many]
        assert many >= 1 and len(part) == many
        parts.append(part)
        at += 1 + many
    return parts


def ask(*calls):
    """What each of the calls is answered."""
    parts = split(answers(flat(calls)))
    assert len(parts) == len(calls)
    return parts


def last(*calls):
    """What the last of the calls is answered."""
    return ask(*calls)[-1]


def program(at):
    """128 bytes from a dict of place and the bytes from there on (beyond 127 it goes on at 0)."""
    cells = [0] * 128
    for place, numbers in at.items():
        for further, number in enumerate(numbers):
            cells[(place + further) % 128] = number
    return cells


def numbers(a, x, place, z, c, at):
    """What state answers: the five numbers, then 128 bytes, told as for `program`."""
    return [a, x, place, z, c] + program(at)


def byte_in(state, place):
    return state[5 + place]


def bytes_at(told, place, ahead_of):
    """The byte at the place, ahead of each of these instructions."""
    asked = [call for n in ahead_of for call in (to(n), STATE)]
    return [byte_in(state, place) for state in ask(*told, *asked)[len(told) + 1::2]]


# Three frames of two instructions, at places 0, 2, 4, ...; where it is ahead of each and at the end.
SHORT = [begin(A_IS_N, 1, REST, 0, A_IS_N, 2, REST, 0, A_IS_N, 3), pads(7, 8, 9)]
SPOTS = [
    [0, 0, 0, 0], [1, 0, 1, 2], [2, 1, 0, 4], [3, 1, 1, 6], [4, 2, 0, 8], [5, 2, 1, 10], [6, 3, 0, 12]]

# Adds its pad over and over, changes its own bytes, goes another way where c is set; 300 a frame.
BUSY = [begin(*program({
    0: [A_IS_BYTE, 60, ADD, 127, PUT_A, 60, PUT_A, 21, JUMP_C, 20, JUMP, 0],
    20: [A_IS_N, 5, PUT_A, 61, JUMP, 0]})), pads(37, 101, 3)]
