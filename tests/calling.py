"""Calls as short functions, and their answers call by call."""

from backwardrun.runs import answers

REST, A_IS_N, A_IS_BYTE, PUT_A, A_IS_BYTE_X, PUT_A_X, X_IS_N, ADD_TO_X = range(8)
ADD, TAKE, AND, XOR, JUMP, JUMP_Z, JUMP_NOT_Z, JUMP_C = range(8, 16)

GO = [6]


def begin(*numbers):
    return [0, len(numbers), *numbers]


def pads(*numbers):
    return [1, len(numbers), *numbers]


def step(n):
    return [2, n]


def back(n):
    return [3, n]


def stop(place, on=1):
    return [4, place, on]


def watch(place, on=1):
    return [5, place, on]


def flat(calls):
    return [number for call in calls for number in call]


def split(answered):
    """The flat answers as a list of one list a call."""
    parts = []
    at = 0
    while at < len(answered):
        many = answered[at]
        part = answered[at + 1:at + 1 + many]
        assert many >= 1 and len(part) == many
        parts.append(part)
        at += 1 + many
    return parts


def ask(*calls):
    """What each of the calls is answered."""
    parts = split(answers(flat(calls)))
    assert len(parts) == len(calls)
    return parts


def last(*calls):
    """What the last of the calls is answered."""
    return ask(*calls)[-1]


def program(at):
    """128 bytes from a dict of place and the bytes from there on (beyond 127 it goes on at 0)."""
    cells = [0] * 128
    for place, numbers in at.items():
        for further, number in enumerate(numbers):
            cells[(place + further) % 128] = number
    return cells
