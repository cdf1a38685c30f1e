"""The calls, each as a function of the session and the call's numbers; it answers a list."""

from backwardrun.machine import PLACES
from backwardrun.machine import VALUES
from backwardrun.session import NO_REASON

MOST_FRAMES = 20

OUT_OF_BOUNDS = -1
TOO_MANY = -5


def are_bytes(numbers):
    return all([0 <= number < VALUES for number in numbers])


def begin(session, numbers):
    if len(numbers) > PLACES or not are_bytes(numbers):
        return [OUT_OF_BOUNDS]
    session.start_over(numbers)
    return [0]


def pads(session, numbers):
    if not are_bytes(numbers):
        return [OUT_OF_BOUNDS]
    if len(session.frame_pads) + len(numbers) > MOST_FRAMES:
        return [TOO_MANY]
    session.add_pads(numbers)
    return [len(session.frame_pads), session.end_number()]


def step(session, numbers):
    n = numbers[0]
    if n < 0:
        return [OUT_OF_BOUNDS]
    many = min(n, session.end_number() - session.now)
    session.now += many
    return [many] + session.where_now()


def back(session, numbers):
    n = numbers[0]
    if n < 0:
        return [OUT_OF_BOUNDS]
    many = min(n, session.now)
    session.now -= many
    return [many] + session.where_now()


def tell_place(places, numbers):
    place = numbers[0]
    on = numbers[1]
    if place < 0 or place >= PLACES or on not in (0, 1):
        return [OUT_OF_BOUNDS]
    if on == 1:
        places[place] = True
    else:
        places.pop(place, None)
    return [len(places)]


def stop(session, numbers):
    return tell_place(session.stop_places, numbers)


def watch(session, numbers):
    return tell_place(session.watch_places, numbers)


def go(session, numbers):
    end = session.end_number()
    # At the end it stays there, and the reason is the one that the end itself has.
    number = min(session.now + 1, end)
    while number < end and session.reason_at(number) == NO_REASON:
        number += 1
    session.now = number
    return [session.reason_at(number)] + session.where_now()


CALLS = (begin, pads, step, back, stop, watch, go)


def answer_call(session, call, numbers):
    return CALLS[call](session, numbers)
