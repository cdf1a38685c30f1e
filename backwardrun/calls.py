"""The calls, each as a function of the session and the call's numbers; it answers a list."""

from backwardrun.machine import PLACES
from backwardrun.machine import VALUES
from backwardrun.session import NO_REASON

MOST_FRAMES = 20
MOST_CHANGES = 20

OUT_OF_BOUNDS = -1
NO_SUCH_INSTRUCTION = -3
TOO_MANY = -5
NONE_CHANGED = -7


def are_bytes(numbers):
    return all([0 <= number < VALUES for number in numbers])


def is_place(number):
    return 0 <= number < PLACES


def begin(session, numbers):
    if len(numbers) > PLACES or not are_bytes(numbers):
        return [OUT_OF_BOUNDS]
    session.start_over(numbers)
    return [0]


def pads(session, numbers):
    if not are_bytes(numbers):
        return [OUT_OF_BOUNDS]
    if len(session.frame_pads) + len(numbers) > MOST_FRAMES:
        return [TOO_MANY]
    session.add_pads(numbers)
    return [len(session.frame_pads), session.end_number()]


def step(session, numbers):
    n = numbers[0]
    if n < 0:
        return [OUT_OF_BOUNDS]
    many = min(n, session.end_number() - session.now)
    session.now += many
    return [many] + session.where_now()


def back(session, numbers):
    n = numbers[0]
    if n < 0:
        return [OUT_OF_BOUNDS]
    many = min(n, session.now)
    session.now -= many
    return [many] + session.where_now()


def tell_place(places, numbers):
    place = numbers[0]
    on = numbers[1]
    if not is_place(place) or on not in (0, 1):
        return [OUT_OF_BOUNDS]
    if on == 1:
        places[place] = True
    else:
        places.pop(place, None)
    return [len(places)]


def stop(session, numbers):
    return tell_place(session.stop_places, numbers)


def watch(session, numbers):
    return tell_place(session.watch_places, numbers)


def arrive(session, number):
    session.now = number
    return [session.reason_at(number)] + session.where_now()


def go(session, numbers):
    end = session.end_number()
    # At the end it stays there, and the reason is the one that the end itself has.
    number = min(session.now + 1, end)
    while number < end and session.reason_at(number) == NO_REASON:
        number += 1
    return arrive(session, number)


def rewind(session, numbers):
    # At the beginning it stays there, likewise.
    number = max(session.now - 1, 0)
    while number > 0 and session.reason_at(number) == NO_REASON:
        number -= 1
    return arrive(session, number)


def to(session, numbers):
    n = numbers[0]
    if n < 0 or n > session.end_number():
        return [NO_SUCH_INSTRUCTION]
    session.now = n
    return session.where_now()


def where(session, numbers):
    return session.where_now() + [session.end_number()]


def state(session, numbers):
    return session.moment_now().all_numbers()


def wrote(session, numbers):
    place = numbers[0]
    if not is_place(place):
        return [OUT_OF_BOUNDS]
    number = session.last_write(place)
    if number is None:
        return [0]
    # Both bytes are taken from ahead of the write: behind it a pad or a hand may have changed the place already.
    moment = session.moments[number]
    return [1, number, moment.frame, moment.place, moment.cells[place], moment.a]


def poke(session, numbers):
    place = numbers[0]
    byte = numbers[1]
    if not is_place(place) or not are_bytes([byte]):
        return [OUT_OF_BOUNDS]
    if len(session.changes) >= MOST_CHANGES:
        return [TOO_MANY]
    session.change_by_hand(place, byte)
    return [len(session.changes), session.end_number()]


def unpoke(session, numbers):
    if len(session.changes) == 0:
        return [NONE_CHANGED]
    session.undo_last_change()
    return session.where_now()


CALLS = (begin, pads, step, back, stop, watch, go, rewind, to, where, state, wrote, poke, unpoke)


def answer_call(session, call, numbers):
    return CALLS[call](session, numbers)
