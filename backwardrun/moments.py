"""The moments of a run: ahead of each of its instructions, then at its end."""

from backwardrun.machine import Machine
from backwardrun.machine import do_instruction

PAD_PLACE = 127
FRAME_LIMIT = 300


# The machine as it is then; written is where the instruction before it put a byte, or None.
class Moment:
    def __init__(self, frame, done, machine):
        self.frame = frame
        self.done = done
        self.a = machine.a
        self.x = machine.x
        self.place = machine.place
        self.zero = machine.zero
        self.carry = machine.carry
        # The machine goes on and changes its own.
        self.cells = list(machine.cells)
        self.written = machine.written

    def all_numbers(self):
        return [self.a, self.x, self.place, int(self.zero), int(self.carry)] + self.cells


# By number, what is changed there, in the order in which it was told.
def group_by_number(changes):
    by_number = {}
    for number, place, byte in changes:
        by_number.setdefault(number, []).append((place, byte))
    return by_number


# A hand isn't an instruction: it leaves alone what the machine says was written.
def add_moment(moments, frame, done, machine, by_number):
    for place, byte in by_number.get(len(moments), ()):
        machine.cells[place] = byte
    moments.append(Moment(frame, done, machine))


def add_frame(moments, frame, pad, machine, by_number):
    machine.cells[PAD_PLACE] = pad
    for done in range(FRAME_LIMIT):
        add_moment(moments, frame, done, machine, by_number)
        if do_instruction(machine):
            break


# changes: what was changed by hand, each as the instruction's number, the place and the byte.
def moments_of_run(loaded, frame_pads, changes):
    machine = Machine(loaded)
    by_number = group_by_number(changes)
    moments = []
    for frame, pad in enumerate(frame_pads):
        add_frame(moments, frame, pad, machine, by_number)
    add_moment(moments, len(frame_pads), 0, machine, by_number)
    return moments
