"""The moments of a run: ahead of each of its instructions, then at its end."""

from backwardrun.machine import Machine
from backwardrun.machine import do_instruction

PAD_PLACE = 127
FRAME_LIMIT = 300


# What the calls ask of one moment; written is where the instruction before it put a byte, or None.
class Moment:
    def __init__(self, frame, done, machine):
        self.frame = frame
        self.done = done
        self.place = machine.place
        self.written = machine.written


def add_frame(moments, machine, frame, pad):
    machine.cells[PAD_PLACE] = pad
    for done in range(FRAME_LIMIT):
        moments.append(Moment(frame, done, machine))
        if do_instruction(machine):
            break


def moments_of_run(loaded, frame_pads):
    machine = Machine(loaded)
    moments = []
    for frame, pad in enumerate(frame_pads):
        add_frame(moments, machine, frame, pad)
    moments.append(Moment(len(frame_pads), 0, machine))
    return moments
