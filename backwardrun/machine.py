"""The machine: its bytes, a, x, its place, its two flags, and the 16 instructions."""

PLACES = 128
VALUES = 256
KINDS = 16
REST = 0


# A machine that was loaded with some bytes, 0 behind them.
class Machine:
    def __init__(self, loaded):
        self.cells = loaded + [0] * (PLACES - len(loaded))
        self.a = 0
        self.x = 0
        self.place = 0
        self.zero = True
        self.carry = False
        # Watches ask where the instruction just done put a byte; None: it put none.
        self.written = None

    def byte_at(self, place):
        return self.cells[place % PLACES]

    def put_a_at(self, place):
        self.written = place % PLACES
        self.cells[self.written] = self.a

    def set_a(self, value):
        self.a = value % VALUES
        self.zero = self.a == 0

    def set_x(self, value):
        self.x = value % VALUES
        self.zero = self.x == 0

    def jump_to(self, place):
        self.place = place % PLACES


def rest(machine, n):
    pass


def a_is_n(machine, n):
    machine.set_a(n)


def a_is_byte(machine, n):
    machine.set_a(machine.byte_at(n))


def put_a(machine, n):
    machine.put_a_at(n)


def a_is_byte_x_further(machine, n):
    machine.set_a(machine.byte_at(n + machine.x))


def put_a_x_further(machine, n):
    machine.put_a_at(n + machine.x)


def x_is_n(machine, n):
    machine.set_x(n)


def add_n_to_x(machine, n):
    machine.set_x(machine.x + n)


def add_byte(machine, n):
    total = machine.a + machine.byte_at(n)
    machine.carry = total >= VALUES
    machine.set_a(total)


def take_byte(machine, n):
    byte = machine.byte_at(n)
    machine.carry = byte > machine.a
    machine.set_a(machine.a - byte)


def and_byte(machine, n):
    machine.set_a(machine.a & machine.byte_at(n))


def exclusive_or_byte(machine, n):
    machine.set_a(machine.a ^ machine.byte_at(n))


def jump(machine, n):
    machine.jump_to(n)


def jump_if_zero(machine, n):
    if machine.zero:
        machine.jump_to(n)


def jump_if_not_zero(machine, n):
    if not machine.zero:
        machine.jump_to(n)


def jump_if_carry(machine, n):
    if machine.carry:
        machine.jump_to(n)


INSTRUCTIONS = (
    rest,
    a_is_n,
    a_is_byte,
    put_a,
    a_is_byte_x_further,
    put_a_x_further,
    x_is_n,
    add_n_to_x,
    add_byte,
    take_byte,
    and_byte,
    exclusive_or_byte,
    jump,
    jump_if_zero,
    jump_if_not_zero,
    jump_if_carry,
)


# Does the instruction at the machine's place; answers whether it was a rest.
def do_instruction(machine):
    which = machine.byte_at(machine.place) % KINDS
    n = machine.byte_at(machine.place + 1)
    machine.written = None
    # Set ahead of the instruction, so that a jump has the last word.
    machine.jump_to(machine.place + 2)
    INSTRUCTIONS[which](machine, n)
    return which == REST
