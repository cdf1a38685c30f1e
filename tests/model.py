"""The document's words once more, as slow and plain as can be, to hold the program against."""


def loaded(row):
    state = {"a": 0, "x": 0, "place": 0, "z": 1, "c": 0, "wrote": None}
    state["bytes"] = {place: 0 for place in range(128)}
    state["bytes"].update(enumerate(row))
    return state


def into(state, name, value):
    state[name] = value % 256
    state["z"] = 1 if state[name] == 0 else 0


def instruction(state):
    """Does one and answers its number."""
    cells, place = state["bytes"], state["place"]
    which, n = cells[place] % 16, cells[(place + 1) % 128]
    direct, further = n % 128, (n + state["x"]) % 128
    a, byte = state["a"], cells[direct]
    state["wrote"] = {3: direct, 5: further}.get(which)
    if state["wrote"] is not None:
        cells[state["wrote"]] = a
    elif which in (6, 7):
        into(state, "x", n if which == 6 else state["x"] + n)
    elif which in (8, 9):
        state["c"] = int(a + byte > 255 if which == 8 else byte > a)
        into(state, "a", a + byte if which == 8 else a - byte)
    elif which in (1, 2, 4, 10, 11):
        into(state, "a", {1: n, 2: byte, 4: cells[further], 10: a & byte, 11: a ^ byte}[which])
    jumps = {12: True, 13: state["z"] == 1, 14: state["z"] == 0, 15: state["c"] == 1}.get(which, False)
    state["place"] = n % 128 if jumps else (place + 2) % 128
    return which


def as_numbers(state):
    # The bytes' dict was filled from place 0 on and keeps that order.
    return [state[name] for name in ("a", "x", "place", "z", "c")] + list(state["bytes"].values())


class Run:
    """Done from the beginning: its spots, ahead of each instruction and at the end, and its instructions' writes."""

    def __init__(self, row, pads, hands):
        self.state, self.hands = loaded(row), hands
        self.spots, self.writes = [], []
        for frame, pad in enumerate(pads):
            self.state["bytes"][127] = pad
            self.frame(frame)
        self.spot(len(pads), 0)

    def spot(self, frame, done):
        for number, place, byte in self.hands:
            if number == len(self.spots):
                self.state["bytes"][place] = byte
        self.spots.append((frame, done, self.state["place"], self.state["wrote"], as_numbers(self.state)))

    def frame(self, frame):
        done, rested = 0, False
        while done < 300 and not rested:
            self.spot(frame, done)
            number, place, before = len(self.spots) - 1, self.state["place"], as_numbers(self.state)[5:]
            rested = instruction(self.state) == 0
            wrote = self.state["wrote"]
            if wrote is not None:
                self.writes.append((wrote, [number, frame, place, before[wrote], self.state["bytes"][wrote]]))
            done += 1


class Model:
    def __init__(self):
        self.begin([])

    def begin(self, row):
        if len(row) > 128 or [byte for byte in row if byte not in range(256)]:
            return [-1]
        self.row, self.frames, self.hands, self.places, self.now = row, [], [], ([], []), 0
        self.run_again()
        return [0]

    def run_again(self):
        self.run = Run(self.row, self.frames, self.hands)
        self.spots = self.run.spots
        return len(self.spots) - 1

    def pads(self, row):
        if [byte for byte in row if byte not in range(256)]:
            return [-1]
        if len(self.frames + row) > 20:
            return [-5]
        self.frames = self.frames + row
        return [len(self.frames), self.run_again()]

    def there(self, number):
        return number in range(len(self.spots))

    def where(self):
        return [self.now, *self.spots[self.now][:3]]

    def move(self, n, by):
        if n < 0:
            return [-1]
        many = 0
        while many < n and self.there(self.now + by):
            self.now += by
            many += 1
        return [many] + self.where()

    def tell(self, which, place, on):
        if place not in range(128) or on not in range(2):
            return [-1]
        places = self.places[which]
        if on and place not in places:
            places.append(place)
        if not on and place in places:
            places.remove(place)
        return [len(places)]

    def reason(self):
        frame, done, place, wrote, numbers = self.spots[self.now]
        if frame < len(self.frames) and place in self.places[0]:
            return 1
        return 2 if wrote in self.places[1] else 0

    def until_a_stop(self, by):
        while self.there(self.now + by):
            self.now += by
            if self.reason():
                break
        return [self.reason()] + self.where()

    def to(self, n):
        if not self.there(n):
            return [-3]
        self.now = n
        return self.where()

    def wrote(self, place):
        if place not in range(128):
            return [-1]
        ahead = [told for where, told in self.run.writes if where == place and told[0] < self.now]
        return [1] + ahead[-1] if ahead else [0]

    def poke(self, place, byte):
        if place not in range(128) or byte not in range(256):
            return [-1]
        if len(self.hands) == 20:
            return [-5]
        self.hands = self.hands + [(self.now, place, byte)]
        return [len(self.hands), self.run_again()]

    def unpoke(self):
        if not self.hands:
            return [-7]
        number = self.hands[-1][0]
        self.hands = self.hands[:-1]
        self.now = min(number, self.run_again())
        return self.where()

    def answer(self, call):
        number = call[0]
        if number in (0, 1):
            return (self.begin, self.pads)[number](call[2:])
        if number in (2, 3):
            return self.move(call[1], 1 if number == 2 else -1)
        if number in (4, 5):
            return self.tell(number - 4, call[1], call[2])
        if number in (6, 7):
            return self.until_a_stop(1 if number == 6 else -1)
        if number == 9:
            return self.where() + [len(self.spots) - 1]
        if number == 10:
            return self.spots[self.now][4]
        return {8: self.to, 11: self.wrote, 12: self.poke, 13: self.unpoke}[number](*call[1:])
