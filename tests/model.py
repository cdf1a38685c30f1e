"""The document's words once more, as slow and plain as can be, to hold the program against."""


def loaded(row):
    state = {"a": 0, "x": 0, "place": 0, "z": 1, "c": 0, "wrote": None}
    state["bytes"] = {place: 0 for place in range(128)}
    state["bytes"].update(enumerate(row))
    return state


def into(state, name, value):
    state[name] = value % 256
    state["z"] = 1 if state[name] == 0 else 0


def instruction(state):
    """Does one and answers its number."""
    cells, place = state["bytes"], state["place"]
    which, n = cells[place] % 16, cells[(place + 1) % 128]
    direct, further = n % 128, (n + state["x"]) % 128
    a, byte = state["a"], cells[direct]
    state["wrote"] = {3: direct, 5: further}.get(which)
    if state["wrote"] is not None:
        cells[state["wrote"]] = a
    elif which in (6, 7):
        into(state, "x", n if which == 6 else state["x"] + n)
    elif which in (8, 9):
        state["c"] = int(a + byte > 255 if which == 8 else byte > a)
        into(state, "a", a + byte if which == 8 else a - byte)
    elif which in (1, 2, 4, 10, 11):
        into(state, "a", {1: n, 2: byte, 4: cells[further], 10: a & byte, 11: a ^ byte}[which])
    jumps = {12: True, 13: state["z"] == 1, 14: state["z"] == 0, 15: state["c"] == 1}.get(which, False)
    state["place"] = n % 128 if jumps else (place + 2) % 128
    return which


def whole_run(row, pads):
    """Ahead of each instruction, then at the end: the frame, how many it has done, the place, what was written."""
    state = loaded(row)
    spots = []
    for frame, pad in enumerate(pads):
        state["bytes"][127] = pad
        done, rested = 0, False
        while done < 300 and not rested:
            spots.append((frame, done, state["place"], state["wrote"]))
            rested = instruction(state) == 0
            done += 1
    return spots + [(len(pads), 0, state["place"], state["wrote"])]


class Model:
    def __init__(self):
        self.begin([])

    def begin(self, row):
        if len(row) > 128 or [byte for byte in row if byte not in range(256)]:
            return [-1]
        self.row, self.frames, self.places, self.now = row, [], ([], []), 0
        self.spots = whole_run(row, [])
        return [0]

    def pads(self, row):
        if [byte for byte in row if byte not in range(256)]:
            return [-1]
        if len(self.frames + row) > 20:
            return [-5]
        self.frames = self.frames + row
        self.spots = whole_run(self.row, self.frames)
        return [len(self.frames), len(self.spots) - 1]

    def there(self, number):
        return number in range(len(self.spots))

    def where(self):
        return [self.now, *self.spots[self.now][:3]]

    def move(self, n, by):
        if n < 0:
            return [-1]
        many = 0
        while many < n and self.there(self.now + by):
            self.now += by
            many += 1
        return [many] + self.where()

    def tell(self, which, place, on):
        if place not in range(128) or on not in range(2):
            return [-1]
        places = self.places[which]
        if on and place not in places:
            places.append(place)
        if not on and place in places:
            places.remove(place)
        return [len(places)]

    def reason(self):
        frame, done, place, wrote = self.spots[self.now]
        if frame < len(self.frames) and place in self.places[0]:
            return 1
        return 2 if wrote in self.places[1] else 0

    def go(self):
        while self.there(self.now + 1):
            self.now += 1
            if self.reason():
                break
        return [self.reason()] + self.where()

    def answer(self, call):
        number = call[0]
        if number in (0, 1):
            return (self.begin, self.pads)[number](call[2:])
        if number in (2, 3):
            return self.move(call[1], 1 if number == 2 else -1)
        if number in (4, 5):
            return self.tell(number - 4, call[1], call[2])
        return self.go()
