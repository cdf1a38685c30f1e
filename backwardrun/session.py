"""What the calls are about: one run, where one is in it, its stops and watches, what was changed by hand."""

from backwardrun.moments import moments_of_run

NO_REASON = 0
AT_A_STOP = 1
BEHIND_A_WATCHED_WRITE = 2


# One run with all of its moments, so that going back is as plain as going on.
class Session:
    def __init__(self):
        self.start_over([])

    def start_over(self, loaded):
        self.loaded = loaded
        self.frame_pads = []
        self.changes = []
        self.stop_places = {}
        self.watch_places = {}
        self.now = 0
        self.find_moments()

    def find_moments(self):
        self.moments = moments_of_run(self.loaded, self.frame_pads, self.changes)

    def add_pads(self, more):
        self.frame_pads = self.frame_pads + more
        self.find_moments()

    def change_by_hand(self, place, byte):
        self.changes.append((self.now, place, byte))
        self.find_moments()

    def undo_last_change(self):
        change = self.changes.pop()
        self.find_moments()
        self.now = min(change[0], self.end_number())

    # The number of the run's end, which is how many instructions the run has.
    def end_number(self):
        return len(self.moments) - 1

    def moment_now(self):
        return self.moments[self.now]

    def where_now(self):
        moment = self.moment_now()
        return [self.now, moment.frame, moment.done, moment.place]

    def reason_at(self, number):
        moment = self.moments[number]
        # At the end no instruction stands at the machine's place.
        if number < self.end_number() and moment.place in self.stop_places:
            return AT_A_STOP
        if moment.written in self.watch_places:
            return BEHIND_A_WATCHED_WRITE
        return NO_REASON

    # The number of the last instruction ahead of now that put a byte at the place, or None.
    def last_write(self, place):
        for number in range(self.now - 1, -1, -1):
            # What an instruction wrote is known at the moment behind it.
            if self.moments[number + 1].written == place:
                return number
        return None
