"""Two stores of outcomes, a near one and a far one, and the calls on them."""

LIMIT = -1
TOOL = -2
INPUT = -3
STORE = -4
ABSENT = -5

ROOM_CALL = 0
THERE_CALL = 1
SEND_CALL = 2
FAILING_CALL = 3
DO_CALL = 4
CUT_CALL = 5
FORGET_CALL = 6
CLEAN_CALL = 7
SHARE_CALL = 8
HAS_CALL = 9
LIST_CALL = 10

# For each call's number: how many whole numbers follow it, and how many rows behind these.
SHAPES = {0: (2, 0), 1: (1, 0), 2: (1, 0), 3: (1, 0), 4: (1, 1), 5: (3, 1),
          6: (2, 1), 7: (1, 0), 8: (0, 0), 9: (2, 1), 10: (1, 0), 11: (0, 0)}

LAST_TOOL = 5
MOST_BYTES = 64
LAST_BYTE = 255
FIRST_ROOM = 256
MOST_ROOM = 1024

WORKED = 0
FROM_NEAR = 1
FROM_FAR = 2

HAS_NONE = 0
HAS_WHOLE = 1
HAS_CUT = 2

# What a look answers when nothing is refused: no refusal has this number.
FINE = 0
# The place of an entry that a store doesn't have.
NOWHERE = -1


def outcome(tool, given):
    """The status and the output of a tool that is worked on an input."""
    if tool == 0:
        return (0, list(given))
    if tool == 1:
        return (0, list(reversed(given)))
    if tool == 2:
        return (0, sorted(given))
    if tool == 3:
        total = sum(given)
        return (0, [total // 256, total % 256])
    if tool == 4:
        return (0, doubled(given))
    return zeros_outcome(given)


def doubled(given):
    output = []
    for byte in given:
        output.append(byte)
        output.append(byte)
    return output


def zeros_outcome(given):
    zeros = given.count(0)
    if zeros == 0:
        return (0, [])
    return (1, [zeros])


def look_at_tool(tool):
    return FINE if 0 <= tool <= LAST_TOOL else TOOL


def look_at_input(given):
    if len(given) > MOST_BYTES:
        return INPUT
    for number in given:
        if number < 0 or number > LAST_BYTE:
            return INPUT
    return FINE


def look_at_store(number):
    return FINE if number == 0 or number == 1 else STORE


def look_at_truth(number):
    return FINE if number == 0 or number == 1 else LIMIT


def look_at_action(tool, given):
    refusal = look_at_tool(tool)
    if refusal != FINE:
        return refusal
    return look_at_input(given)


def look_at_stored_action(number, tool, given):
    refusal = look_at_store(number)
    if refusal != FINE:
        return refusal
    return look_at_action(tool, given)


def look_at_call(call, numbers, row):
    """The refusal of what is looked at ahead of all else that the call does, or FINE."""
    if call == ROOM_CALL or call == CLEAN_CALL or call == LIST_CALL:
        return look_at_store(numbers[0])
    if call == THERE_CALL or call == SEND_CALL or call == FAILING_CALL:
        return look_at_truth(numbers[0])
    if call == DO_CALL:
        return look_at_action(numbers[0], row)
    if call == CUT_CALL or call == FORGET_CALL or call == HAS_CALL:
        return look_at_stored_action(numbers[0], numbers[1], row)
    return FINE


class Entry:
    """A kept outcome; it is cut if it holds fewer bytes than its length tells."""

    def __init__(self, tool, given, status, output):
        self.tool = tool
        self.given = list(given)
        self.status = status
        self.length = len(output)
        self.held = list(output)

    def is_for(self, tool, given):
        return self.tool == tool and self.given == given

    def is_whole(self):
        return len(self.held) == self.length

    def size(self):
        # The length counts, not the bytes held: a cut entry takes as much room as before.
        return 1 + len(self.given) + self.length

    def cut_to(self, n):
        self.held = self.held[:n]

    def listed(self):
        return [self.tool, self.status, self.length, len(self.held), len(self.given)]


class Store:
    """Entries in order, from the front; what there's no room for is dropped from the end."""

    def __init__(self):
        self.room = FIRST_ROOM
        self.entries = []

    def load(self):
        return sum([entry.size() for entry in self.entries])

    def place_of(self, tool, given):
        for place, entry in enumerate(self.entries):
            if entry.is_for(tool, given):
                return place
        return NOWHERE

    def take_out(self, place):
        return self.entries.pop(place)

    def take_out_cut(self):
        """Take out all entries that are cut; how many these are."""
        whole = [entry for entry in self.entries if entry.is_whole()]
        taken = len(self.entries) - len(whole)
        self.entries = whole
        return taken

    def move_to_front(self, place):
        self.entries.insert(0, self.take_out(place))

    def drop_over_room(self):
        """Drop the last entries until the load fits; how many these are."""
        load = self.load()
        dropped = 0
        while load > self.room:
            load -= self.entries.pop().size()
            dropped += 1
        return dropped

    def keep(self, entry):
        """Keep an entry, if it fits at all; how many others are dropped for it."""
        if entry.size() > self.room:
            return 0
        self.entries.insert(0, entry)
        return self.drop_over_room()


class Session:
    """One object of a line: two stores, three switches, and what is counted.

    A method is called only when nothing was refused by look_at_call.
    """

    def __init__(self):
        self.near = Store()
        self.far = Store()
        self.far_is_there = True
        self.sends = True
        self.keeps_failing = False
        self.worked = 0
        self.from_near = 0
        self.from_far = 0
        self.sent = 0
        self.dropped = 0
        self.spoilt = 0

    def store_of(self, number):
        return self.near if number == 0 else self.far

    def set_room(self, number, n):
        if n < 0 or n > MOST_ROOM:
            return [LIMIT]
        store = self.store_of(number)
        store.room = n
        dropped = store.drop_over_room()
        self.dropped += dropped
        return [dropped]

    def set_there(self, b):
        self.far_is_there = b == 1
        return [0]

    def set_send(self, b):
        self.sends = b == 1
        return [0]

    def set_failing(self, b):
        self.keeps_failing = b == 1
        return [0]

    def do(self, tool, given):
        place = self.whole_place(self.near, tool, given)
        if place != NOWHERE:
            return self.answer_from_near(place)
        if self.far_is_there:
            place = self.whole_place(self.far, tool, given)
            if place != NOWHERE:
                return self.answer_from_far(place)
        return self.work(tool, given)

    def whole_place(self, store, tool, given):
        """Where the store has a whole entry; a cut one is taken out."""
        place = store.place_of(tool, given)
        if place == NOWHERE or store.entries[place].is_whole():
            return place
        store.take_out(place)
        self.spoilt += 1
        return NOWHERE

    def answer_from_near(self, place):
        entry = self.near.entries[place]
        self.near.move_to_front(place)
        self.from_near += 1
        return [FROM_NEAR, entry.status] + entry.held

    def answer_from_far(self, place):
        entry = self.far.entries[place]
        self.keep_in(self.near, entry.tool, entry.given, entry.status, entry.held)
        self.from_far += 1
        return [FROM_FAR, entry.status] + entry.held

    def work(self, tool, given):
        worked_out = outcome(tool, given)
        status = worked_out[0]
        output = worked_out[1]
        self.worked += 1
        if status == 0 or self.keeps_failing:
            self.keep_in(self.near, tool, given, status, output)
            if self.far_is_there and self.sends:
                self.keep_in(self.far, tool, given, status, output)
                self.sent += 1
        return [WORKED, status] + output

    def keep_in(self, store, tool, given, status, output):
        # Each store has an entry of its own, so that one that is cut leaves the other whole.
        self.dropped += store.keep(Entry(tool, given, status, output))

    def cut(self, number, tool, n, given):
        store = self.store_of(number)
        place = store.place_of(tool, given)
        if place == NOWHERE:
            return [ABSENT]
        entry = store.entries[place]
        if n < 0 or n > len(entry.held):
            return [LIMIT]
        entry.cut_to(n)
        return [0]

    def forget(self, number, tool, given):
        store = self.store_of(number)
        place = store.place_of(tool, given)
        if place == NOWHERE:
            return [ABSENT]
        store.take_out(place)
        return [0]

    def clean(self, number):
        taken = self.store_of(number).take_out_cut()
        self.spoilt += taken
        return [taken]

    def share(self):
        if not self.far_is_there:
            return [LIMIT]
        sent = 0
        for entry in reversed(self.near.entries):
            # Asked anew for each: an entry kept before this one may have dropped the far store's own.
            if entry.is_whole() and self.far.place_of(entry.tool, entry.given) == NOWHERE:
                self.keep_in(self.far, entry.tool, entry.given, entry.status, entry.held)
                sent += 1
        self.sent += sent
        return [sent]

    def has(self, number, tool, given):
        store = self.store_of(number)
        place = store.place_of(tool, given)
        if place == NOWHERE:
            return [HAS_NONE]
        return [HAS_WHOLE if store.entries[place].is_whole() else HAS_CUT, place]

    def list_entries(self, number):
        told = [0]
        for entry in self.store_of(number).entries:
            told.extend(entry.listed())
        return told

    def counts(self):
        answered = [self.worked, self.from_near, self.from_far]
        happened = [self.sent, self.dropped, self.spoilt]
        return [0] + answered + happened + [self.near.load()]


def answer_call(session, call, numbers, row):
    refusal = look_at_call(call, numbers, row)
    if refusal != FINE:
        return [refusal]
    if call == ROOM_CALL:
        return session.set_room(numbers[0], numbers[1])
    if call == THERE_CALL:
        return session.set_there(numbers[0])
    if call == SEND_CALL:
        return session.set_send(numbers[0])
    if call == FAILING_CALL:
        return session.set_failing(numbers[0])
    if call == DO_CALL:
        return session.do(numbers[0], row)
    if call == CUT_CALL:
        return session.cut(numbers[0], numbers[1], numbers[2], row)
    if call == FORGET_CALL:
        return session.forget(numbers[0], numbers[1], row)
    if call == CLEAN_CALL:
        return session.clean(numbers[0])
    if call == SHARE_CALL:
        return session.share()
    if call == HAS_CALL:
        return session.has(numbers[0], numbers[1], row)
    if call == LIST_CALL:
        return session.list_entries(numbers[0])
    return session.counts()


def answers(calls):
    """The answers to a line of calls on one new object, each behind how many numbers it has."""
    session = Session()
    told = []
    place = 0
    while place < len(calls):
        call = calls[place]
        shape = SHAPES[call]
        row_place = place + 1 + shape[0]
        numbers = calls[place + 1:row_place]
        row = []
        place = row_place
        if shape[1] == 1:
            place = row_place + 1 + calls[row_place]
            row = calls[row_place + 1:place]
        answer = answer_call(session, call, numbers, row)
        told.append(len(answer))
        told.extend(answer)
    return told
