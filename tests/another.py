"""The answers worked out another way than the program does.

No list of entries is held, and no output: for each store, tool and input only the moment at which the entry
came to the front, and how many bytes it has left. Order, sizes and outcomes are worked out of these anew.
"""

LIMIT, TOOL, INPUT, STORE, ABSENT = -1, -2, -3, -4, -5
TRUTHS = {1: "there", 2: "send", 3: "failing"}


def worked(tool, given):
    """The status, then the output, written another way than the program's."""
    backwards = [given[-1 - place] for place in range(len(given))]
    ordered = [byte for byte in range(256) for found in given if found == byte]
    total = sum(given)
    twice = [given[place // 2] for place in range(2 * len(given))]
    zeros = len([byte for byte in given if byte == 0])
    outputs = [list(given), backwards, ordered, list(divmod(total, 256)), twice, [zeros] if zeros else []]
    return [1 if tool == 5 and zeros else 0] + outputs[tool]


def length_of(action):
    return len(worked(*action)) - 1


def size_of(action):
    return 1 + len(action[1]) + length_of(action)


def taken_apart(call):
    """The store, the tool, n and the input of a call; None where it has none."""
    number = call[0]
    if number == 0:
        return call[1], None, call[2], None
    if number in (1, 2, 3):
        return None, None, call[1], None
    if number == 4:
        return None, call[1], None, call[3:]
    if number == 5:
        return call[1], call[2], call[3], call[5:]
    if number in (6, 9):
        return call[1], call[2], None, call[4:]
    return (call[1] if number in (7, 10) else None), None, None, None


class Another:
    def __init__(self):
        self.moment = 0
        self.kept = ({}, {})
        self.rooms = [256, 256]
        self.switches = {"there": 1, "send": 1, "failing": 0}
        self.counted = dict.fromkeys(("worked", "near", "far", "sent", "dropped", "spoilt"), 0)

    def in_order(self, store):
        """The actions that the store has entries for, the newest moment first."""
        return sorted(self.kept[store], key=lambda action: -self.kept[store][action][0])

    def load(self, store):
        return sum(size_of(action) for action in self.kept[store])

    def is_whole(self, store, action):
        return action in self.kept[store] and self.kept[store][action][1] == length_of(action)

    def is_cut(self, store, action):
        return action in self.kept[store] and not self.is_whole(store, action)

    def to_front(self, store, action, left):
        self.moment += 1
        self.kept[store][action] = (self.moment, left)

    def squeeze(self, store):
        before = len(self.kept[store])
        while self.load(store) > self.rooms[store]:
            self.kept[store].pop(self.in_order(store)[-1])
        self.counted["dropped"] += before - len(self.kept[store])
        return before - len(self.kept[store])

    def keep(self, store, action):
        if size_of(action) <= self.rooms[store]:
            self.to_front(store, action, length_of(action))
            self.squeeze(store)

    def spoil(self, store, actions):
        for action in actions:
            self.kept[store].pop(action)
        self.counted["spoilt"] += len(actions)
        return len(actions)

    def refusals(self, number, store, tool, n, given):
        """Each thing that may be refused, in the order of looking, with its number."""
        action = (tool, tuple(given or ()))
        yield STORE, store is not None and store not in (0, 1)
        yield TOOL, tool is not None and tool not in range(6)
        yield INPUT, given is not None and (len(given) > 64 or any(byte not in range(256) for byte in given))
        yield LIMIT, number == 0 and n not in range(1025)
        yield LIMIT, number in TRUTHS and n not in (0, 1)
        yield LIMIT, number == 8 and not self.switches["there"]
        if number in (5, 6):
            yield ABSENT, action not in self.kept[store]
        if number == 5:
            yield LIMIT, n not in range(self.kept[store][action][1] + 1)

    def answer(self, call):
        number = call[0]
        store, tool, n, given = taken_apart(call)
        for refusal, refused in self.refusals(number, store, tool, n, given):
            if refused:
                return [refusal]
        action = (tool, tuple(given or ()))
        if number == 0:
            self.rooms[store] = n
            return [self.squeeze(store)]
        if number in TRUTHS:
            self.switches[TRUTHS[number]] = n
        elif number == 4:
            return self.done(action)
        elif number == 5:
            self.kept[store][action] = (self.kept[store][action][0], n)
        elif number == 6:
            self.kept[store].pop(action)
        elif number == 7:
            return [self.spoil(store, [action for action in self.kept[store] if self.is_cut(store, action)])]
        elif number == 8:
            return [self.shared()]
        elif number == 9:
            return self.found(store, action)
        elif number == 10:
            return [0] + [part for action in self.in_order(store) for part in self.row(store, action)]
        else:
            return [0] + list(self.counted.values()) + [self.load(0)]
        return [0]

    def done(self, action):
        place = 0
        if self.is_whole(0, action):
            place = 1
        elif self.switches["there"] and self.is_whole(1, action):
            place = 2
        self.counted[("worked", "near", "far")[place]] += 1
        for store in (0, 1):
            # What is cut is come upon on the way, so far as the way goes.
            if place != 1 and (store == 0 or self.switches["there"]) and self.is_cut(store, action):
                self.spoil(store, [action])
        told = worked(*action)
        if place == 1:
            self.to_front(0, action, length_of(action))
        elif place == 2:
            self.keep(0, action)
        elif told[0] == 0 or self.switches["failing"]:
            self.keep(0, action)
            if self.switches["there"] and self.switches["send"]:
                self.keep(1, action)
                self.counted["sent"] += 1
        return [place] + told

    def shared(self):
        before = self.counted["sent"]
        for action in self.in_order(0)[::-1]:
            if self.is_whole(0, action) and action not in self.kept[1]:
                self.keep(1, action)
                self.counted["sent"] += 1
        return self.counted["sent"] - before

    def found(self, store, action):
        if action not in self.kept[store]:
            return [0]
        return [2 if self.is_cut(store, action) else 1, self.in_order(store).index(action)]

    def row(self, store, action):
        return [action[0], worked(*action)[0], length_of(action), self.kept[store][action][1], len(action[1])]


def another_way(calls):
    """What each call of a line must answer."""
    other = Another()
    return [other.answer(call) for call in calls]
