"""Lines of calls written as tuples, and their answers taken apart again."""

from actioncaches.stores import answers

LIMIT, TOOL, INPUT, STORE, ABSENT = -1, -2, -3, -4, -5
NEAR, FAR = 0, 1
HUGE = 10 ** 18


def room(store, n):
    return [0, store, n]


def there(b):
    return [1, b]


def send(b):
    return [2, b]


def failing(b):
    return [3, b]


def do(tool, given):
    return [4, tool, len(given)] + list(given)


def cut(store, tool, n, given):
    return [5, store, tool, n, len(given)] + list(given)


def forget(store, tool, given):
    return [6, store, tool, len(given)] + list(given)


def clean(store):
    return [7, store]


def share():
    return [8]


def has(store, tool, given):
    return [9, store, tool, len(given)] + list(given)


def listing(store):
    return [10, store]


def counts():
    return [11]


def missing(store, tool, given):
    """A cut that's always refused, so that it changes nothing: ABSENT if there's no entry, else LIMIT."""
    return cut(store, tool, -1, given)


def line(calls):
    return [number for call in calls for number in call]


def apart(told):
    found = []
    place = 0
    while place < len(told):
        found.append(told[place + 1:place + 1 + told[place]])
        place += 1 + told[place]
    if place != len(told):
        raise AssertionError("the last answer is shorter than its count")
    return found


def run(*calls):
    found = apart(answers(line(calls)))
    if len(found) != len(calls):
        raise AssertionError("not one answer for each call")
    return found


def last(*calls):
    return run(*calls)[-1]


def order(store, actions):
    """Calls that ask for the place of each action's entry."""
    return [has(store, tool, given) for tool, given in actions]


# What is wrong with a store, a tool and an input for the calls that look at all three, in the order of looking.
WRONG_STORES = (-HUGE, -1, 2, 3, HUGE)
WRONG_TOOLS = (-HUGE, -1, 6, 7, HUGE)
WRONG_INPUTS = ([1] * 65, [1] * 100, [-1], [256], [1, -HUGE], [HUGE, 1], [0] * 63 + [256], [255] * 64 + [0])


def wrong_looks(call):
    """Each wrong calling of forget or has, with what it must answer."""
    found = []
    for store in WRONG_STORES:
        found += [(call(store, tool, given), STORE) for tool in (0, 5, -1, 6) for given in ([1], [256], [1] * 65)]
    for tool in WRONG_TOOLS:
        found += [(call(store, tool, given), TOOL) for store in (NEAR, FAR) for given in ([1], [-1], [1] * 65)]
    for given in WRONG_INPUTS:
        found += [(call(store, tool, given), INPUT) for store in (NEAR, FAR) for tool in (0, 5)]
    return found
