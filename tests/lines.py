"""Lines of calls written as tuples, and their answers taken apart again."""

from actioncaches.stores import answers

LIMIT, TOOL, INPUT, STORE, ABSENT = -1, -2, -3, -4, -5
NEAR, FAR = 0, 1
HUGE = 10 ** 18


def room(store, n):
    return [0, store, n]


def there(b):
    return [1, b]


def send(b):
    return [2, b]


def failing(b):
    return [3, b]


def do(tool, given):
    return [4, tool, len(given)] + list(given)


def cut(store, tool, n, given):
    return [5, store, tool, n, len(given)] + list(given)


def counts():
    return [11]


def missing(store, tool, given):
    """A cut that's always refused, so that it changes nothing: ABSENT if there's no entry, else LIMIT."""
    return cut(store, tool, -1, given)


def line(calls):
    return [number for call in calls for number in call]


def apart(told):
    found = []
    place = 0
    while place < len(told):
        found.append(told[place + 1:place + 1 + told[place]])
        place += 1 + told[place]
    if place != len(told):
        raise AssertionError("the last answer is shorter than its count")
    return found


def run(*calls):
    found = apart(answers(line(calls)))
    if len(found) != len(calls):
        raise AssertionError("not one answer for each call")
    return found


def last(*calls):
    return run(*calls)[-1]
