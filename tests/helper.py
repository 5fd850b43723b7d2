"""Builds calls, and takes the answers apart again."""

from pairnets.nets import answers

HIGHEST = 4294967295


def make(o):
    return [1, o]


def symbol(o, n):
    return [2, o, n]


def rule(o, s, t, row):
    return [3, o, s, t, len(row)] + list(row)


def agent(o, s):
    return [4, o, s]


def join(o, x, y):
    return [5, o, x, y]


def part(o, x):
    return [6, o, x]


def pairs(o):
    return [7, o]


def port(a, j):
    return 4 * a + j


def name(n):
    return 256 + n


def one_behind_another(calls):
    line = []
    for call in calls:
        line.extend(call)
    return line


def taken_apart(told):
    found = []
    position = 0
    while position < len(told):
        size = told[position]
        found.append(told[position + 1:position + 1 + size])
        if len(found[-1]) != size or size == 0:
            raise AssertionError(f"no list of answers: {told}")
        position += 1 + size
    return found


def ask(calls):
    """One answer for each call."""
    found = taken_apart(answers(one_behind_another(calls)))
    if len(found) != len(calls):
        raise AssertionError(f"{len(found)} answers to {len(calls)} calls")
    return found


def last(calls):
    return ask(calls)[-1]


def four_symbols(o):
    """A record whose symbols 0 to 3 have as many ports besides the first as their number says."""
    return [make(o)] + [symbol(o, n) for n in range(4)]


def needed_places(ports):
    """The places of a rule's row: ports has the s, the t and the new agents' numbers of more ports."""
    places = [4 * i + j for i, n in enumerate(ports[2:]) for j in range(n + 1)]
    places += [64 + j for j in range(1, ports[0] + 1)]
    places += [80 + j for j in range(1, ports[1] + 1)]
    return places


def plain_row(s, t, symbols):
    """A row on four_symbols: each place is wired to its neighbour in the rising order."""
    return [len(symbols)] + list(symbols) + needed_places([s, t] + list(symbols))
