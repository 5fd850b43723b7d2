"""Builds calls, and takes the answers apart again."""

from pairnets.nets import answers

HIGHEST = 4294967295
NOTHING = 999
LONGEST = 200


def make(o):
    return [1, o]


def symbol(o, n):
    return [2, o, n]


def rule(o, s, t, row):
    return [3, o, s, t, len(row)] + list(row)


def agent(o, s):
    return [4, o, s]


def join(o, x, y):
    return [5, o, x, y]


def part(o, x):
    return [6, o, x]


def pairs(o):
    return [7, o]


def step(o, a):
    return [8, o, a]


def run(o, n):
    return [9, o, n]


def read(o, a):
    return [10, o, a]


def read_name(o, n):
    return [11, o, n]


def count(o):
    return [12, o]


def same():
    return [13]


def port(a, j):
    return 4 * a + j


def name(n):
    return 256 + n


def one_behind_another(calls):
    line = []
    for call in calls:
        line.extend(call)
    return line


def taken_apart(told):
    found = []
    position = 0
    while position < len(told):
        size = told[position]
        found.append(told[position + 1:position + 1 + size])
        if len(found[-1]) != size or size == 0:
            raise AssertionError(f"no list of answers: {told}")
        position += 1 + size
    return found


def ask(calls):
    """One answer for each call."""
    if len(calls) > LONGEST:
        raise AssertionError(f"{len(calls)} calls are no line")
    found = taken_apart(answers(one_behind_another(calls)))
    if len(found) != len(calls):
        raise AssertionError(f"{len(found)} answers to {len(calls)} calls")
    return found


def last(calls):
    return ask(calls)[-1]


def ask_behind(line, looks):
    """The answers to calls that only look, behind a line; where all are too many, in several lines."""
    room = LONGEST - len(line)
    found = []
    for start in range(0, len(looks), room):
        found += ask(line + looks[start:start + room])[len(line):]
    return found


def look(line, o=0):
    """The whole net: each agent's symbol, and every joining once, its lower end first."""
    reads = ask_behind(line, [read(o, a) for a in range(65)] + [read_name(o, n) for n in range(16)] + [count(o)])
    agents = {}
    joined = {}
    for a, told in enumerate(reads[:65]):
        if told != [-4]:
            agents[a] = told[1]
            joined.update({port(a, j): told[2 + j] for j in range(4) if told[2 + j] != NOTHING})
            if told[0] != 0 or len(told) != 6:
                raise AssertionError(f"agent {a}: {told}")
    for n, told in enumerate(reads[65:81]):
        if told[0] != 0 or len(told) != 2:
            raise AssertionError(f"name {n}: {told}")
        if told[1] != NOTHING:
            joined[name(n)] = told[1]
    if any(joined.get(joined[x]) != x or joined[x] == x for x in joined):
        raise AssertionError(f"joined one way only: {joined}")
    if reads[81] != [0, len(agents)]:
        raise AssertionError(f"{reads[81]} agents: {agents}")
    return agents, sorted((x, y) for x, y in joined.items() if x < y)


def both_ways(joins):
    return dict(list(joins) + [(y, x) for x, y in joins])


def code_from(start, agents, joined):
    """A part of a net, told in the order in which one comes to its agents from one of them."""
    order = [start]
    code = []
    for a in order:
        code.append((agents[a], 0))
        for j in range(4):
            x = joined.get(port(a, j), NOTHING)
            if x < 256 and x // 4 not in order:
                order.append(x // 4)
            code.append((order.index(x // 4), x % 4) if x < 256 else (x, 0))
    return code, order


def canonical(found):
    """What look found, but told so that the agents' numbers don't matter."""
    agents, joins = found
    joined = both_ways(joins)
    parts = []
    met = set()
    for a in agents:
        if a not in met:
            order = code_from(a, agents, joined)[1]
            met.update(order)
            parts.append(min(code_from(other, agents, joined)[0] for other in order))
    return sorted(parts), [(x, y) for x, y in joins if x >= 256]


def net(o, symbols, joins):
    """Agents of these symbols, and these joinings."""
    return [agent(o, s) for s in symbols] + [join(o, x, y) for x, y in joins]


def four_symbols(o):
    """A record whose symbols 0 to 3 have as many ports besides the first as their number says."""
    return [make(o)] + [symbol(o, n) for n in range(4)]


def needed_places(ports):
    """The places of a rule's row: ports has the s, the t and the new agents' numbers of more ports."""
    places = [4 * i + j for i, n in enumerate(ports[2:]) for j in range(n + 1)]
    places += [64 + j for j in range(1, ports[0] + 1)]
    places += [80 + j for j in range(1, ports[1] + 1)]
    return places


def plain_row(s, t, symbols):
    """A row on four_symbols: each place is wired to its neighbour in the rising order."""
    return [len(symbols)] + list(symbols) + needed_places([s, t] + list(symbols))


def draw_row(source, ports, s, t, most):
    """A rule's row with at most that many new agents; ports has each symbol's number of more ports.

    Without any new agent a row for an odd number of old ports couldn't be drawn."""
    if most < 1:
        raise AssertionError("some rows need a new agent")
    while True:
        symbols = [source.randrange(len(ports)) for i in range(source.randrange(most + 1))]
        places = needed_places([ports[s], ports[t]] + [ports[symbol] for symbol in symbols])
        if len(places) % 2 == 0:
            source.shuffle(places)
            return [len(symbols)] + symbols + places


def draw_even_row(source, ports, s, most):
    """A row for two of one symbol: the new agents stand in twos, and every wire has its twin."""
    half = [source.randrange(len(ports)) for i in range(source.randrange(most // 2 + 1))]
    symbols = half + half

    def twin(place):
        if place >= 64:
            return place + 16 if place < 80 else place - 16
        return place + 4 * len(half) if place < 4 * len(half) else place - 4 * len(half)

    free = needed_places([ports[s], ports[s]] + [ports[symbol] for symbol in symbols])
    row = [len(symbols)] + symbols
    while free:
        x = free[0]
        y = source.choice(free[1:])
        wires = [x, y] if y == twin(x) else [x, y, twin(x), twin(y)]
        row += wires
        free = [place for place in free if place not in wires]
    return row


def draw_rules(source, o, ports, most):
    """A rule for almost every two symbols."""
    calls = []
    for s in range(len(ports)):
        for t in range(s, len(ports)):
            first, second = source.sample((s, t), 2)
            if s == t:
                calls.append(rule(o, s, s, draw_even_row(source, ports, s, most)))
            elif source.randrange(8):
                calls.append(rule(o, first, second, draw_row(source, ports, first, second, most)))
    return calls


def draw_net(source, ports, agents):
    """A whole net in which many agents face each other: its symbols and its joinings."""
    symbols = [source.randrange(len(ports)) for a in range(agents)]
    order = source.sample(range(agents), agents)
    facing = agents // 2 - source.randrange(2)
    joins = [(port(order[2 * k], 0), port(order[2 * k + 1], 0)) for k in range(facing)]
    rest = [port(a, 0) for a in order[2 * facing:]]
    rest += [port(a, j) for a in range(agents) for j in range(1, ports[symbols[a]] + 1)]
    rest += [name(n) for n in range(source.randrange(10))]
    if len(rest) % 2:
        rest.append(name(15))
    source.shuffle(rest)
    return symbols, joins + list(zip(rest[::2], rest[1::2]))
