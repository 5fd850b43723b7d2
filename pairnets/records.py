"""What a record keeps, and the questions that several calls ask of it."""

PORTS_APART = 4
FIRST_NAME = 256
NAME_COUNT = 16
# Told in place of a point where there is none.
NOTHING = 999


class Record:
    def __init__(self):
        # How many ports each symbol has besides its first, in the order of the symbols.
        self.more_ports = []
        # By rule_key, so that the order in which the two symbols are told doesn't matter.
        self.rules = {}
        # Each agent's symbol, by the agent's number.
        self.agents = {}
        # Both ways: whatever stands here as a key stands as the value of its value.
        self.joined = {}


class Rule:
    def __init__(self, first, symbols, mates):
        # The symbol whose agent the places from 64 on stand for; rule_key has lost it.
        self.first = first
        self.symbols = symbols
        # Each place's other end of the wire, both ways.
        self.mates = mates


def rule_key(s, t):
    return (min(s, t), max(s, t))


def is_symbol(record, s):
    return s < len(record.more_ports)


# A point is a port or a name, told by its number.
def is_point(record, point):
    if point >= FIRST_NAME:
        return point < FIRST_NAME + NAME_COUNT
    agent = point // PORTS_APART
    if agent not in record.agents:
        return False
    return point % PORTS_APART <= record.more_ports[record.agents[agent]]


def joined_to(record, point):
    return record.joined.get(point, NOTHING)


def is_whole(record):
    for agent in record.agents:
        for j in range(1 + record.more_ports[record.agents[agent]]):
            if PORTS_APART * agent + j not in record.joined:
                return False
    return True
