"""The calls that tell a record its symbols and rules."""

from pairnets.records import PORTS_APART, Rule, is_symbol, rule_key
from pairnets.refusals import FULL, NO_RULE_ROW, NOT_THERE, TAKEN, TOO_HIGH, UNEVEN

SYMBOL_LIMIT = 16
MORE_PORTS_LIMIT = 3
NEW_AGENT_LIMIT = 6
FIRST_OLD = 64
SECOND_OLD = 80
OLD_APART = 16


def add_symbol(record, n):
    if n > MORE_PORTS_LIMIT:
        return [TOO_HIGH]
    number = len(record.more_ports)
    if number >= SYMBOL_LIMIT:
        return [FULL]
    record.more_ports.append(n)
    return [0, number]


def add_rule(record, s, t, row):
    if not is_symbol(record, s) or not is_symbol(record, t):
        return [NOT_THERE]
    if rule_key(s, t) in record.rules:
        return [TAKEN]
    if not is_rule_row(record, s, t, row):
        return [NO_RULE_ROW]
    symbols = new_symbols(row)
    mates = find_mates(wire_places(row))
    if s == t and not is_even(symbols, mates):
        return [UNEVEN]
    record.rules[rule_key(s, t)] = Rule(s, symbols, mates)
    return [0]


def new_symbols(row):
    return row[1:1 + row[0]]


def wire_places(row):
    return row[1 + row[0]:]


def is_rule_row(record, s, t, row):
    if len(row) == 0 or row[0] > NEW_AGENT_LIMIT or len(row) < 1 + row[0]:
        return False
    symbols = new_symbols(row)
    for symbol in symbols:
        if not is_symbol(record, symbol):
            return False
    places = wire_places(row)
    # An odd number of places can each come once and still leave half a wire.
    if len(places) % 2 != 0:
        return False
    return sorted(places) == needed_places(record, s, t, symbols)


# Rising, so that it can be compared with a row's places once these are sorted.
def needed_places(record, s, t, symbols):
    places = []
    for i, symbol in enumerate(symbols):
        for j in range(1 + record.more_ports[symbol]):
            places.append(PORTS_APART * i + j)
    for j in range(1, 1 + record.more_ports[s]):
        places.append(FIRST_OLD + j)
    for j in range(1, 1 + record.more_ports[t]):
        places.append(SECOND_OLD + j)
    return places


def find_mates(places):
    mates = {}
    for k in range(0, len(places), 2):
        mates[places[k]] = places[k + 1]
        mates[places[k + 1]] = places[k]
    return mates


# The orders are built up agent by agent, since most of them fail at their first agents already.
def is_even(symbols, mates):
    if not keeps_old_wires(mates):
        return False
    waiting = [[]]
    while len(waiting) > 0:
        order = waiting.pop()
        if len(order) == len(symbols):
            return True
        for agent in range(len(symbols)):
            if agent not in order and can_follow(symbols, mates, order, agent):
                waiting.append(order + [agent])
    return False


def keeps_old_wires(mates):
    for place in mates:
        mate = mates[place]
        if place >= FIRST_OLD and mate >= FIRST_OLD and mates[exchanged(place)] != exchanged(mate):
            return False
    return True


def can_follow(symbols, mates, order, agent):
    if symbols[len(order)] != symbols[agent]:
        return False
    longer = order + [agent]
    for j in range(PORTS_APART):
        place = PORTS_APART * len(order) + j
        # A wire to an agent that has no place in the order yet is looked at when that one gets it.
        if place in mates and is_placed(mates[place], longer):
            if mates[PORTS_APART * agent + j] != moved(mates[place], longer):
                return False
    return True


def is_placed(place, order):
    return place >= FIRST_OLD or place // PORTS_APART < len(order)


def moved(place, order):
    if place >= FIRST_OLD:
        return exchanged(place)
    return PORTS_APART * order[place // PORTS_APART] + place % PORTS_APART


def exchanged(place):
    if place >= SECOND_OLD:
        return place - OLD_APART
    return place + OLD_APART
