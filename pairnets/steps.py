"""The calls that rewrite a record's net: a step at one pair, or a row of steps."""

from pairnets.records import PORTS_APART, is_whole, rule_key
from pairnets.refusals import NO_ROOM, NOT_THERE, NOT_WHOLE, TOO_HIGH
from pairnets.rules import FIRST_OLD, SECOND_OLD
from pairnets.wiring import AGENT_LIMIT, is_pair, lowest_free

STEP_LIMIT = 200
NO_PAIR = -1


def take_step(record, a):
    if not is_pair(record, a):
        return [NOT_THERE]
    if not is_whole(record):
        return [NOT_WHOLE]
    if not has_room(record, a):
        return [NO_ROOM]
    rewrite_pair(record, a)
    return [0]


def run_steps(record, n):
    if n > STEP_LIMIT:
        return [TOO_HIGH]
    # Once is enough: steps leave a whole net whole.
    if not is_whole(record):
        return [NOT_WHOLE]
    taken = 0
    lowest = lowest_pair(record)
    while taken < n and lowest != NO_PAIR and has_room(record, lowest):
        rewrite_pair(record, lowest)
        taken = taken + 1
        lowest = lowest_pair(record)
    return [0, taken]


def lowest_pair(record):
    for agent in range(AGENT_LIMIT):
        if is_pair(record, agent):
            return agent
    return NO_PAIR


def facing_agent(record, agent):
    return record.joined[PORTS_APART * agent] // PORTS_APART


def rule_at(record, lower):
    return record.rules[rule_key(record.agents[lower], record.agents[facing_agent(record, lower)])]


def has_room(record, lower):
    return len(record.agents) - 2 + len(rule_at(record, lower).symbols) <= AGENT_LIMIT


# The wires are followed from place to place: new ports may have the numbers of old ones, their places never do.
def rewrite_pair(record, lower):
    rule = rule_at(record, lower)
    places = old_places(record, rule, lower)
    onward = inner_joins(record, places)
    ends = outer_ends(record, places)
    take_out_pair(record, lower, places)
    ends.update(bring_new_agents(record, rule))
    for place in ends:
        record.joined[ends[place]] = ends[far_place(rule.mates, onward, place)]


# Each old port's place in the rule, but for the two first ports, which have none.
def old_places(record, rule, lower):
    first = lower
    second = facing_agent(record, lower)
    if record.agents[lower] != rule.first:
        first = second
        second = lower
    places = {}
    for j in range(1, 1 + record.more_ports[record.agents[first]]):
        places[PORTS_APART * first + j] = FIRST_OLD + j
    for j in range(1, 1 + record.more_ports[record.agents[second]]):
        places[PORTS_APART * second + j] = SECOND_OLD + j
    return places


# Where one goes on from an old port's place to another old port's.
def inner_joins(record, places):
    onward = {}
    for port in places:
        other = record.joined[port]
        if other in places:
            onward[places[port]] = places[other]
    return onward


# What stays, by the place of the old port that it was joined to.
def outer_ends(record, places):
    ends = {}
    for port in places:
        other = record.joined[port]
        if other not in places:
            ends[places[port]] = other
    return ends


def take_out_pair(record, lower, places):
    other = facing_agent(record, lower)
    for agent in (lower, other):
        record.agents.pop(agent)
        record.joined.pop(PORTS_APART * agent)
    # What stays keeps an old port as its mate until the wires give it another.
    for port in places:
        record.joined.pop(port)


# The new ports, by their places.
def bring_new_agents(record, rule):
    ports = {}
    for i, symbol in enumerate(rule.symbols):
        agent = lowest_free(record)
        record.agents[agent] = symbol
        for j in range(1 + record.more_ports[symbol]):
            ports[PORTS_APART * i + j] = PORTS_APART * agent + j
    return ports


# Rings of wires are met by nobody who starts at an end, and so they're gone.
def far_place(mates, onward, place):
    far = mates[place]
    while far in onward:
        far = mates[onward[far]]
    return far
