"""The calls that set up a record's net and tell its pairs."""

from pairnets.records import FIRST_NAME, PORTS_APART, is_point, is_symbol, rule_key
from pairnets.refusals import FULL, NOT_JOINED, NOT_THERE, TAKEN

AGENT_LIMIT = 64


def add_agent(record, s):
    if not is_symbol(record, s):
        return [NOT_THERE]
    if len(record.agents) >= AGENT_LIMIT:
        return [FULL]
    number = lowest_free(record)
    record.agents[number] = s
    return [0, number]


def lowest_free(record):
    number = 0
    while number in record.agents:
        number = number + 1
    return number


def join_points(record, x, y):
    if x == y or not is_point(record, x) or not is_point(record, y):
        return [NOT_THERE]
    if x in record.joined or y in record.joined:
        return [TAKEN]
    record.joined[x] = y
    record.joined[y] = x
    return [0]


def part_point(record, x):
    if not is_point(record, x):
        return [NOT_THERE]
    if x not in record.joined:
        return [NOT_JOINED]
    other = record.joined.pop(x)
    record.joined.pop(other)
    return [0, other]


def tell_pairs(record):
    return [0] + [agent for agent in sorted(record.agents) if is_pair(record, agent)]


# A pair is told by its lower agent: the higher one of the two is no pair.
def is_pair(record, agent):
    # Asked first, since what would be the first port of agent 64 is a name.
    if agent not in record.agents:
        return False
    first_port = PORTS_APART * agent
    if first_port not in record.joined:
        return False
    facing = record.joined[first_port]
    if facing >= FIRST_NAME or facing % PORTS_APART != 0:
        return False
    other = facing // PORTS_APART
    if other < agent:
        return False
    return rule_key(record.agents[agent], record.agents[other]) in record.rules
