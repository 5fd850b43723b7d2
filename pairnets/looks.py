"""The calls that only look at a record's net."""

from pairnets.records import FIRST_NAME, NAME_COUNT, PORTS_APART, joined_to
from pairnets.refusals import NOT_THERE, TOO_HIGH


def read_agent(record, a):
    if a not in record.agents:
        return [NOT_THERE]
    ports = [joined_to(record, PORTS_APART * a + j) for j in range(PORTS_APART)]
    return [0, record.agents[a]] + ports


def read_name(record, n):
    if n >= NAME_COUNT:
        return [TOO_HIGH]
    return [0, joined_to(record, FIRST_NAME + n)]


def count_agents(record):
    return [0, len(record.agents)]
