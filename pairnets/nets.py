"""The way in: a line of calls, one behind another, and their answers."""

from pairnets.looks import count_agents, read_agent, read_name
from pairnets.records import Record
from pairnets.refusals import NO_RECORD, TOO_HIGH
from pairnets.rules import add_rule, add_symbol
from pairnets.sameness import tell_same
from pairnets.steps import run_steps, take_step
from pairnets.wiring import add_agent, join_points, part_point, tell_pairs

OPEN_CALL = 1
SYMBOL_CALL = 2
RULE_CALL = 3
AGENT_CALL = 4
JOIN_CALL = 5
PAIRS_CALL = 7
STEP_CALL = 8
RUN_CALL = 9
READ_CALL = 10
NAME_CALL = 11
COUNT_CALL = 12
SAME_CALL = 13

# How many whole numbers stand behind each call's number, ahead of its row if it has one.
NUMBER_COUNTS = {1: 1, 2: 2, 3: 3, 4: 2, 5: 3, 6: 2, 7: 1, 8: 2, 9: 2, 10: 2, 11: 2, 12: 1, 13: 0}

HIGHEST_RECORD = 1


def answers(calls):
    records = {}
    told = []
    position = 0
    while position < len(calls):
        behind = call_end(calls, position)
        answer = answer_call(records, calls[position:behind])
        told.append(len(answer))
        told.extend(answer)
        position = behind
    return told


def call_end(calls, position):
    behind = position + 1 + NUMBER_COUNTS[calls[position]]
    if calls[position] == RULE_CALL:
        behind = behind + 1 + calls[behind]
    return behind


def answer_call(records, call):
    if call[0] == OPEN_CALL:
        return make_record(records, call[1])
    if call[0] == SAME_CALL:
        return compare_records(records)
    if call[1] not in records:
        return [NO_RECORD]
    if call[0] in (STEP_CALL, RUN_CALL):
        return rewrite_record(records[call[1]], call)
    if call[0] in (PAIRS_CALL, READ_CALL, NAME_CALL, COUNT_CALL):
        return look_at_record(records[call[1]], call)
    return build_record(records[call[1]], call)


def make_record(records, o):
    if o > HIGHEST_RECORD:
        return [TOO_HIGH]
    records[o] = Record()
    return [0]


def compare_records(records):
    for o in range(HIGHEST_RECORD + 1):
        if o not in records:
            return [NO_RECORD]
    return tell_same(records[0], records[1])


def build_record(record, call):
    number = call[0]
    if number == SYMBOL_CALL:
        return add_symbol(record, call[2])
    if number == RULE_CALL:
        return add_rule(record, call[2], call[3], call[5:])
    if number == AGENT_CALL:
        return add_agent(record, call[2])
    if number == JOIN_CALL:
        return join_points(record, call[2], call[3])
    return part_point(record, call[2])


def rewrite_record(record, call):
    if call[0] == STEP_CALL:
        return take_step(record, call[2])
    return run_steps(record, call[2])


def look_at_record(record, call):
    number = call[0]
    if number == PAIRS_CALL:
        return tell_pairs(record)
    if number == READ_CALL:
        return read_agent(record, call[2])
    if number == NAME_CALL:
        return read_name(record, call[2])
    return count_agents(record)
