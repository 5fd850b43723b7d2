"""The way in: a line of calls, one behind another, and their answers."""

from pairnets.records import Record
from pairnets.refusals import NO_RECORD, TOO_HIGH
from pairnets.rules import add_rule, add_symbol
from pairnets.wiring import add_agent, join_points, part_point, tell_pairs

OPEN_CALL = 1
SYMBOL_CALL = 2
RULE_CALL = 3
AGENT_CALL = 4
JOIN_CALL = 5
PART_CALL = 6

# How many whole numbers stand behind each call's number, ahead of its row if it has one.
NUMBER_COUNTS = {1: 1, 2: 2, 3: 3, 4: 2, 5: 3, 6: 2, 7: 1}

HIGHEST_RECORD = 1


def answers(calls):
    records = {}
    told = []
    position = 0
    while position < len(calls):
        behind = call_end(calls, position)
        answer = answer_call(records, calls[position:behind])
        told.append(len(answer))
        told.extend(answer)
        position = behind
    return told


def call_end(calls, position):
    behind = position + 1 + NUMBER_COUNTS[calls[position]]
    if calls[position] == RULE_CALL:
        behind = behind + 1 + calls[behind]
    return behind


def answer_call(records, call):
    if call[0] == OPEN_CALL:
        return make_record(records, call[1])
    if call[1] not in records:
        return [NO_RECORD]
    return answer_on_record(records[call[1]], call)


def make_record(records, o):
    if o > HIGHEST_RECORD:
        return [TOO_HIGH]
    records[o] = Record()
    return [0]


def answer_on_record(record, call):
    number = call[0]
    if number == SYMBOL_CALL:
        return add_symbol(record, call[2])
    if number == RULE_CALL:
        return add_rule(record, call[2], call[3], call[5:])
    if number == AGENT_CALL:
        return add_agent(record, call[2])
    if number == JOIN_CALL:
        return join_points(record, call[2], call[3])
    if number == PART_CALL:
        return part_point(record, call[2])
    return tell_pairs(record)
