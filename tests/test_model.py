"""Drawn lines of all the calls, beside a second, slower reading of the document."""

import itertools
import random
import unittest

from tests.helper import (HIGHEST, LONGEST, NOTHING, answers, canonical, draw_even_row, draw_net, draw_row, draw_rules,
                          make, name, needed_places, net, one_behind_another, rule, symbol, taken_apart)


class Net:
    def __init__(self):
        self.ports = []
        self.rules = []
        self.agents = {}
        self.wires = []

    def points(self):
        found = [4 * a + j for a, s in self.agents.items() for j in range(self.ports[s] + 1)]
        return found + list(range(256, 272))

    def mate(self, x):
        for wire in self.wires:
            if x in wire:
                return wire[1 - wire.index(x)]
        return NOTHING

    def rule_at(self, a):
        """The rule of pair a and its two agents, the one of s first; None for no pair."""
        for b in range(a + 1, 64):
            if a in self.agents and b in self.agents and self.mate(4 * a) == 4 * b:
                for s, t, row in self.rules:
                    if (self.agents[a], self.agents[b]) == (s, t):
                        return row, a, b
                    if (self.agents[b], self.agents[a]) == (s, t):
                        return row, b, a
        return None

    def is_whole(self):
        return all(self.mate(x) != NOTHING for x in self.points() if x < 256)

    def lowest(self):
        return next((a for a in range(64) if self.rule_at(a)), None)


def is_even(row):
    k = row[0]
    symbols, places = row[1:k + 1], row[k + 1:]
    wires = {frozenset(places[i:i + 2]) for i in range(0, len(places), 2)}
    for order in itertools.permutations(range(k)):
        moved = {4 * i + j: 4 * order[i] + j for i in range(k) for j in range(4)}
        moved.update({64 + j: 80 + j for j in range(4)})
        moved.update({80 + j: 64 + j for j in range(4)})
        if all(symbols[order[i]] == symbols[i] for i in range(k)):
            if {frozenset(moved[place] for place in wire) for wire in wires} == wires:
                return True
    return False


def symbol_call(kept, n):
    if n > 3:
        return [-1]
    if len(kept.ports) == 16:
        return [-2]
    kept.ports.append(n)
    return [0, len(kept.ports) - 1]


def rule_call(kept, s, t, row):
    known = range(len(kept.ports))
    if s not in known or t not in known:
        return [-4]
    if any({s, t} == {u, v} for u, v, other in kept.rules):
        return [-5]
    if not row or row[0] > 6 or len(row) <= row[0] or any(new not in known for new in row[1:row[0] + 1]):
        return [-6]
    places = needed_places([kept.ports[symbol] for symbol in [s, t] + row[1:row[0] + 1]])
    if sorted(row[row[0] + 1:]) != sorted(places) or len(places) % 2:
        return [-6]
    if s == t and not is_even(row):
        return [-7]
    kept.rules.append((s, t, row))
    return [0]


def agent_call(kept, s):
    if s >= len(kept.ports):
        return [-4]
    if len(kept.agents) == 64:
        return [-2]
    a = min(set(range(64)) - set(kept.agents))
    kept.agents[a] = s
    return [0, a]


def join_call(kept, x, y):
    if x == y or x not in kept.points() or y not in kept.points():
        return [-4]
    if kept.mate(x) != NOTHING or kept.mate(y) != NOTHING:
        return [-5]
    kept.wires.append((x, y))
    return [0]


def part_call(kept, x):
    if x not in kept.points():
        return [-4]
    if kept.mate(x) == NOTHING:
        return [-5]
    other = kept.mate(x)
    kept.wires = [wire for wire in kept.wires if x not in wire]
    return [0, other]


def pairs_call(kept):
    return [0] + [a for a in range(64) if kept.rule_at(a)]


def spliced(wires, point):
    """The two wires that end at a point become one; one that ends there twice is gone."""
    ends = [wire[1 - side] for wire in wires for side in (0, 1) if wire[side] == point]
    rest = [wire for wire in wires if point not in wire]
    return rest if ends == [point, point] else rest + [tuple(ends)]


def exchange(kept, row, first, second):
    k = row[0]
    old = {("old", first, 0), ("old", second, 0)}
    free = sorted(set(range(64)) - set(kept.agents) | {first, second})[:k]

    def of_net(x):
        if x < 256 and x // 4 in (first, second):
            return ("old", x // 4, x % 4)
        return x

    def of_rule(place):
        if place >= 64:
            return ("old", first if place < 80 else second, place % 16)
        return 4 * free[place // 4] + place % 4

    wires = [(of_net(x), of_net(y)) for x, y in kept.wires]
    wires = [wire for wire in wires if set(wire) != old]
    places = row[k + 1:]
    wires += [(of_rule(places[i]), of_rule(places[i + 1])) for i in range(0, len(places), 2)]
    for point in sorted({x for wire in wires for x in wire if isinstance(x, tuple)}):
        wires = spliced(wires, point)
    kept.wires = wires
    kept.agents = {a: s for a, s in kept.agents.items() if a not in (first, second)}
    kept.agents.update(zip(free, row[1:k + 1]))


def step_call(kept, a):
    if not kept.rule_at(a):
        return [-4]
    if not kept.is_whole():
        return [-9]
    row, first, second = kept.rule_at(a)
    if len(kept.agents) - 2 + row[0] > 64:
        return [-3]
    exchange(kept, row, first, second)
    return [0]


def run_call(kept, n):
    if n > 200:
        return [-1]
    if not kept.is_whole():
        return [-9]
    for taken in range(n):
        if kept.lowest() is None or step_call(kept, kept.lowest()) != [0]:
            return [0, taken]
    return [0, n]


def read_call(kept, a):
    if a not in kept.agents:
        return [-4]
    return [0, kept.agents[a]] + [kept.mate(4 * a + j) for j in range(4)]


def name_call(kept, n):
    return [0, kept.mate(256 + n)] if n < 16 else [-1]


def count_call(kept):
    return [0, len(kept.agents)]


CALLS = {2: symbol_call, 3: rule_call, 4: agent_call, 5: join_call, 6: part_call, 7: pairs_call, 8: step_call,
         9: run_call, 10: read_call, 11: name_call, 12: count_call}


def told(nets, call):
    if call[0] == 1:
        if call[1] > 1:
            return [-1]
        nets[call[1]] = Net()
        return [0]
    if call[0] == 13:
        if sorted(nets) != [0, 1]:
            return [-10]
        shown = [(kept.agents, sorted(tuple(sorted(wire)) for wire in kept.wires)) for kept in (nets[0], nets[1])]
        return [0, 1 if canonical(shown[0]) == canonical(shown[1]) else 0]
    if call[1] not in nets:
        return [-10]
    if call[0] == 3:
        return rule_call(nets[call[1]], call[2], call[3], list(call[5:]))
    return CALLS[call[0]](nets[call[1]], *call[2:])


class Drawer:
    """Draws calls that mostly hit what is there, and now and then what isn't."""

    def __init__(self, seed):
        self.source = random.Random(seed)

    def number(self, numbers):
        if self.source.randrange(12) == 0:
            edges = (0, 1, 2, 3, 4, 15, 16, 17, 63, 64, 65, 200, 201, 255, 256, 271, 272, 999, HIGHEST)
            return self.source.choice(edges)
        return self.source.choice(list(numbers) or [0])

    def record(self):
        return self.source.choice((0, 0, 0, 0, 0, 0, 1, 1, 1, 1, 1, 1, 1, 0, 0, 2, HIGHEST))

    def row(self, kept, s, t):
        if not kept.ports or max(s, t) >= len(kept.ports):
            return [self.source.randrange(3)]
        if s == t and self.source.randrange(4):
            row = draw_even_row(self.source, kept.ports, s, 6)
        else:
            row = draw_row(self.source, kept.ports + [0], s, t, 4)
        if self.source.randrange(6) == 0:
            row[self.source.randrange(len(row))] = self.number(range(8))
        return row

    def call(self, nets):
        o = self.record()
        kept = nets.get(o) or Net()
        number = self.source.choice((1, 2, 3, 3, 4, 4, 4) + (5,) * 8 + (6, 6, 7) + (8,) * 6 + (9, 9, 10, 11, 12, 13))
        if number == 1 and self.source.randrange(6):
            number = 8
        if number == 3:
            s, t = self.number(range(len(kept.ports))), self.number(range(len(kept.ports)))
            return rule(o, s, t, self.row(kept, s, t))
        if number == 13:
            return [13]
        ranges = {2: [range(4)], 4: [range(len(kept.ports))], 5: [kept.points()] * 2, 6: [kept.points()],
                  8: [pairs_call(kept)[1:] + [0, 1, 2]], 9: [(0, 1, 2, 3, 5, 20, 200)], 10: [kept.agents],
                  11: [range(16)]}
        if number == 5 and self.source.randrange(5):
            ranges[5] = [[x for x in kept.points() if kept.mate(x) == NOTHING]] * 2
        return [number, o] + [self.number(numbers) for numbers in ranges.get(number, [])]

    def beginning(self):
        """Most lines begin with a whole net in each record."""
        calls = []
        for o in (0, 1):
            if self.source.randrange(8):
                ports = [self.source.randrange(4) for s in range(self.source.randrange(1, 5))]
                calls += [make(o)] + [symbol(o, n) for n in ports]
                calls += draw_rules(self.source, o, ports, self.source.randrange(1, 7))
                calls += net(o, *draw_net(self.source, ports, self.source.randrange(2, 12)))
        return calls


class BesideAnotherReading(unittest.TestCase):
    def check(self, seed, size):
        drawer = Drawer(seed)
        nets = {}
        expected = []
        calls = drawer.beginning()[:LONGEST]
        for call in calls:
            expected.append(told(nets, call))
        while len(calls) < size:
            call = drawer.call(nets)
            calls.append(call)
            expected.append(told(nets, call))
        for k, (found, wanted) in enumerate(zip(taken_apart(answers(one_behind_another(calls))), expected)):
            self.assertEqual(found, wanted, (seed, k, calls[k]))
        return [(call[0], answer[0]) for call, answer in zip(calls, expected)]

    def test_drawn_lines(self):
        met = set()
        for seed in range(60):
            met.update(self.check(seed, 200))
        wanted = {1: (0, -1), 2: (0, -1), 3: (0, -4, -5, -6, -7), 4: (0, -4), 5: (0, -4, -5), 6: (0, -4, -5), 7: (0,),
                  8: (0, -4, -9), 9: (0, -1, -9), 10: (0, -4), 11: (0, -1), 12: (0,), 13: (0, -10)}
        for number, numbers in wanted.items():
            for answer in numbers:
                self.assertIn((number, answer), met)
            if number not in (1, 13):
                self.assertIn((number, -10), met)

    def test_whole_nets_run_to_rest_or_till_they_are_full(self):
        for seed in range(40):
            source = random.Random(1000 + seed)
            ports = [source.randrange(4) for s in range(3)]
            calls = [make(0)] + [symbol(0, n) for n in ports] + draw_rules(source, 0, ports, 6)
            calls += net(0, *draw_net(source, ports, source.randrange(2, 20)))
            calls += [[9, 0, n] for n in (1, 1, 1, 2, 3, 30)] + [[7, 0]]
            calls += [[10, 0, a] for a in range(64)] + [[11, 0, n] for n in range(16)]
            nets = {}
            expected = [told(nets, call) for call in calls]
            self.assertEqual(taken_apart(answers(one_behind_another(calls[:LONGEST]))), expected[:LONGEST], seed)


if __name__ == "__main__":
    unittest.main()
