"""Promises 1 to 3: wholeness, and that the order of the steps doesn't matter."""

import random
import unittest

from tests.helper import (LONGEST, ask, canonical, count, draw_net, draw_rules, last, look, make, name, net, pairs,
                          port, rule, run, same, step, symbol)


def setting(o, ports, rules):
    return [make(o)] + [symbol(o, n) for n in ports] + [[call[0], o] + call[2:] for call in rules]


def drawn_twice(source, agents, most):
    """The same net in both records, and how many more ports the symbols have."""
    ports = [source.randrange(4) for s in range(source.randrange(2, 5))]
    rules = draw_rules(source, 0, ports, most)
    symbols, joins = draw_net(source, ports, agents)
    line = []
    for o in (0, 1):
        line += setting(o, ports, rules) + net(o, symbols, joins)
    return line, ports


def pairs_of(line, o):
    return last(line + [pairs(o)])[1:]


ZERO, MORE, PLUS, TIMES, COPY, DROP = range(6)


def arithmetic(o):
    """Whole numbers as nets: a row of agents MORE with ZERO at its end."""
    return [make(o)] + [symbol(o, n) for n in (0, 1, 2, 2, 2, 0)] + [
        rule(o, MORE, PLUS, [2, PLUS, MORE, 0, 65, 1, 81, 2, 5, 4, 82]),
        rule(o, PLUS, ZERO, [0, 65, 66]),
        rule(o, MORE, TIMES, [3, TIMES, COPY, PLUS, 0, 65, 1, 5, 2, 8, 4, 81, 6, 9, 10, 82]),
        rule(o, TIMES, ZERO, [2, DROP, ZERO, 0, 65, 4, 66]),
        rule(o, COPY, MORE, [3, MORE, MORE, COPY, 0, 65, 4, 66, 1, 9, 5, 10, 8, 81]),
        rule(o, ZERO, COPY, [2, ZERO, ZERO, 0, 81, 4, 82]),
        rule(o, MORE, DROP, [1, DROP, 0, 65]),
        rule(o, ZERO, DROP, [0])]


def number(o, start, n, end):
    """The number n, of agents from start on, at that end."""
    joins = [(port(start + k, 1), port(start + k + 1, 0)) for k in range(n)]
    return net(o, [MORE] * n + [ZERO], [(port(start, 0), end)] + joins)


def product(o, m, n):
    return net(o, [TIMES], [(2, name(0))]) + number(o, 1, m, 0) + number(o, m + 2, n, 1)


class Checked(unittest.TestCase):
    def assert_whole(self, line, o, ports):
        agents, joins = look(line, o)
        ends = [x for wire in joins for x in wire]
        wanted = [port(a, j) for a in agents for j in range(ports[agents[a]] + 1)]
        self.assertEqual(sorted(x for x in ends if x < 256), sorted(wanted))
        self.assertEqual(last(line + [run(o, 0)]), [0, 0])

    def assert_same(self, line):
        self.assertEqual(last(line + [same()]), [0, 1])
        self.assertEqual(canonical(look(line, 0)), canonical(look(line, 1)))


class WholeNetsStayWhole(Checked):
    def test_after_each_step(self):
        source = random.Random(11)
        taken = 0
        for turn in range(40):
            line, ports = drawn_twice(source, source.randrange(2, 9), 4)
            self.assert_whole(line, 0, ports)
            for more in range(6):
                found = pairs_of(line, 0)
                if found:
                    line = line + [step(0, source.choice(found))]
                    self.assertEqual(last(line), [0])
                    self.assert_whole(line, 0, ports)
                    taken += 1
        self.assertGreater(taken, 100)

    def test_after_many_steps(self):
        source = random.Random(12)
        for turn in range(60):
            line, ports = drawn_twice(source, source.randrange(4, 10), 6)
            line = line + [run(0, source.randrange(1, 201))]
            self.assertEqual(last(line)[0], 0)
            self.assert_whole(line, 0, ports)


class TwoPairsEitherWayRound(Checked):
    def test_drawn_nets(self):
        source = random.Random(21)
        met = 0
        for turn in range(150):
            line, ports = drawn_twice(source, source.randrange(4, 11), 6)
            found = pairs_of(line, 0)
            for a in found[:3]:
                for b in found[:3]:
                    if a < b:
                        both = line + [step(0, a), step(0, b), step(1, b), step(1, a)]
                        self.assertEqual(ask(both)[-4:], [[0]] * 4)
                        self.assert_same(both)
                        met += 1
        self.assertGreater(met, 150)

    def test_two_pairs_that_are_joined_to_each_other(self):
        line = []
        for o in (0, 1):
            line += [make(o)] + [symbol(o, n) for n in range(3)]
            line += [rule(o, 2, 2, [4, 1, 1, 1, 1, 0, 65, 1, 4, 5, 66, 8, 81, 9, 12, 13, 82])]
            line += [rule(o, 1, 1, [0, 65, 81])]
            joins = [(0, 4), (8, 12), (1, 9), (2, 16), (5, 20), (6, 14), (13, 10), (17, name(0)), (21, name(1))]
            line += net(o, (2, 2, 2, 2, 1, 1), joins)
        self.assertEqual(ask(line + [pairs(0), pairs(1)])[-2:], [[0, 0, 2], [0, 0, 2]])
        line += [step(0, 0), step(0, 2), step(1, 2), step(1, 0)]
        self.assertEqual(ask(line)[-4:], [[0]] * 4)
        self.assertNotEqual(look(line, 0), look(line, 1))
        self.assert_same(line)

    def test_a_ring_through_two_pairs(self):
        line = []
        for o in (0, 1):
            line += [make(o), symbol(o, 1), rule(o, 0, 0, [0, 65, 81])]
            line += net(o, [0] * 4, [(0, 4), (8, 12), (1, 9), (5, 13)])
        for steps in ([step(0, 0), step(0, 2), step(1, 2), step(1, 0)], [run(0, 9), run(1, 1), run(1, 1)]):
            self.assert_same(line + steps)
            self.assertEqual(look(line + steps, 0), ({}, []))


class EveryRowThatComesToRest(Checked):
    def to_rest(self, line, o, choose, most):
        taken = 0
        found = pairs_of(line, o)
        while found and taken < most and len(line) < LONGEST - 2:
            line = line + [step(o, choose(found))]
            if last(line) != [0]:
                return line, None
            taken += 1
            found = pairs_of(line, o)
        return line, None if found else taken

    def test_drawn_nets(self):
        source = random.Random(31)
        met = []
        for turn in range(150):
            line, ports = drawn_twice(source, source.randrange(4, 11), 3)
            lowest = ask(line + [run(0, 200), pairs(0)])[-2:]
            if lowest[1] != [0] or lowest[0][1] > 40:
                continue
            line = line + [run(0, 200)]
            for choose in (max, source.choice):
                ended, taken = self.to_rest(line, 1, choose, 60)
                self.assertEqual(taken, lowest[0][1])
                self.assert_same(ended)
            met.append(lowest[0][1])
        self.assertGreater(len(met), 50)
        self.assertGreater(max(met), 8)

    def test_numbers_multiplied(self):
        source = random.Random(32)
        for m, n in ((0, 0), (0, 3), (3, 0), (1, 1), (2, 3), (3, 2), (1, 4)):
            line = arithmetic(0) + product(0, m, n) + arithmetic(1) + product(1, m, n) + [run(0, 200)]
            steps = last(line)[1]
            for choose in (min, max, source.choice, source.choice):
                ended, taken = self.to_rest(line, 1, choose, 100)
                self.assertEqual(taken, steps)
                self.assert_same(ended)
            line = arithmetic(0) + product(0, m, n) + [run(0, 200)] + arithmetic(1) + number(1, 0, m * n, name(0))
            self.assertEqual(ask(line + [same(), count(0)])[-2:], [[0, 1], [0, m * n + 1]])


if __name__ == "__main__":
    unittest.main()
