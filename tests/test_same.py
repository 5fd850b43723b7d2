import itertools
import random
import unittest

from tests.helper import (agent, ask, both_ways, canonical, four_symbols, join, last, look, make, name, net, pairs,
                          part, port, rule, run, same, step, symbol)

# Every symbol with all the ports that there are, so that nets can be drawn freely.
SYMBOLS = [make(0), make(1)] + [symbol(o, 3) for o in (0, 1) for s in range(3)]


def answer(left, right):
    """What same says of two nets, each told by its agents' symbols and its joinings."""
    return last(SYMBOLS + net(0, *left) + net(1, *right) + [same()])


def renumbered(drawn, order):
    """The same net: agent order[k] becomes agent k."""
    symbols, joins = drawn
    there = {a: k for k, a in enumerate(order)}

    def moved(x):
        return x if x >= 256 else port(there[x // 4], x % 4)

    return [symbols[a] for a in order], [(moved(x), moved(y)) for x, y in joins]


def is_same_by_trying(left, right):
    """The document's words, tried on every way to match the agents."""
    if len(left[0]) != len(right[0]):
        return False
    wanted = {frozenset(wire) for wire in right[1]}
    for order in itertools.permutations(range(len(left[0]))):
        symbols, joins = renumbered(left, order)
        if symbols == list(right[0]) and {frozenset(wire) for wire in joins} == wanted:
            return True
    return False


def ring(agents, start=0):
    """Each agent's port 1 at the next one's port 0."""
    return [(port(start + a, 1), port(start + (a + 1) % agents, 0)) for a in range(agents)]


class Same(unittest.TestCase):
    def check(self, expected, left, right):
        self.assertEqual(answer(left, right), [0, expected], (left, right))
        self.assertEqual(answer(right, left), [0, expected], (right, left))


class ByHand(Same):
    def test_empty_nets(self):
        self.assertEqual(ask([make(0), make(1), same()]), [[0], [0], [0, 1]])
        self.check(1, ([], []), ([], []))

    def test_as_it_stands(self):
        drawn = ([0, 1, 1], [(0, 4), (1, name(0)), (5, 9), (8, name(3)), (name(1), name(2))])
        self.check(1, drawn, drawn)

    def test_other_numbers(self):
        drawn = ([0, 1, 2, 1], [(0, 4), (1, name(0)), (5, 9), (8, 14), (12, name(7)), (10, 11)])
        for order in itertools.permutations(range(4)):
            self.check(1, drawn, renumbered(drawn, order))

    def test_one_agent_more(self):
        self.check(0, ([], []), ([0], []))
        self.check(0, ([0, 0], [(0, 4)]), ([0, 0, 0], [(0, 4)]))
        self.check(0, ([0] * 4, [(0, 4), (8, 12)]), ([0] * 6, [(0, 4), (8, 12), (16, 20)]))

    def test_one_symbol(self):
        self.check(0, ([0], []), ([1], []))
        self.check(0, ([0, 1], [(0, 4)]), ([1, 1], [(0, 4)]))
        self.check(1, ([0, 1], [(0, 4)]), ([1, 0], [(0, 4)]))
        self.check(0, ([0, 0, 1], ring(3)), ([0, 1, 1], ring(3)))
        self.check(0, ([0, 0, 1, 1], ring(4)), ([0, 1, 0, 1], ring(4)))
        self.check(1, ([0, 0, 1, 1], ring(4)), ([0, 1, 1, 0], ring(4)))

    def test_one_joining(self):
        self.check(0, ([0, 0], [(0, 4)]), ([0, 0], []))
        self.check(0, ([0, 0], [(0, 4), (1, 5)]), ([0, 0], [(0, 4)]))
        self.check(0, ([0, 0], [(0, 4), (1, 5)]), ([0, 0], [(0, 4), (1, 6)]))
        self.check(0, ([0, 0, 0], [(0, 4), (1, 8)]), ([0, 0, 0], [(0, 4), (5, 9)]))

    def test_one_port(self):
        for x, y in itertools.combinations(range(4), 2):
            self.check(0, ([0], [(x, name(0))]), ([0], [(y, name(0))]))
            self.check(0, ([0, 0], [(x, port(1, 0))]), ([0, 0], [(y, port(1, 0))]))
        self.check(0, ([0], [(0, 1)]), ([0], [(0, 2)]))
        self.check(1, ([0], [(0, 2)]), ([0], [(2, 0)]))
        self.check(0, ([0], [(0, 1), (2, 3)]), ([0], [(0, 2), (1, 3)]))

    def test_one_name(self):
        for n in range(15):
            self.check(0, ([0], [(0, name(n))]), ([0], [(0, name(n + 1))]))
            self.check(1, ([0], [(0, name(n))]), ([0], [(0, name(n))]))
        self.check(0, ([0, 0], [(0, name(0)), (4, name(1))]), ([0, 0], [(0, name(0)), (5, name(1))]))
        self.check(1, ([0, 0], [(0, name(0)), (4, name(1))]), ([0, 0], [(0, name(1)), (4, name(0))]))
        self.check(0, ([0, 1], [(0, name(0)), (4, name(1))]), ([0, 1], [(0, name(1)), (4, name(0))]))
        self.check(0, ([0, 0], [(0, name(0)), (1, name(1))]), ([0, 0], [(0, name(0)), (5, name(1))]))

    def test_a_name_that_is_joined_in_one_only(self):
        self.check(0, ([0], [(0, name(0))]), ([0], []))
        self.check(0, ([], [(name(0), name(1))]), ([], []))
        self.check(0, ([0], [(0, 1), (2, name(9))]), ([0], [(0, 1)]))
        self.check(0, ([0, 0], [(0, 4), (1, name(0)), (5, name(1))]), ([0, 0], [(0, 4), (1, name(0))]))

    def test_names_joined_to_names(self):
        self.check(1, ([], [(name(0), name(1))]), ([], [(name(1), name(0))]))
        self.check(0, ([], [(name(0), name(1))]), ([], [(name(0), name(2))]))
        self.check(0, ([], [(name(0), name(1)), (name(2), name(3))]), ([], [(name(0), name(2)), (name(1), name(3))]))
        self.check(0, ([], [(name(14), name(15))]), ([], [(name(14), name(13))]))
        self.check(0, ([0], [(name(0), name(1))]), ([0], [(0, name(1))]))
        self.check(0, ([0], [(0, name(0)), (1, name(1))]), ([0], [(0, 1), (name(0), name(1))]))

    def test_ports_that_are_joined_to_nothing(self):
        self.check(1, ([0, 0], [(1, 6)]), ([0, 0], [(2, 5)]))
        self.check(0, ([0, 0], [(1, 6)]), ([0, 0], [(1, 5)]))
        self.check(1, ([0, 1, 1], []), ([1, 0, 1], []))
        self.check(0, ([0], [(1, 2)]), ([0], []))

    def test_as_many_of_each_symbol_but_joined_otherwise(self):
        self.check(0, ([0] * 6, ring(6)), ([0] * 6, ring(3) + ring(3, 3)))
        self.check(0, ([0] * 4, ring(4)), ([0] * 4, ring(2) + ring(2, 2)))
        self.check(0, ([0] * 4, ring(4)), ([0] * 4, ring(3) + ring(1, 3)))
        self.check(0, ([0] * 8, ring(4) + ring(4, 4)), ([0] * 8, ring(2) + ring(6, 2)))
        self.check(0, ([0, 0, 1, 1], [(0, 4), (8, 12)]), ([0, 0, 1, 1], [(0, 8), (4, 12)]))
        turned = [(y, x) if a == 2 else (x, y) for a, (x, y) in enumerate([(0, 4), (5, 8), (9, 12), (13, 1)])]
        self.check(1, ([0] * 4, [(0, 4), (5, 8), (9, 12), (13, 1)]), ([0] * 4, turned))
        self.check(0, ([0] * 4, ring(4)), ([0] * 4, [(0, 4), (5, 9), (8, 12), (13, 1)]))

    def test_several_parts_that_look_alike(self):
        two_rings = ([0] * 7, ring(3) + ring(4, 3))
        self.check(1, two_rings, ([0] * 7, ring(4) + ring(3, 4)))
        self.check(0, ([0, 0, 1] * 2, ring(3) + ring(3, 3)), ([0, 0, 1, 0, 1, 1], ring(3) + ring(3, 3)))
        left = ([0, 1] * 4, [(port(2 * a, 0), port(2 * a + 1, 0)) for a in range(4)] + [(1, 5), (9, 13), (18, 22)])
        for order in ([6, 7, 0, 1, 4, 5, 2, 3], [7, 6, 5, 4, 3, 2, 1, 0], [1, 3, 5, 7, 6, 4, 2, 0]):
            self.check(1, left, renumbered(left, order))
        right = (left[0], left[1][:-1] + [(17, 21)])
        self.check(0, left, right)
        self.check(0, ([0] * 4, [(0, 4), (8, 13)]), ([0] * 4, [(0, 5), (8, 13)]))

    def test_parts_that_differ_in_their_names_alone(self):
        left = ([0] * 4, [(0, 4), (8, 12), (1, name(0)), (5, name(1)), (9, name(2)), (13, name(3))])
        right = ([0] * 4, [(0, 4), (8, 12), (1, name(2)), (5, name(3)), (9, name(0)), (13, name(1))])
        self.check(1, left, right)
        right = ([0] * 4, [(0, 4), (8, 12), (1, name(3)), (5, name(2)), (9, name(0)), (13, name(1))])
        self.check(1, left, right)
        right = ([0] * 4, [(0, 4), (8, 12), (1, name(0)), (5, name(2)), (9, name(1)), (13, name(3))])
        self.check(0, left, right)

    def test_a_part_is_matched_once(self):
        self.check(0, ([0] * 6, ring(2) + ring(2, 2) + [(16, 20), (17, 21)]),
                   ([0] * 6, ring(2) + [(8, 12), (9, 13)] + [(16, 20), (17, 21)]))
        self.check(0, ([0] * 3, [(0, 1), (4, 5), (8, 10)]), ([0] * 3, [(0, 1), (4, 6), (8, 10)]))


class PortsAndRules(unittest.TestCase):
    def test_symbols_with_different_numbers_of_ports(self):
        for more in itertools.product(range(4), repeat=2):
            line = [make(0), make(1), symbol(0, more[0]), symbol(1, more[1])]
            line += net(0, (0, 0), [(0, 4)]) + net(1, (0, 0), [(0, 4)])
            self.assertEqual(last(line + [same()]), [0, 1])
            if min(more) > 0:
                self.assertEqual(last(line + [join(0, 1, name(0)), join(1, 5, name(0)), same()]), [0, 1])
            if max(more) == 3:
                o = more.index(3)
                self.assertEqual(last(line + [join(o, 3, name(0)), same()]), [0, 0])

    def test_a_whole_net_and_one_that_isnt(self):
        line = [make(0), make(1), symbol(0, 0), symbol(1, 3)] + net(0, (0, 0), [(0, 4)]) + net(1, (0, 0), [(0, 4)])
        self.assertEqual(ask(line + [run(0, 0), run(1, 0), same()])[-3:], [[0, 0], [-9], [0, 1]])

    def test_symbols_without_agents(self):
        line = four_symbols(0) + [make(1), symbol(1, 2)] + net(0, (0,), [(0, name(1))]) + net(1, (0,), [(0, name(1))])
        self.assertEqual(last(line + [same()]), [0, 1])

    def test_symbols_by_their_numbers_alone(self):
        line = [make(0), make(1), symbol(0, 1), symbol(0, 2), symbol(1, 2), symbol(1, 1)]
        # As many ports, but not the same number; then the same number.
        self.assertEqual(last(line + [agent(0, 0), agent(1, 1), same()]), [0, 0])
        self.assertEqual(last(line + [agent(0, 0), agent(1, 0), join(0, 0, 1), join(1, 1, 0), same()]), [0, 1])

    def test_rules_dont_matter(self):
        line = four_symbols(0) + four_symbols(1) + [rule(0, 1, 1, [0, 65, 81]), rule(1, 0, 0, [0])]
        line += net(0, (1, 1), [(0, 4), (1, 5)]) + net(1, (1, 1), [(0, 4), (1, 5)])
        self.assertEqual(ask(line + [pairs(0), pairs(1), same()])[-3:], [[0, 0], [0], [0, 1]])


class Drawn(Same):
    def draw(self, source, agents, wires):
        symbols = [source.randrange(2) for a in range(agents)]
        points = [port(a, j) for a in range(agents) for j in range(4)] + [name(n) for n in range(3)]
        source.shuffle(points)
        return symbols, [(points[2 * k], points[2 * k + 1]) for k in range(min(wires, len(points) // 2))]

    def changed(self, source, drawn):
        symbols, joins = list(drawn[0]), list(drawn[1])
        way = source.randrange(4)
        if way == 0:
            a = source.randrange(len(symbols))
            symbols[a] = 1 - symbols[a]
        if way == 1 and len(joins) > 1:
            (w, x), (y, z) = joins[:2]
            joins[:2] = [(w, z), (y, x)]
        if way == 2:
            joins = joins[1:]
        if way == 3 and joins:
            x, y = joins[0]
            free = [port(a, j) for a in range(len(symbols)) for j in range(4)] + [name(n) for n in range(4)]
            taken = both_ways(joins)
            joins[0] = (x, source.choice([z for z in free if z not in taken] + [y]))
        return symbols, joins

    def test_small_nets_by_trying_all(self):
        source = random.Random(5)
        met = {0: 0, 1: 0}
        for turn in range(1500):
            agents = source.randrange(1, 6)
            left = self.draw(source, agents, source.randrange(9))
            order = source.sample(range(agents), agents)
            right = renumbered(left, order)
            self.check(1, left, right)
            right = self.changed(source, right)
            expected = 1 if is_same_by_trying(left, right) else 0
            self.check(expected, left, right)
            met[expected] += 1
        self.assertGreater(min(met.values()), 100)

    def test_all_nets_of_three_alike(self):
        points = [0, 1, 4, 5, 8, 9]
        nets = []
        for order in itertools.permutations(points):
            wires = tuple(sorted(tuple(sorted(order[k:k + 2])) for k in (0, 2, 4)))
            nets += [wires, wires[1:]]
        for left, right in itertools.product(sorted(set(nets)), repeat=2):
            left, right = ([0] * 3, left), ([0] * 3, right)
            self.check(1 if is_same_by_trying(left, right) else 0, left, right)

    def test_larger_nets(self):
        source = random.Random(6)
        met = {0: 0, 1: 0}
        for turn in range(300):
            agents = source.randrange(6, 25)
            left = self.draw(source, agents, source.randrange(30))
            right = renumbered(left, source.sample(range(agents), agents))
            self.check(1, left, right)
            right = self.changed(source, right)
            found = [canonical((dict(enumerate(s)), sorted(tuple(sorted(w)) for w in j))) for s, j in (left, right)]
            expected = 1 if found[0] == found[1] else 0
            self.check(expected, left, right)
            met[expected] += 1
        self.assertGreater(min(met.values()), 10)


class SixtyFour(unittest.TestCase):
    def ringed(self, o, steps):
        """A ring of 64 agents that all look alike, grown out of four by steps."""
        row = [6] + [0] * 6 + [65, 1, 0, 4, 5, 9, 8, 12, 13, 17, 16, 20, 21, 81]
        line = [make(o), symbol(o, 1), rule(o, 0, 0, row)] + net(o, [0] * 4, [(0, 4), (5, 9), (8, 12), (13, 1)])
        return line + steps

    def test_a_ring(self):
        line = self.ringed(0, [run(0, 15)])
        self.assertEqual(last(line), [0, 15])
        self.assertEqual(len(look(line)[0]), 64)
        begun = [step(1, 2), run(1, 3)]
        highest = last(self.ringed(1, begun + [pairs(1)]))[-1]
        line += self.ringed(1, begun + [step(1, highest), run(1, 10)])
        self.assertEqual(last(line), [0, 10])
        self.assertNotEqual(look(line, 0), look(line, 1))
        self.assertEqual(last(line + [same()]), [0, 1])

    def test_a_ring_and_two(self):
        line = self.ringed(0, [run(0, 15)]) + self.ringed(1, [run(1, 15)])
        joined = both_ways(look(line)[1])
        # Another ring's worth away, so that two rings of 32 come out of one of 64.
        x = 1
        far = x
        for turn in range(32):
            far = joined[far ^ 1]
        self.assertEqual(far % 4, 1)
        y, far_y = joined[x], joined[far]
        cut = [part(1, x), part(1, far), join(1, x, far_y), join(1, far, y)]
        self.assertEqual(ask(line + cut)[-4:], [[0, y], [0, far_y], [0], [0]])
        self.assertNotEqual(canonical(look(line + cut, 0)), canonical(look(line + cut, 1)))
        self.assertEqual(last(line + cut + [same()]), [0, 0])

    def test_thirty_two_parts(self):
        joins = [(port(a, 0), port(a + 1, 0)) for a in range(0, 64, 2)]
        far = [(port(a, 0), port(a + 32, 0)) for a in range(32)]
        line = [make(0), symbol(0, 1), make(1), symbol(1, 1)] + net(0, [0] * 64, joins)
        self.assertEqual(last(line + net(1, [0] * 64, far) + [same()]), [0, 1])
        self.assertEqual(last(line + net(1, [0] * 64, far[:-1] + [(124, 253)]) + [same()]), [0, 0])
        self.assertEqual(last(line + net(1, [0] * 64, far[:-1]) + [same()]), [0, 0])

    def test_without_any_joining(self):
        line = [make(0), symbol(0, 3), make(1), symbol(1, 0)] + [agent(0, 0)] * 64 + [agent(1, 0)] * 63
        self.assertEqual(ask(line + [same(), agent(1, 0), same()])[-3:], [[0, 0], [0, 63], [0, 1]])
        self.assertEqual(last(line + [symbol(1, 0), agent(1, 1), same()]), [0, 0])


class SameChangesNothing(unittest.TestCase):
    def test_nothing(self):
        line = SYMBOLS + net(0, (0, 1, 2), [(0, 4), (1, name(0)), (9, 10), (name(3), name(4))])
        for right in ((0, 1, 2), (2, 1, 0), (0, 1)):
            whole = line + net(1, right, [(0, 4), (1, name(0))])
            for o in (0, 1):
                self.assertEqual(look(whole + [same(), same()], o), look(whole, o))
            told = ask(whole + [same(), same(), agent(0, 0), agent(1, 0), symbol(0, 0), symbol(1, 0)])
            self.assertEqual(told[-6], told[-5])
            self.assertEqual(told[-4:], [[0, 3], [0, len(right)], [0, 3], [0, 3]])

    def test_after_a_change(self):
        line = SYMBOLS + net(0, (0, 1), [(0, 4)]) + net(1, (1, 0), [(0, 4)])
        told = ask(line + [same(), part(0, 0), same(), part(1, 0), same(), make(0), same(), make(1), same()])
        self.assertEqual(told[len(line)::2], [[0, 1], [0, 0], [0, 1], [0, 0], [0, 1]])


if __name__ == "__main__":
    unittest.main()
