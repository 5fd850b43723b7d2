"""What a step joins to what."""

import unittest

from tests.helper import ask, last, look, make, name, net, pairs, part, rule, step, symbol

# Symbols 0 to 3 have that many ports besides the first; 4 to 7 are another four like these.
LINE = [make(0)] + [symbol(0, n % 4) for n in range(8)]


def row(symbols, wires):
    return [len(symbols)] + list(symbols) + [place for wire in wires for place in wire]


class Wires(unittest.TestCase):
    def after(self, s, t, new, wires, symbols, joins):
        """The net after a step at pair 0."""
        line = LINE + [rule(0, s, t, row(new, wires))] + net(0, symbols, joins) + [step(0, 0)]
        self.assertEqual(ask(line)[9:], [[0]] + [[0, a] for a in range(len(symbols))] + [[0]] * (len(joins) + 1))
        return look(line)


class WhichIsTheOneOfS(Wires):
    def test_the_lower(self):
        for s, t, wires in ((1, 2, [(0, 65), (1, 81), (2, 82)]), (2, 1, [(0, 81), (1, 65), (2, 66)])):
            found = self.after(s, t, [2], wires, (1, 2), [(0, 4), (1, name(1)), (5, name(2)), (6, name(3))])
            self.assertEqual(found, ({0: 2}, [(0, name(1)), (1, name(2)), (2, name(3))]))

    def test_the_higher(self):
        for s, t, wires in ((1, 2, [(0, 65), (1, 81), (2, 82)]), (2, 1, [(0, 81), (1, 65), (2, 66)])):
            found = self.after(s, t, [2], wires, (2, 1), [(4, 0), (5, name(1)), (1, name(2)), (2, name(3))])
            self.assertEqual(found, ({0: 2}, [(0, name(1)), (1, name(2)), (2, name(3))]))

    def test_with_as_many_ports(self):
        for s, t in ((1, 5), (5, 1)):
            for symbols in ((1, 5), (5, 1)):
                found = self.after(s, t, [1], [(0, 65), (1, 81)], symbols, [(0, 4), (1, name(0)), (5, name(1))])
                at_s, at_t = (name(0), name(1)) if symbols[0] == s else (name(1), name(0))
                self.assertEqual(found, ({0: 1}, [(0, at_s), (1, at_t)]))

    def test_two_of_one_symbol(self):
        found = self.after(1, 1, [0, 0], [(0, 65), (4, 81)], (1, 1), [(0, 4), (1, name(0)), (5, name(1))])
        self.assertEqual(found, ({0: 0, 1: 0}, [(0, name(0)), (4, name(1))]))
        found = self.after(1, 1, [0, 0], [(0, 81), (4, 65)], (1, 1), [(0, 4), (1, name(0)), (5, name(1))])
        self.assertEqual(found, ({0: 0, 1: 0}, [(0, name(1)), (4, name(0))]))

    def test_two_of_one_symbol_further_up(self):
        line = LINE + [rule(0, 1, 1, row([4, 4], [(0, 65), (4, 81)]))]
        line += net(0, (0, 1, 0, 1), [(4, 12), (0, 5), (8, 13)]) + [step(0, 1)]
        self.assertEqual(look(line), ({0: 0, 1: 4, 2: 0, 3: 4}, [(0, 4), (8, 12)]))


class NewPorts(Wires):
    def test_of_one_new_agent(self):
        found = self.after(0, 4, [3], [(0, 2), (3, 1)], (0, 4), [(0, 4)])
        self.assertEqual(found, ({0: 3}, [(0, 2), (1, 3)]))

    def test_of_two_new_agents(self):
        found = self.after(0, 4, [1, 2, 0], [(0, 5), (1, 8), (4, 6)], (4, 0), [(0, 4)])
        self.assertEqual(found, ({0: 1, 1: 2, 2: 0}, [(0, 5), (1, 8), (4, 6)]))

    def test_two_that_face_each_other_are_a_pair(self):
        line = LINE + [rule(0, 0, 4, row([1, 5], [(0, 4), (1, 5)])), rule(0, 1, 5, [0, 65, 81])]
        line += net(0, (0, 4), [(0, 4)])
        self.assertEqual(ask(line + [step(0, 0), pairs(0), step(0, 0), pairs(0)])[-4:], [[0], [0, 0], [0], [0]])

    def test_to_what_stood_there(self):
        joins = [(0, 4), (1, 8), (2, name(15)), (5, 9), (6, name(0)), (7, 10)]
        wires = [(0, 65), (1, 83), (66, 5), (4, 81), (6, 82)]
        found = self.after(2, 3, [1, 2], wires, (2, 3, 2), joins)
        self.assertEqual(found, ({0: 1, 1: 2, 2: 2}, [(0, 8), (1, 10), (4, 9), (5, name(15)), (6, name(0))]))

    def test_six_new_agents(self):
        new = [7, 7, 7, 3, 3, 3]
        wires = [(4 * i, 65 + i) for i in range(3)] + [(12 + 4 * i, 81 + i) for i in range(3)]
        wires += [(4 * i + 1 + j, 12 + 4 * j + 1 + i) for i in range(3) for j in range(3)]
        joins = [(0, 4)] + [(1 + i, name(i)) for i in range(3)] + [(5 + i, name(8 + i)) for i in range(3)]
        expected = [(1, 13), (2, 17), (3, 21), (5, 14), (6, 18), (7, 22), (9, 15), (10, 19), (11, 23)]
        for symbols, at_s, at_t in (((3, 7), 0, 8), ((7, 3), 8, 0)):
            found = self.after(3, 7, new, wires, symbols, joins)
            ends = [(4 * i, name(at_s + i)) for i in range(3)] + [(12 + 4 * i, name(at_t + i)) for i in range(3)]
            self.assertEqual(found, (dict(enumerate(new)), sorted(expected + ends)))

    def test_every_count_of_new_agents(self):
        for k in range(7):
            new = [1] * k
            chain = [65] + [4 * i + j for i in range(k) for j in range(2)] + [81]
            wires = list(zip(chain[::2], chain[1::2]))
            found = self.after(1, 5, new, wires, (1, 5), [(0, 4), (1, name(0)), (5, name(1))])
            points = [name(0)] + chain[1:-1] + [name(1)]
            joins = sorted(tuple(sorted(wire)) for wire in zip(points[::2], points[1::2]))
            self.assertEqual(found, ({i: 1 for i in range(k)}, joins))

    def test_other_agents_with_numbers_between(self):
        line = LINE + [rule(0, 1, 5, row([1, 5, 1], [(0, 4), (1, 65), (5, 8), (9, 81)]))]
        line += net(0, (0, 5, 0, 1, 0), [(4, 12), (5, 0), (13, 8), (16, name(9))]) + [step(0, 1)]
        agents = {0: 0, 1: 1, 2: 0, 3: 5, 4: 0, 5: 1}
        self.assertEqual(look(line), (agents, [(0, 21), (4, 12), (5, 8), (13, 20), (16, name(9))]))

    def test_a_port_that_stays_gets_the_mate_of_the_same_number(self):
        found = self.after(1, 5, [1], [(1, 65), (0, 81)], (1, 5, 1), [(0, 4), (1, 8), (5, 9)])
        self.assertEqual(found, ({0: 1, 2: 1}, [(0, 9), (1, 8)]))
        found = self.after(1, 5, [1], [(1, 65), (0, 81)], (5, 1, 1), [(0, 4), (1, 8), (5, 9)])
        self.assertEqual(found, ({0: 1, 2: 1}, [(0, 8), (1, 9)]))


class EndToEnd(Wires):
    def test_65_to_81(self):
        found = self.after(1, 1, [], [(65, 81)], (1, 1), [(0, 4), (1, name(0)), (5, name(1))])
        self.assertEqual(found, ({}, [(name(0), name(1))]))
        found = self.after(1, 1, [], [(65, 81)], (1, 1, 0, 4), [(0, 4), (1, 8), (5, 12)])
        self.assertEqual(found, ({2: 0, 3: 4}, [(8, 12)]))
        found = self.after(1, 5, [], [(81, 65)], (1, 5, 0), [(0, 4), (1, 8), (5, name(3))])
        self.assertEqual(found, ({2: 0}, [(8, name(3))]))

    def test_65_to_66(self):
        found = self.after(2, 0, [], [(65, 66)], (2, 0), [(0, 4), (1, name(4)), (2, name(2))])
        self.assertEqual(found, ({}, [(name(2), name(4))]))
        found = self.after(2, 0, [], [(66, 65)], (0, 2, 1), [(0, 4), (5, 9), (6, 8)])
        self.assertEqual(found, ({2: 1}, [(8, 9)]))

    def test_81_to_82(self):
        found = self.after(0, 2, [], [(81, 82)], (0, 2, 1), [(0, 4), (5, 9), (6, name(2)), (8, name(3))])
        self.assertEqual(found, ({2: 1}, [(8, name(3)), (9, name(2))]))

    def test_several(self):
        joins = [(0, 4), (1, name(0)), (2, name(1)), (3, name(2)), (5, name(3)), (6, name(4)), (7, name(5))]
        found = self.after(3, 7, [], [(65, 83), (67, 66), (82, 81)], (3, 7), joins)
        self.assertEqual(found[1], [(name(0), name(5)), (name(1), name(2)), (name(3), name(4))])
        found = self.after(3, 7, [], [(65, 83), (67, 66), (82, 81)], (7, 3), joins)
        self.assertEqual(found[1], [(name(0), name(1)), (name(2), name(3)), (name(4), name(5))])

    def test_two_agents_come_to_face_each_other(self):
        line = LINE + [rule(0, 1, 1, [0, 65, 81]), rule(0, 0, 4, [0])]
        line += net(0, (1, 1, 0, 4), [(0, 4), (1, 12), (5, 8)])
        self.assertEqual(ask(line + [pairs(0), step(0, 0), pairs(0), step(0, 2)])[-4:], [[0, 0], [0], [0, 2], [0]])
        self.assertEqual(look(line + [step(0, 0), step(0, 2)]), ({}, []))


class OldPortsJoinedToOldPorts(Wires):
    def test_to_another_port_of_the_same_agent(self):
        found = self.after(2, 0, [0, 4], [(0, 65), (4, 66)], (2, 0), [(0, 4), (1, 2)])
        self.assertEqual(found, ({0: 0, 1: 4}, [(0, 4)]))
        found = self.after(0, 2, [0, 4], [(0, 82), (4, 81)], (0, 2), [(0, 4), (6, 5)])
        self.assertEqual(found, ({0: 0, 1: 4}, [(0, 4)]))

    def test_to_a_port_of_the_other(self):
        for symbols in ((1, 5), (5, 1)):
            found = self.after(1, 5, [2, 0], [(0, 65), (1, 4), (2, 81)], symbols, [(0, 4), (1, 5)])
            self.assertEqual(found, ({0: 2, 1: 0}, [(0, 2), (1, 4)]))

    def test_one_goes_on_to_a_name(self):
        joins = [(0, 4), (1, 5), (2, name(0)), (6, name(1))]
        found = self.after(2, 6, [0, 4], [(0, 65), (81, 66), (82, 4)], (2, 6), joins)
        self.assertEqual(found, ({0: 0, 1: 4}, [(0, name(0)), (4, name(1))]))
        found = self.after(2, 6, [], [(65, 66), (81, 82)], (2, 6), joins)
        self.assertEqual(found, ({}, [(name(0), name(1))]))
        found = self.after(2, 6, [], [(65, 82), (81, 66)], (2, 6), joins)
        self.assertEqual(found, ({}, [(name(0), name(1))]))

    def test_one_goes_on_to_a_port_that_stays(self):
        joins = [(0, 4), (1, 2), (3, 8), (5, 9)]
        found = self.after(3, 1, [0, 4], [(0, 66), (65, 67), (81, 4)], (3, 1, 1), joins)
        self.assertEqual(found, ({0: 0, 1: 4, 2: 1}, [(0, 8), (4, 9)]))

    def test_one_goes_on_many_times(self):
        # From name 0: 1 of s, over to 1 of t, 2 of s, over to 2 of t, 3 of s, over to 3 of t, name 1.
        joins = [(0, 4), (1, name(0)), (5, 2), (6, 3), (7, name(1))]
        found = self.after(3, 7, [], [(65, 81), (66, 82), (67, 83)], (3, 7), joins)
        self.assertEqual(found, ({}, [(name(0), name(1))]))
        found = self.after(7, 3, [], [(65, 81), (66, 82), (67, 83)], (3, 7), joins)
        self.assertEqual(found, ({}, [(name(0), name(1))]))
        joins = [(0, 4), (1, 8), (5, 2), (6, 3), (7, 9)]
        found = self.after(3, 7, [], [(65, 81), (66, 82), (67, 83)], (3, 7, 1), joins)
        self.assertEqual(found, ({2: 1}, [(8, 9)]))

    def test_one_goes_on_many_times_to_new_ports(self):
        # From new port 0: 1 of s, 1 of t, over to 2 of s, 2 of t, over to 3 of t, 3 of s, over to new port 4.
        wires = [(0, 65), (81, 66), (82, 83), (67, 4)]
        found = self.after(3, 7, [0, 4], wires, (3, 7), [(0, 4), (1, 5), (2, 6), (7, 3)])
        self.assertEqual(found, ({0: 0, 1: 4}, [(0, 4)]))
        found = self.after(3, 7, [1], [(0, 65), (81, 66), (82, 83), (67, 1)], (7, 3), [(0, 4), (1, 5), (2, 6), (7, 3)])
        self.assertEqual(found, ({0: 1}, [(0, 1)]))

    def test_wires_that_come_to_none(self):
        self.assertEqual(self.after(1, 1, [], [(65, 81)], (1, 1), [(0, 4), (1, 5)]), ({}, []))
        self.assertEqual(self.after(2, 0, [], [(65, 66)], (2, 0), [(0, 4), (1, 2)]), ({}, []))
        self.assertEqual(self.after(0, 2, [], [(81, 82)], (2, 0), [(0, 4), (1, 2)]), ({}, []))

    def test_longer_rings_that_come_to_none(self):
        found = self.after(2, 6, [], [(65, 82), (66, 81)], (2, 6), [(0, 4), (1, 5), (2, 6)])
        self.assertEqual(found, ({}, []))
        found = self.after(3, 7, [], [(65, 82), (66, 83), (67, 81)], (3, 7), [(0, 4), (1, 5), (2, 6), (3, 7)])
        self.assertEqual(found, ({}, []))
        found = self.after(3, 7, [], [(65, 66), (67, 83), (81, 82)], (7, 3), [(0, 4), (1, 5), (2, 3), (6, 7)])
        self.assertEqual(found, ({}, []))

    def test_rings_beside_wires_that_stay(self):
        joins = [(0, 4), (1, 5), (2, 8), (3, name(0)), (6, name(7)), (7, name(8))]
        found = self.after(3, 7, [0, 4], [(65, 81), (0, 66), (67, 82), (83, 4)], (3, 7, 0), joins)
        self.assertEqual(found, ({0: 0, 1: 4, 2: 0}, [(0, 8), (4, name(8)), (name(0), name(7))]))
        joins = [(0, 4), (1, 5), (2, 8), (6, 12), (3, 7)]
        found = self.after(3, 7, [], [(65, 81), (66, 82), (67, 83)], (3, 7, 0, 0), joins)
        self.assertEqual(found, ({2: 0, 3: 0}, [(8, 12)]))


class WhatTheStepDoesntTouch(Wires):
    def test_other_joinings(self):
        joins = [(0, 4), (1, 5), (8, 9), (10, name(0)), (12, name(5)), (name(1), name(2)), (name(4), name(8))]
        found = self.after(1, 1, [0, 0], [(0, 65), (4, 81)], (1, 1, 2, 0), joins)
        self.assertEqual(found, ({0: 0, 1: 0, 2: 2, 3: 0}, sorted([(0, 4)] + joins[2:])))

    def test_names_that_are_joined_to_nothing(self):
        found = self.after(1, 1, [], [(65, 81)], (1, 1), [(0, 4), (1, name(15)), (5, name(14))])
        self.assertEqual(found, ({}, [(name(14), name(15))]))

    def test_what_stays_can_be_parted(self):
        line = LINE + [rule(0, 1, 1, row([0, 0], [(0, 65), (4, 81)]))]
        line += net(0, (1, 1), [(0, 4), (1, name(0)), (5, name(1))])
        for x, y in ((0, name(0)), (name(0), 0), (4, name(1)), (name(1), 4)):
            self.assertEqual(last(line + [step(0, 0), part(0, x)]), [0, y])


if __name__ == "__main__":
    unittest.main()
