"""Steps that are refused, and the numbers of the agents that come."""

import unittest

from tests.helper import (HIGHEST, agent, ask, count, four_symbols, join, last, look, make, name, net, pairs, part,
                          plain_row, port, read, rule, step, symbol)

EVEN_1_1 = rule(0, 1, 1, [0, 65, 81])
SYMBOLS = four_symbols(0) + [EVEN_1_1]
# A whole net: agents 0 and 1 are a pair.
ONE_PAIR = SYMBOLS + net(0, (1, 1), [(0, 4), (1, name(0)), (5, name(1))])


def full(k, agents=64):
    """A whole net of agents without more ports, in pairs; the rule for two of them has k new agents."""
    odd = k % 2
    places = [4 * i for i in range(k)] + [4 * (k - 1) + 1] * odd
    # With an odd number of new agents the last one's two ports are joined, so that each place has a wire.
    row = [k] + [0] * (k - odd) + [1] * odd + places
    line = [make(0), symbol(0, 0), symbol(0, 1), rule(0, 0, 0, row)]
    joins = [(port(a, 0), port(a + 1, 0)) for a in range(0, agents - 1, 2)]
    if agents % 2:
        joins.append((port(agents - 1, 0), name(0)))
    return line + net(0, [0] * agents, joins)


class NoPair(unittest.TestCase):
    def test_no_such_agent(self):
        for a in (2, 3, 63, 64, 65, 67, 999, HIGHEST):
            self.assertEqual(last(ONE_PAIR + [step(0, a)]), [-4])
        for a in (0, 64, HIGHEST):
            self.assertEqual(last([make(0), step(0, a)]), [-4])

    def test_names_are_no_agents(self):
        joins = [(0, 4), (1, name(1)), (5, name(2)), (name(0), name(4)), (name(8), name(12))]
        line = SYMBOLS + net(0, (1, 1), joins)
        for a in range(60, 75):
            self.assertEqual(last(line + [step(0, a)]), [-4])
        line = SYMBOLS + net(0, (1, 1), [(0, name(0)), (4, name(4)), (1, 5)])
        for a in (0, 1, 64, 65):
            self.assertEqual(last(line + [step(0, a)]), [-4])

    def test_one_that_went(self):
        self.assertEqual(ask(ONE_PAIR + [step(0, 0), step(0, 0), step(0, 1)])[-3:], [[0], [-4], [-4]])

    def test_one_that_faces_none(self):
        for joins in ([(0, 1), (4, 5)], [(0, 5), (1, 4)], [(0, name(0)), (1, 5), (4, name(1))],
                      [(1, 5), (0, name(0)), (4, name(1))], []):
            line = SYMBOLS + net(0, (1, 1), joins)
            for a in (0, 1):
                self.assertEqual(last(line + [step(0, a)]), [-4])

    def test_one_that_faces_another_port(self):
        line = SYMBOLS + net(0, (1, 1, 1), [(0, 5), (4, 9), (8, 1)])
        for a in (0, 1, 2):
            self.assertEqual(last(line + [step(0, a)]), [-4])

    def test_the_higher_of_the_two(self):
        self.assertEqual(ask(ONE_PAIR + [step(0, 1), step(0, 0)])[-2:], [[-4], [0]])
        line = SYMBOLS + net(0, (0, 0, 1, 0, 1), [(8, 16), (9, 17), (0, name(0)), (4, name(1)), (12, name(2))])
        self.assertEqual(ask(line + [step(0, 4), step(0, 2)])[-2:], [[-4], [0]])
        line = four_symbols(0) + [rule(0, 2, 1, plain_row(2, 1, [0]))]
        for symbols, ports in (((1, 2), (1, 5, 6)), ((2, 1), (1, 2, 5))):
            joins = [(0, 4)] + [(x, name(k)) for k, x in enumerate(ports)]
            self.assertEqual(ask(line + net(0, symbols, joins) + [step(0, 1), step(0, 0)])[-2:], [[-4], [0]])

    def test_two_without_a_rule(self):
        self.assertEqual(last(SYMBOLS + net(0, (0, 0), [(0, 4)]) + [step(0, 0)]), [-4])
        self.assertEqual(last(SYMBOLS + net(0, (0, 1), [(0, 4), (5, name(0))]) + [step(0, 0)]), [-4])
        for row in ([], [1, 1, 0, 65, 1, 81]):
            line = four_symbols(0) + [rule(0, 1, 1, row)] + net(0, (1, 1), [(0, 4), (1, 5)])
            self.assertEqual(last(line + [step(0, 0)]), [-4])

    def test_the_other_records_rule_is_none_here(self):
        line = ONE_PAIR + four_symbols(1) + net(1, (1, 1), [(0, 4), (1, 5)])
        self.assertEqual(ask(line + [step(1, 0), step(0, 0)])[-2:], [[-4], [0]])


class NotWhole(unittest.TestCase):
    def test_a_port_of_the_pair(self):
        for parted in (name(0), name(1), 1, 5):
            self.assertEqual(last(ONE_PAIR + [part(0, parted), step(0, 0)]), [-9])

    def test_any_port_of_any_other_agent(self):
        joins = [(8, name(2)), (9, name(3)), (10, name(4)), (11, name(5))]
        for k in range(4):
            line = ONE_PAIR + net(0, (3,), joins[:k] + joins[k + 1:])
            self.assertEqual(ask(line + [step(0, 0), join(0, *joins[k]), step(0, 0)])[-3:], [[-9], [0], [0]])

    def test_an_agent_without_any_joining(self):
        self.assertEqual(last(ONE_PAIR + [agent(0, 0), step(0, 0)]), [-9])

    def test_free_names_dont_matter(self):
        line = SYMBOLS + net(0, (1, 1), [(0, 4), (1, 5)])
        self.assertEqual(last(line + [step(0, 0)]), [0])

    def test_ports_that_a_symbol_doesnt_have_dont_matter(self):
        line = four_symbols(0) + [rule(0, 0, 0, [0])] + net(0, (0, 0, 2), [(0, 4), (8, 9), (10, name(0))])
        self.assertEqual(last(line + [step(0, 0)]), [0])


class NoRoom(unittest.TestCase):
    def test_sixty_four_agents(self):
        for k in range(7):
            expected = [0] if k <= 2 else [-3]
            told = ask(full(k) + [step(0, 0), count(0)])
            self.assertEqual(told[-2], expected, k)
            self.assertEqual(told[-1], [0, 62 + k if k <= 2 else 64])

    def test_fewer_agents(self):
        for agents in range(59, 64):
            for k in range(7):
                expected = [0] if agents - 2 + k <= 64 else [-3]
                told = ask(full(k, agents) + [step(0, 0), count(0)])
                self.assertEqual(told[-2], expected, (agents, k))
                self.assertEqual(told[-1], [0, agents - 2 + k if expected == [0] else agents])

    def test_every_number_is_given(self):
        for k, agents in ((2, 64), (3, 63), (4, 62), (6, 60)):
            self.assertEqual(ask(full(k, agents) + [step(0, 0), read(0, 63), agent(0, 0)])[-1], [-2])

    def test_room_at_another_pair(self):
        line = full(4, 62) + [symbol(0, 0), rule(0, 2, 2, [0]), agent(0, 2), agent(0, 2), join(0, 248, 252)]
        self.assertEqual(ask(line + [step(0, 0), step(0, 62), step(0, 0)])[-3:], [[-3], [0], [0]])


class OrderOfRefusals(unittest.TestCase):
    def test_no_pair_comes_before_not_whole(self):
        line = ONE_PAIR + [agent(0, 0)]
        for a in (1, 2, 3, 64, HIGHEST):
            self.assertEqual(last(line + [step(0, a)]), [-4])
        self.assertEqual(last(line + [step(0, 0)]), [-9])

    def test_no_pair_comes_before_no_room(self):
        for a in (1, 63, 64, HIGHEST):
            self.assertEqual(last(full(3) + [step(0, a)]), [-4])

    def test_not_whole_comes_before_no_room(self):
        told = ask(full(3) + [part(0, 252), step(0, 0), step(0, 1), step(0, 62), join(0, 252, 248), step(0, 0)])
        self.assertEqual(told[-6:], [[0, 248], [-9], [-4], [-4], [0], [-3]])


class RefusedStepsLeaveAllAsItWas(unittest.TestCase):
    def check(self, line, refused, refusal):
        after = line + [refused]
        self.assertEqual(last(after), [refusal])
        self.assertEqual(look(after), look(line))
        for more in ([pairs(0)], [agent(0, 0)], [symbol(0, 0)], [rule(0, 0, 0, [0])], [EVEN_1_1]):
            self.assertEqual(ask(after + more)[len(after):], ask(line + more)[len(line):])

    def test_no_pair(self):
        for a in (1, 2, 64, HIGHEST):
            self.check(ONE_PAIR, step(0, a), -4)

    def test_not_whole(self):
        self.check(ONE_PAIR + [agent(0, 2), join(0, 8, name(4))], step(0, 0), -9)
        self.check(ONE_PAIR + [part(0, 1)], step(0, 0), -9)
        self.check(ONE_PAIR + [part(0, 5)], step(0, 0), -9)

    def test_no_room(self):
        for k in (3, 4, 5, 6):
            self.check(full(k), step(0, 0), -3)


class WhoComes(unittest.TestCase):
    def numbers(self, taken, pair, new):
        """The symbols by agents' numbers, when a pair among some agents of symbol 0 is exchanged for new ones."""
        row = [len(new)] + new + [4 * i + j for i, s in enumerate(new) for j in range(s + 1)]
        line = [make(0)] + [symbol(0, n) for n in range(4)] + [symbol(0, 0), rule(0, 4, 4, row)]
        symbols = [4 if a in pair else 0 for a in range(taken)]
        joins = [(port(pair[0], 0), port(pair[1], 0))]
        others = [a for a in range(taken) if a not in pair]
        joins += [(port(others[k], 0), port(others[k + 1], 0)) for k in range(0, len(others), 2)]
        line += net(0, symbols, joins) + [step(0, min(pair))]
        self.assertEqual(last(line), [0])
        agents = look(line)[0]
        for a in others:
            self.assertEqual(agents.pop(a), 0)
        return agents

    def test_none(self):
        self.assertEqual(self.numbers(2, (0, 1), []), {})
        self.assertEqual(self.numbers(8, (6, 3), []), {})

    def test_in_the_place_of_the_old_ones(self):
        self.assertEqual(self.numbers(6, (1, 4), [1]), {1: 1})
        self.assertEqual(self.numbers(6, (4, 1), [1, 3]), {1: 1, 4: 3})
        self.assertEqual(self.numbers(6, (4, 1), [3, 1]), {1: 3, 4: 1})

    def test_behind_the_others(self):
        self.assertEqual(self.numbers(6, (1, 4), [3, 1, 3]), {1: 3, 4: 1, 6: 3})
        self.assertEqual(self.numbers(6, (0, 5), [1, 3, 1, 1]), {0: 1, 5: 3, 6: 1, 7: 1})
        self.assertEqual(self.numbers(4, (2, 3), [1, 1, 3, 1, 3]), {2: 1, 3: 1, 4: 3, 5: 1, 6: 3})
        self.assertEqual(self.numbers(8, (0, 7), [3, 1, 3, 3, 1, 1]), {0: 3, 7: 1, 8: 3, 9: 3, 10: 1, 11: 1})

    def test_in_gaps(self):
        line = [make(0)] + [symbol(0, n % 4) for n in range(5)]
        line += [rule(0, 4, 4, [0]), rule(0, 0, 0, [6, 1, 3, 1, 3, 1, 3] + plain_row(0, 0, [1, 3] * 3)[7:])]
        line += net(0, [4, 0, 4, 4, 0, 4], [(0, 20), (4, 16), (8, 12)])
        told = ask(line + [step(0, 0), step(0, 2), step(0, 1)])
        self.assertEqual(told[-3:], [[0], [0], [0]])
        self.assertEqual(look(line + [step(0, 0), step(0, 1)])[0], {0: 1, 1: 3, 2: 4, 3: 4, 4: 1, 5: 3, 6: 1, 7: 3})
        self.assertEqual(look(line + [step(0, 0), step(0, 2), step(0, 1)])[0], {0: 1, 1: 3, 2: 1, 3: 3, 4: 1, 5: 3})

    def test_the_next_agent_gets_the_lowest_that_is_free(self):
        line = ONE_PAIR + [agent(0, 0), join(0, 8, name(5)), step(0, 0)]
        self.assertEqual(ask(line + [agent(0, 2), agent(0, 2), agent(0, 2)])[-3:], [[0, 0], [0, 1], [0, 3]])

    def test_new_agents_of_the_symbols_that_go(self):
        line = four_symbols(0) + [rule(0, 1, 1, [2, 1, 1, 0, 4, 1, 65, 5, 81])]
        line += net(0, (1, 1), [(0, 4), (1, name(0)), (5, name(1))]) + [step(0, 0)]
        self.assertEqual(look(line), ({0: 1, 1: 1}, [(0, 4), (1, name(0)), (5, name(1))]))
        self.assertEqual(ask(line + [pairs(0), step(0, 0), pairs(0)])[-3:], [[0, 0], [0], [0, 0]])

    def test_only_the_record_that_is_named(self):
        line = ONE_PAIR + four_symbols(1) + [rule(1, 1, 1, [0, 65, 81])] + net(1, (1, 1), [(0, 4), (1, 5)])
        self.assertEqual(look(line + [step(0, 0)], 1), look(line, 1))
        self.assertEqual(look(line + [step(1, 0)], 0), look(line, 0))
        self.assertEqual(look(line + [step(1, 0)], 1), ({}, []))


if __name__ == "__main__":
    unittest.main()
