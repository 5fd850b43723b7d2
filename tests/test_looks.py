"""The calls read, name and count."""

import unittest

from tests.helper import (HIGHEST, NOTHING, agent, ask, count, four_symbols, join, last, look, make, name, net, pairs,
                          part, port, read, read_name, rule, run, step, symbol)

SYMBOLS = four_symbols(0) + [rule(0, 1, 1, [0, 65, 81])]


class Read(unittest.TestCase):
    def test_joined_to_nothing(self):
        for s in range(4):
            self.assertEqual(last(SYMBOLS + [agent(0, s), read(0, 0)]), [0, s, NOTHING, NOTHING, NOTHING, NOTHING])

    def test_ports_and_names(self):
        line = SYMBOLS + net(0, (3, 2, 0), [(0, 6), (1, name(15)), (3, 8), (4, 5)])
        self.assertEqual(ask(line + [read(0, 0), read(0, 1), read(0, 2)])[-3:], [
            [0, 3, 6, name(15), NOTHING, 8], [0, 2, 5, 4, 0, NOTHING], [0, 0, 3, NOTHING, NOTHING, NOTHING]])

    def test_both_ends(self):
        points = [0, 1, 2, 3, 4, 5, 6]
        for x in points:
            for y in points:
                if x < y:
                    told = ask(SYMBOLS + net(0, (3, 2), [(y, x)]) + [read(0, 0), read(0, 1)])[-2:]
                    seen = told[0][2:] + told[1][2:]
                    expected = [NOTHING] * 8
                    expected[x], expected[y] = y, x
                    self.assertEqual(seen, expected)

    def test_parted(self):
        line = SYMBOLS + net(0, (1, 1), [(0, 4), (1, name(3))]) + [part(0, 4), part(0, 1), read(0, 0), read(0, 1)]
        self.assertEqual(ask(line)[-2:], [[0, 1] + [NOTHING] * 4, [0, 1] + [NOTHING] * 4])

    def test_no_agent(self):
        line = SYMBOLS + net(0, (1, 1), [(0, name(0)), (4, name(1))])
        for a in (2, 3, 63, 64, 65, 67, 68, 256, HIGHEST):
            self.assertEqual(last(line + [read(0, a)]), [-4])
        self.assertEqual(last([make(0), read(0, 0)]), [-4])

    def test_names_are_no_agents(self):
        line = SYMBOLS + [join(0, name(n), name(n + 1)) for n in range(0, 16, 2)]
        for a in range(64, 68):
            self.assertEqual(last(line + [read(0, a)]), [-4])

    def test_the_last_agent(self):
        line = [make(0), symbol(0, 3)] + [agent(0, 0)] * 64 + [join(0, 255, name(0)), join(0, 252, 3)]
        self.assertEqual(ask(line + [read(0, 63), read(0, 64), read(0, 0)])[-3:], [
            [0, 0, 3, NOTHING, NOTHING, name(0)], [-4], [0, 0, NOTHING, NOTHING, NOTHING, 252]])

    def test_went_by_a_step(self):
        line = SYMBOLS + net(0, (1, 1, 0, 0), [(0, 4), (1, 8), (5, 12)]) + [step(0, 0)]
        self.assertEqual(ask(line + [read(0, a) for a in range(4)])[-4:], [
            [-4], [-4], [0, 0, 12, NOTHING, NOTHING, NOTHING], [0, 0, 8, NOTHING, NOTHING, NOTHING]])

    def test_a_new_one_with_an_old_number_has_nothing_of_the_old(self):
        line = SYMBOLS + net(0, (1, 1), [(0, 4), (1, 5)]) + [step(0, 0), agent(0, 3), agent(0, 3)]
        self.assertEqual(ask(line + [read(0, 0), read(0, 1)])[-2:], [[0, 3] + [NOTHING] * 4] * 2)
        self.assertEqual(last(line + [join(0, 0, 4)]), [0])

    def test_the_record_that_is_named(self):
        line = SYMBOLS + net(0, (1,), [(0, 1)]) + four_symbols(1) + net(1, (2,), [(0, 2)])
        self.assertEqual(ask(line + [read(0, 0), read(1, 0)])[-2:], [
            [0, 1, 1, 0, NOTHING, NOTHING], [0, 2, 2, NOTHING, 0, NOTHING]])


class Name(unittest.TestCase):
    def test_joined_to_nothing(self):
        for n in range(16):
            self.assertEqual(last([make(0), read_name(0, n)]), [0, NOTHING])

    def test_joined_to_a_port(self):
        for n in range(16):
            for x in (0, 3, 4):
                told = ask(SYMBOLS + net(0, (3, 0), [(name(n), x)]) + [read_name(0, other) for other in range(16)])
                self.assertEqual(told[-16:], [[0, x if other == n else NOTHING] for other in range(16)])

    def test_joined_to_a_name(self):
        line = [make(0), join(0, name(0), name(15)), join(0, name(7), name(3))]
        told = ask(line + [read_name(0, n) for n in (0, 15, 3, 7, 1)])
        self.assertEqual(told[-5:], [[0, name(15)], [0, name(0)], [0, name(7)], [0, name(3)], [0, NOTHING]])

    def test_parted(self):
        line = [make(0), join(0, name(0), name(15)), part(0, name(15)), read_name(0, 0), read_name(0, 15)]
        self.assertEqual(ask(line)[-2:], [[0, NOTHING], [0, NOTHING]])

    def test_above_15(self):
        line = SYMBOLS + net(0, (3,), [(0, name(0)), (name(15), 1)])
        for n in (16, 17, 256, 271, 999, HIGHEST):
            self.assertEqual(last(line + [read_name(0, n)]), [-1])
        self.assertEqual(last(line + [read_name(0, 15)]), [0, 1])

    def test_after_a_step(self):
        line = SYMBOLS + net(0, (1, 1, 0), [(0, 4), (1, name(2)), (5, 8)]) + [read_name(0, 2), step(0, 0)]
        self.assertEqual(ask(line + [read_name(0, 2)])[-3:], [[0, 1], [0], [0, 8]])

    def test_the_record_that_is_named(self):
        line = [make(0), make(1), join(0, name(0), name(1)), join(1, name(0), name(2))]
        self.assertEqual(ask(line + [read_name(0, 0), read_name(1, 0)])[-2:], [[0, name(1)], [0, name(2)]])


class Count(unittest.TestCase):
    def test_none(self):
        self.assertEqual(last([make(0), count(0)]), [0, 0])
        self.assertEqual(last(SYMBOLS + [join(0, name(0), name(1)), count(0)]), [0, 0])

    def test_some(self):
        line = list(SYMBOLS)
        for agents in range(1, 65):
            line.append(agent(0, agents % 4))
            self.assertEqual(last(line + [count(0)]), [0, agents])
        self.assertEqual(ask(line + [agent(0, 0), count(0)])[-2:], [[-2], [0, 64]])

    def test_refused_agents_dont_count(self):
        self.assertEqual(ask(SYMBOLS + [agent(0, 0), agent(0, 4), agent(0, HIGHEST), count(0)])[-1], [0, 1])

    def test_after_steps(self):
        rules = [rule(0, 0, 0, [6] + [0] * 4 + [1, 1, 0, 4, 8, 12, 16, 20, 17, 21])]
        line = SYMBOLS + rules + net(0, (0, 0), [(0, 4)])
        told = ask(line + [count(0), step(0, 0), count(0), step(0, 4), count(0), run(0, 2), count(0)])
        self.assertEqual(told[-7:], [[0, 2], [0], [0, 6], [0], [0, 4], [0, 2], [0, 12]])

    def test_the_record_that_is_named(self):
        line = SYMBOLS + [agent(0, 0)] * 5 + four_symbols(1) + [agent(1, 0)] * 3
        self.assertEqual(ask(line + [count(0), count(1)])[-2:], [[0, 5], [0, 3]])


class LookingChangesNothing(unittest.TestCase):
    def test_each_of_them(self):
        line = SYMBOLS + net(0, (1, 1, 3), [(0, 4), (1, 8), (5, name(0)), (name(4), name(3))])
        looks = [pairs(0), count(0)] + [read(0, a) for a in range(66)] + [read_name(0, n) for n in range(18)]
        for one in looks:
            self.assertEqual(look(line + [one]), look(line))
            self.assertEqual(last(line + [one, agent(0, 0)]), [0, 3])
            self.assertEqual(last(line + [one, join(0, port(2, 1), name(15))]), [0])


if __name__ == "__main__":
    unittest.main()
