import unittest

from tests.helper import HIGHEST, agent, ask, four_symbols, join, last, make, name, pairs, part, rule, symbol

ROW = [0, 65, 81]


def filled(o):
    return [make(o), symbol(o, 1), rule(o, 0, 0, ROW), agent(o, 0), agent(o, 0), join(o, 0, 4),
            join(o, 1, name(3)), join(o, name(0), name(1))]


class Open(unittest.TestCase):
    def test_both_records(self):
        self.assertEqual(ask([make(0), make(1)]), [[0], [0]])
        self.assertEqual(ask([make(1)]), [[0]])

    def test_above_one(self):
        for o in (2, 3, 10, 256, HIGHEST):
            self.assertEqual(ask([make(o)]), [[-1]])
            self.assertEqual(ask([make(o), pairs(o)]), [[-1], [-10]])

    def test_above_one_changes_nothing(self):
        told = ask(filled(0) + [make(2), make(HIGHEST), pairs(0), symbol(0, 0), agent(0, 0), part(0, 1)])
        self.assertEqual(told[-4:], [[0, 0], [0, 1], [0, 2], [0, name(3)]])

    def test_a_new_record_has_nothing(self):
        self.assertEqual(last([make(0), pairs(0)]), [0])
        self.assertEqual(last([make(0), agent(0, 0)]), [-4])
        self.assertEqual(last([make(0), rule(0, 0, 0, [0])]), [-4])
        self.assertEqual(last([make(0), part(0, 0)]), [-4])
        for n in range(16):
            self.assertEqual(last([make(0), part(0, name(n))]), [-5])

    def test_opened_again_there_is_nothing(self):
        for o in (0, 1):
            again = filled(o) + [make(o)]
            self.assertEqual(ask(again), [[0], [0, 0], [0], [0, 0], [0, 1], [0], [0], [0], [0]])
            self.assertEqual(last(again + [pairs(o)]), [0])
            self.assertEqual(last(again + [agent(o, 0)]), [-4])
            self.assertEqual(last(again + [rule(o, 0, 0, ROW)]), [-4])
            self.assertEqual(last(again + [symbol(o, 2)]), [0, 0])
            for point in (0, 1, 4):
                self.assertEqual(last(again + [part(o, point)]), [-4])
            for point in (name(0), name(1), name(3)):
                self.assertEqual(last(again + [part(o, point)]), [-5])
            self.assertEqual(last(again + [join(o, name(0), name(3))]), [0])

    def test_opened_again_agents_and_joins_are_new(self):
        again = filled(0) + [make(0), symbol(0, 1), agent(0, 0), agent(0, 0)]
        self.assertEqual(ask(again)[-3:], [[0, 0], [0, 0], [0, 1]])
        for point in (0, 1, 4, 5):
            self.assertEqual(last(again + [part(0, point)]), [-5])

    def test_opened_again_the_rules_are_gone(self):
        again = filled(0) + [make(0), symbol(0, 1), agent(0, 0), agent(0, 0), join(0, 0, 4)]
        self.assertEqual(last(again + [pairs(0)]), [0])
        self.assertEqual(last(again + [rule(0, 0, 0, ROW)]), [0])

    def test_opening_one_again_leaves_the_other(self):
        for o in (0, 1):
            line = filled(0) + filled(1) + [make(1 - o)]
            self.assertEqual(last(line + [pairs(o)]), [0, 0])
            self.assertEqual(last(line + [symbol(o, 0)]), [0, 1])
            self.assertEqual(last(line + [agent(o, 0)]), [0, 2])
            self.assertEqual(last(line + [part(o, name(3))]), [0, 1])
            self.assertEqual(last(line + [rule(o, 0, 0, ROW)]), [-5])

    def test_the_records_dont_touch_each_other(self):
        for o in (0, 1):
            line = [make(0), make(1)] + filled(o)[1:]
            other = 1 - o
            self.assertEqual(last(line + [symbol(other, 0)]), [0, 0])
            self.assertEqual(last(line + [agent(other, 0)]), [-4])
            self.assertEqual(last(line + [rule(other, 0, 0, ROW)]), [-4])
            self.assertEqual(last(line + [part(other, name(0))]), [-5])
            self.assertEqual(last(line + [pairs(other)]), [0])
            line = line + [symbol(other, 1), agent(other, 0), agent(other, 0)]
            self.assertEqual(ask(line)[-2:], [[0, 0], [0, 1]])
            self.assertEqual(last(line + [join(other, 0, 4), pairs(other)]), [0])
            self.assertEqual(last(line + [rule(other, 0, 0, ROW)]), [0])

    def test_the_same_points_in_both(self):
        line = four_symbols(0) + four_symbols(1) + [agent(0, 3), agent(1, 3)]
        line += [join(0, 0, 1), join(1, 0, 2), part(0, 0), part(1, 0), part(0, 0), part(1, 0)]
        self.assertEqual(ask(line)[-6:], [[0], [0], [0, 1], [0, 2], [-5], [-5]])


if __name__ == "__main__":
    unittest.main()
