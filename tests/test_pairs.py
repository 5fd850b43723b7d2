import unittest

from tests.helper import agent, ask, four_symbols, join, last, make, name, pairs, part, plain_row, port, rule, symbol

RULE_1_2 = rule(0, 1, 2, plain_row(1, 2, [0]))
EVEN_1_1 = rule(0, 1, 1, [0, 65, 81])


def facing(a, b):
    return join(0, port(a, 0), port(b, 0))


class Pairs(unittest.TestCase):
    def net(self, symbols, calls):
        return last(four_symbols(0) + [agent(0, s) for s in symbols] + calls + [pairs(0)])

    def test_none(self):
        self.assertEqual(last([make(0), pairs(0)]), [0])
        self.assertEqual(self.net((1, 2), [RULE_1_2]), [0])

    def test_one(self):
        self.assertEqual(self.net((1, 2), [RULE_1_2, facing(0, 1)]), [0, 0])
        self.assertEqual(self.net((0, 1, 0, 2), [RULE_1_2, facing(1, 3)]), [0, 1])

    def test_joined_from_the_higher(self):
        self.assertEqual(self.net((0, 1, 0, 2), [RULE_1_2, facing(3, 1)]), [0, 1])

    def test_the_lower_tells_it_whichever_symbol_it_has(self):
        for told_rule in (RULE_1_2, rule(0, 2, 1, plain_row(2, 1, [0]))):
            for symbols in ((1, 2), (2, 1)):
                for joined in (facing(0, 1), facing(1, 0)):
                    self.assertEqual(self.net(symbols, [told_rule, joined]), [0, 0])
                    self.assertEqual(self.net((3, 3) + symbols, [told_rule, join(0, 8, 12)]), [0, 2])

    def test_two_of_one_symbol(self):
        self.assertEqual(self.net((1, 1), [EVEN_1_1, facing(0, 1)]), [0, 0])
        self.assertEqual(self.net((2, 2), [EVEN_1_1, facing(0, 1)]), [0])
        self.assertEqual(self.net((1, 1), [RULE_1_2, facing(0, 1)]), [0])

    def test_several_rising(self):
        joins = [facing(7, 5), facing(0, 6), facing(4, 1), facing(2, 3)]
        symbols = (1, 1, 2, 1, 2, 2, 2, 1)
        self.assertEqual(self.net(symbols, [RULE_1_2] + joins), [0, 0, 1, 2, 5])
        self.assertEqual(self.net(symbols, joins[::-1] + [RULE_1_2]), [0, 0, 1, 2, 5])

    def test_only_those_with_a_rule(self):
        joins = [facing(0, 1), facing(2, 3), facing(4, 5), facing(6, 7)]
        symbols = (1, 2, 2, 2, 1, 1, 2, 1)
        self.assertEqual(self.net(symbols, joins), [0])
        self.assertEqual(self.net(symbols, joins + [RULE_1_2]), [0, 0, 6])
        self.assertEqual(self.net(symbols, joins + [EVEN_1_1]), [0, 4])
        self.assertEqual(self.net(symbols, joins + [EVEN_1_1, RULE_1_2]), [0, 0, 4, 6])

    def test_a_rule_of_one_is_not_enough(self):
        self.assertEqual(self.net((1, 3), [RULE_1_2, facing(0, 1)]), [0])
        self.assertEqual(self.net((3, 2), [RULE_1_2, facing(0, 1)]), [0])

    def test_other_ports_make_no_pair(self):
        for x, y in ((0, 5), (1, 4), (1, 5), (0, 6), (1, 6)):
            self.assertEqual(self.net((1, 2), [RULE_1_2, join(0, x, y)]), [0])
        self.assertEqual(self.net((1, 1), [EVEN_1_1, join(0, 0, 1), join(0, 4, 5)]), [0])

    def test_names_make_no_pair(self):
        joins = [join(0, 0, name(0)), join(0, 4, name(4)), join(0, name(8), name(12))]
        self.assertEqual(self.net((1, 1), [EVEN_1_1] + joins), [0])

    def test_the_net_needs_not_be_whole(self):
        self.assertEqual(self.net((1, 2, 3), [RULE_1_2, facing(0, 1)]), [0, 0])

    def test_once_the_rule_comes(self):
        line = four_symbols(0) + [agent(0, 1), agent(0, 2), facing(0, 1), pairs(0), RULE_1_2, pairs(0)]
        self.assertEqual(ask(line)[-3:], [[0], [0], [0, 0]])

    def test_not_by_a_refused_rule(self):
        for row, refusal in (([], -6), ([0, 65, 65], -6), ([1, 1, 0, 65, 1, 81], -7)):
            line = four_symbols(0) + [agent(0, 1), agent(0, 1), facing(0, 1), rule(0, 1, 1, row), pairs(0)]
            self.assertEqual(ask(line)[-2:], [[refusal], [0]])

    def test_gone_once_parted(self):
        line = four_symbols(0) + [agent(0, 1), agent(0, 2), RULE_1_2, facing(0, 1)]
        for end, other in ((0, 4), (4, 0)):
            told = ask(line + [pairs(0), part(0, end), pairs(0), facing(1, 0), pairs(0)])
            self.assertEqual(told[-5:], [[0, 0], [0, other], [0], [0], [0, 0]])

    def test_thirty_two_of_them(self):
        line = [make(0), symbol(0, 0), rule(0, 0, 0, [0])] + [agent(0, 0)] * 64
        line += [facing(a, 63 - a) for a in range(31, -1, -1)]
        self.assertEqual(last(line + [pairs(0)]), [0] + list(range(32)))

    def test_asking_changes_nothing(self):
        line = four_symbols(0) + [agent(0, 1), agent(0, 2), RULE_1_2, facing(0, 1), pairs(0), pairs(0)]
        told = ask(line + [part(0, 4), agent(0, 0), symbol(0, 0)])
        self.assertEqual(told[-5:], [[0, 0], [0, 0], [0, 0], [0, 2], [0, 4]])


if __name__ == "__main__":
    unittest.main()
