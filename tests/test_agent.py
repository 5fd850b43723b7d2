import unittest

from tests.helper import HIGHEST, agent, ask, four_symbols, join, last, make, name, port, rule, symbol


class Agent(unittest.TestCase):
    def test_numbers_from_0_on(self):
        told = ask(four_symbols(0) + [agent(0, s) for s in (2, 0, 0, 3, 1)])
        self.assertEqual(told[5:], [[0, 0], [0, 1], [0, 2], [0, 3], [0, 4]])

    def test_it_has_its_symbols_ports(self):
        wanted = (2, 0, 3, 1)
        line = four_symbols(0) + [agent(0, s) for s in wanted]
        for a, s in enumerate(wanted):
            for j in range(4):
                expected = [0] if j <= s else [-4]
                self.assertEqual(last(line + [join(0, port(a, j), name(5))]), expected)

    def test_no_symbol(self):
        for s in (4, 5, 16, HIGHEST):
            told = ask(four_symbols(0) + [agent(0, s), agent(0, 3), agent(0, s), agent(0, 3)])
            self.assertEqual(told[5:], [[-4], [0, 0], [-4], [0, 1]])
        self.assertEqual(last([make(1), agent(1, 0)]), [-4])

    def test_symbol_15(self):
        line = [make(0)] + [symbol(0, 0)] * 15
        self.assertEqual(last(line + [agent(0, 15)]), [-4])
        self.assertEqual(last(line + [symbol(0, 0), agent(0, 15)]), [0, 0])

    def test_sixty_four(self):
        told = ask(four_symbols(0) + [agent(0, 3)] * 66)
        self.assertEqual(told[5:], [[0, a] for a in range(64)] + [[-2], [-2]])

    def test_all_sixty_four_are_there(self):
        line = four_symbols(0) + [agent(0, 3)] * 65
        for a in (0, 1, 62, 63):
            for j in range(4):
                self.assertEqual(last(line + [join(0, port(a, j), name(0))]), [0])

    def test_no_symbol_when_there_are_64(self):
        told = ask(four_symbols(0) + [agent(0, 0)] * 64 + [agent(0, 4), agent(0, HIGHEST), agent(0, 0)])
        self.assertEqual(told[-3:], [[-4], [-4], [-2]])

    def test_rules_bring_no_agents(self):
        line = four_symbols(0) + [rule(0, 0, 1, [1, 0, 0, 81]), agent(0, 0)]
        self.assertEqual(ask(line)[-2:], [[0], [0, 0]])


if __name__ == "__main__":
    unittest.main()
