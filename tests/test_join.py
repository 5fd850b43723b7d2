import unittest

from tests.helper import HIGHEST, agent, ask, four_symbols, join, last, make, name, part, port, symbol

# Agents 0 to 3 of the symbols 3, 2, 1 and 0.
NET = four_symbols(0) + [agent(0, s) for s in (3, 2, 1, 0)]
THERE = [0, 1, 2, 3, 4, 5, 6, 8, 9, 12] + [name(n) for n in range(16)]
NOT_THERE = [7, 10, 11, 13, 14, 15, 16, 17, 20, 252, 255, 272, 273, 999, HIGHEST]


class Join(unittest.TestCase):
    def assert_joined(self, x, y):
        self.assertEqual(last(NET + [join(0, x, y)]), [0])
        self.assertEqual(last(NET + [join(0, x, y), part(0, x)]), [0, y])
        self.assertEqual(last(NET + [join(0, x, y), part(0, y)]), [0, x])

    def test_port_to_port(self):
        self.assert_joined(port(0, 0), port(1, 0))
        self.assert_joined(port(2, 1), port(0, 3))

    def test_port_to_name(self):
        self.assert_joined(port(3, 0), name(0))
        self.assert_joined(name(15), port(1, 2))

    def test_name_to_name(self):
        self.assert_joined(name(0), name(15))
        self.assert_joined(name(4), name(3))

    def test_two_ports_of_one_agent(self):
        self.assert_joined(port(0, 0), port(0, 3))
        self.assert_joined(port(0, 2), port(0, 1))

    def test_every_two_that_are_there(self):
        for x in THERE:
            for y in THERE:
                expected = [-4] if x == y else [0]
                self.assertEqual(last(NET + [join(0, x, y)]), expected)

    def test_all_at_once(self):
        line = [join(0, THERE[k], THERE[k + 1]) for k in range(0, len(THERE), 2)]
        told = ask(NET + line + [part(0, x) for x in THERE[::2]])
        self.assertEqual(told[9:], [[0]] * len(line) + [[0, y] for y in THERE[1::2]])

    def test_the_highest_agents_last_port(self):
        line = [make(1), symbol(1, 3)] + [agent(1, 0)] * 64
        self.assertEqual(ask(line + [join(1, 255, 256), part(1, 256)])[-2:], [[0], [0, 255]])

    def test_not_there(self):
        for x in NOT_THERE:
            for y in (0, 12, name(0), name(15), 16, HIGHEST):
                self.assertEqual(last(NET + [join(0, x, y)]), [-4])
                self.assertEqual(last(NET + [join(0, y, x)]), [-4])

    def test_no_agents_but_names(self):
        self.assertEqual(last([make(1), join(1, 0, 256)]), [-4])
        self.assertEqual(last([make(1), join(1, 256, 271)]), [0])

    def test_the_same(self):
        for x in THERE + NOT_THERE:
            self.assertEqual(last(NET + [join(0, x, x)]), [-4])

    def test_one_is_joined(self):
        for x, y in ((0, 4), (1, 2), (5, name(3)), (name(0), name(9))):
            line = NET + [join(0, x, y)]
            for other in (8, name(5)):
                for taken in (x, y):
                    self.assertEqual(last(line + [join(0, taken, other)]), [-5])
                    self.assertEqual(last(line + [join(0, other, taken)]), [-5])

    def test_both_are_joined(self):
        line = NET + [join(0, 0, 4), join(0, 8, name(2))]
        for x, y in ((0, 4), (4, 0), (0, 8), (name(2), 4), (8, name(2))):
            self.assertEqual(last(line + [join(0, x, y)]), [-5])

    def test_not_there_comes_before_joined(self):
        line = NET + [join(0, 0, 4), join(0, name(0), name(1))]
        for x in (0, 4, name(0), name(1)):
            self.assertEqual(last(line + [join(0, x, x)]), [-4])
            for y in NOT_THERE:
                self.assertEqual(last(line + [join(0, x, y)]), [-4])
                self.assertEqual(last(line + [join(0, y, x)]), [-4])

    def test_refused_both_stay_as_they_were(self):
        line = NET + [join(0, 0, 4)]
        for x, y in ((0, 8), (8, 0), (4, 8), (8, 4)):
            told = ask(line + [join(0, x, y), part(0, 8), part(0, 0), part(0, 4)])
            self.assertEqual(told[-4:], [[-5], [-5], [0, 4], [-5]])
        for x, y in ((8, 7), (7, 8), (8, 272), (272, 8), (8, 8)):
            told = ask(line + [join(0, x, y), part(0, 8), join(0, 8, 12), part(0, 12)])
            self.assertEqual(told[-4:], [[-4], [-5], [0], [0, 8]])


if __name__ == "__main__":
    unittest.main()
