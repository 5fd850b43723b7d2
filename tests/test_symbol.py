import unittest

from tests.helper import HIGHEST, agent, ask, join, last, make, name, port, symbol


class Symbol(unittest.TestCase):
    def test_numbers_from_0_on(self):
        told = ask([make(0)] + [symbol(0, n) for n in (3, 0, 2, 1, 0)])
        self.assertEqual(told, [[0], [0, 0], [0, 1], [0, 2], [0, 3], [0, 4]])

    def test_how_many_ports(self):
        for n in range(4):
            line = [make(1), symbol(1, n), agent(1, 0)]
            for j in range(4):
                expected = [0] if j <= n else [-4]
                self.assertEqual(last(line + [join(1, port(0, j), name(0))]), expected)

    def test_above_3(self):
        for n in (4, 5, 16, HIGHEST):
            self.assertEqual(ask([make(0), symbol(0, n), symbol(0, 0)])[1:], [[-1], [0, 0]])
            self.assertEqual(ask([make(0), symbol(0, 1), symbol(0, n), symbol(0, 3)])[1:], [[0, 0], [-1], [0, 1]])

    def test_sixteen(self):
        for n in range(4):
            told = ask([make(0)] + [symbol(0, n)] * 18)
            self.assertEqual(told[1:], [[0, i] for i in range(16)] + [[-2], [-2]])

    def test_the_seventeenth_is_not_there(self):
        line = [make(0)] + [symbol(0, 0)] * 17
        self.assertEqual(last(line + [agent(0, 15)]), [0, 0])
        self.assertEqual(last(line + [agent(0, 16)]), [-4])

    def test_above_3_when_there_are_16(self):
        for n in (4, HIGHEST):
            told = ask([make(0)] + [symbol(0, 0)] * 16 + [symbol(0, n), symbol(0, 3)])
            self.assertEqual(told[-2:], [[-1], [-2]])


if __name__ == "__main__":
    unittest.main()
