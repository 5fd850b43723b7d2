import unittest

from tests.helper import HIGHEST, agent, ask, four_symbols, join, last, make, name, part, port

NET = four_symbols(0) + [agent(0, s) for s in (3, 2, 1, 0)]
JOINS = ((port(0, 0), port(1, 0)), (port(0, 1), port(0, 2)), (port(3, 0), name(0)), (name(15), name(7)))
JOINED = NET + [join(0, x, y) for x, y in JOINS]


class Part(unittest.TestCase):
    def test_from_either_end(self):
        for x, y in JOINS:
            self.assertEqual(last(JOINED + [part(0, x)]), [0, y])
            self.assertEqual(last(JOINED + [part(0, y)]), [0, x])

    def test_both_are_free_then(self):
        for x, y in JOINS:
            for end in (x, y):
                told = ask(JOINED + [part(0, end), part(0, x), part(0, y)])
                self.assertEqual(told[-2:], [[-5], [-5]])

    def test_both_can_be_joined_again(self):
        for x, y in JOINS:
            for end in (x, y):
                told = ask(JOINED + [part(0, end), join(0, x, y), part(0, y)])
                self.assertEqual(told[-2:], [[0], [0, x]])
                told = ask(JOINED + [part(0, end), join(0, y, 8), join(0, name(3), x), part(0, 8), part(0, name(3))])
                self.assertEqual(told[-4:], [[0], [0], [0, y], [0, x]])

    def test_the_others_stay_joined(self):
        for k, (x, y) in enumerate(JOINS):
            others = JOINS[:k] + JOINS[k + 1:]
            told = ask(JOINED + [part(0, x)] + [part(0, end) for end, other in others])
            self.assertEqual(told[-3:], [[0, other] for end, other in others])

    def test_not_there(self):
        for x in (7, 10, 11, 13, 16, 255, 272, 273, HIGHEST):
            self.assertEqual(last(JOINED + [part(0, x)]), [-4])
        self.assertEqual(last([make(1), part(1, 0)]), [-4])

    def test_not_joined(self):
        for x in (3, 5, 6, 8, 9, name(1), name(14)):
            self.assertEqual(last(JOINED + [part(0, x)]), [-5])

    def test_refused_nothing_is_parted(self):
        for refused in (part(0, 3), part(0, 7), part(0, 272), part(0, name(1))):
            told = ask(JOINED + [refused] + [part(0, x) for x, y in JOINS])
            self.assertEqual(told[-4:], [[0, y] for x, y in JOINS])

    def test_joining_is_both_ways_always(self):
        points = [0, 1, 2, 3, 4, 5, 6, 8, 9, 12, name(0), name(1), name(2), name(15)]
        for start in range(20):
            line = list(NET)
            mates = {}
            state = start
            for turn in range(150):
                state = (state * 1103515245 + 12345) % 2147483648
                x = points[state // 65536 % len(points)]
                y = points[state // 1048576 % len(points)]
                if x in mates:
                    line.append(part(0, x))
                    mates.pop(mates.pop(x))
                else:
                    line.append(join(0, x, y))
                    if x != y and y not in mates:
                        mates[x] = y
                        mates[y] = x
            for x in points:
                self.assertEqual(last(line + [part(0, x)]), [0, mates[x]] if x in mates else [-5])


if __name__ == "__main__":
    unittest.main()
