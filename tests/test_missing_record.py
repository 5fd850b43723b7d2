import unittest

from tests.helper import (HIGHEST, agent, ask, count, four_symbols, join, last, look, make, pairs, part, read,
                          read_name, rule, run, same, step, symbol)


def good_calls(o):
    return [symbol(o, 0), rule(o, 1, 1, [0, 65, 81]), agent(o, 0), join(o, 256, 257), part(o, 256), pairs(o),
            step(o, 0), run(o, 0), run(o, 200), read(o, 0), read_name(o, 0), count(o)]


def calls_with_another_refusal(o):
    return [symbol(o, 4), symbol(o, HIGHEST), rule(o, HIGHEST, 0, []), rule(o, 0, 0, []), rule(o, 0, 0, [7]),
            rule(o, 1, 1, [0]), agent(o, 16), agent(o, HIGHEST), join(o, 272, 256), join(o, 256, 256),
            join(o, 0, HIGHEST), part(o, 272), part(o, 0), part(o, 257), step(o, 63), step(o, 64), step(o, HIGHEST),
            run(o, 201), run(o, HIGHEST), read(o, 63), read(o, 64), read(o, HIGHEST), read_name(o, 16),
            read_name(o, HIGHEST)]


class MissingRecord(unittest.TestCase):
    def test_no_record_at_all(self):
        for o in (0, 1, 2, 3, HIGHEST):
            for call in good_calls(o) + calls_with_another_refusal(o):
                self.assertEqual(ask([call]), [[-10]])

    def test_only_the_other_record(self):
        for o in (0, 1):
            for call in good_calls(o) + calls_with_another_refusal(o):
                self.assertEqual(last(four_symbols(1 - o) + [call]), [-10])

    def test_above_one_with_both_there(self):
        for o in (2, 3, 256, HIGHEST):
            line = four_symbols(0) + four_symbols(1) + [make(o)]
            for call in good_calls(o) + calls_with_another_refusal(o):
                self.assertEqual(last(line + [call]), [-10])

    def test_the_record_is_not_there_afterwards(self):
        for o in (0, 1):
            for call in good_calls(o):
                self.assertEqual(ask([call, call, pairs(o)]), [[-10], [-10], [-10]])

    def test_the_other_record_is_as_it_was(self):
        for call in good_calls(1) + good_calls(2):
            line = four_symbols(0) + [agent(0, 1), agent(0, 1), join(0, 0, 4), join(0, 256, 258), call]
            told = ask(line + [pairs(0), part(0, 256), join(0, 256, 257), agent(0, 0), symbol(0, 0)])
            self.assertEqual(told[-5:], [[0], [0, 258], [0], [0, 2], [0, 4]])
            self.assertEqual(look(line), look(line[:-1]))


class SameWithoutARecord(unittest.TestCase):
    def test_neither(self):
        self.assertEqual(ask([same()]), [[-10]])
        self.assertEqual(ask([make(2), make(HIGHEST), same(), same()]), [[-1], [-1], [-10], [-10]])

    def test_only_one(self):
        for o in (0, 1):
            self.assertEqual(ask([make(o), same()]), [[0], [-10]])
            line = four_symbols(o) + [agent(o, 1), agent(o, 1), join(o, 0, 4)]
            self.assertEqual(last(line + [same()]), [-10])
            self.assertEqual(look(line + [same()], o), look(line, o))
            self.assertEqual(last(line + [same(), count(1 - o)]), [-10])

    def test_once_both_are_there(self):
        for o in (0, 1):
            self.assertEqual(ask([same(), make(o), same(), make(1 - o), same()]), [[-10], [0], [-10], [0], [0, 1]])

    def test_it_has_no_numbers(self):
        # What stands behind it is the next call.
        self.assertEqual(ask([same(), make(0), same(), make(1), same(), same(), count(0)]),
                         [[-10], [0], [-10], [0], [0, 1], [0, 1], [0, 0]])


if __name__ == "__main__":
    unittest.main()
