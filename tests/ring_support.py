"""What the tests of calls on numbers of the ring share."""

import inspect
import itertools
import random
import unittest

MOST = 18446744073709551615
NAUGHT = (0, 0, 0, 0)
W = [(1, 0, 0, 0), (0, 1, 0, 0), (0, 0, 1, 0), (0, 0, 0, 1), (-1, 0, 0, 0), (0, -1, 0, 0), (0, 0, -1, 0), (0, 0, 0, -1)]
ROOT = (0, 1, 0, -1)


def samples():
    """Numbers of all sorts: the edges, all parities and signs of small ones, and some by chance."""
    numbers = list(itertools.product((MOST, -MOST), repeat=4))
    numbers += list(itertools.product((-2, -1, 0, 1), repeat=4))
    for place in range(4):
        for size in (MOST, -MOST, MOST - 1, 1 - MOST, 2 ** 63, 5, -6):
            numbers.append(tuple(size if i == place else 0 for i in range(4)))
    chance = random.Random(61)
    for bits in (3, 8, 31, 53, 63, 64):
        for turn in range(20):
            most = 2 ** bits - 1
            numbers.append(tuple(chance.randint(-most, most) for i in range(4)))
    return numbers


def pairs():
    """Pairs of such numbers, without every number beside every other."""
    chance = random.Random(62)
    numbers = samples()
    shuffled = chance.sample(numbers, len(numbers))
    few = numbers[:16] + [NAUGHT, ROOT] + W
    return list(zip(numbers, shuffled)) + list(itertools.product(few, few))


class RingTest(unittest.TestCase):
    def told(self, call, *given, many=4):
        """What the call answers behind 0, so many numbers."""
        answer = call(*given)
        self.assertIs(type(answer), list)
        self.assertEqual([type(part) for part in answer], [int] * (1 + many))
        self.assertEqual(answer[0], 0)
        return tuple(answer[1:])

    def check_kept_to(self, call, names, given):
        """The arguments' names as they stand, and nothing kept from one time to the next."""
        self.assertEqual(list(inspect.signature(call).parameters), names.split())
        first = call(*given)
        again = list(first)
        self.assertEqual(call(**dict(zip(names.split(), given))), again)
        first[1] = first[1] + 1
        first.append(9)
        self.assertEqual(call(*given), again)
