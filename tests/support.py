"""What the tests share: calls that are watched for traces, and games to call with."""

import unittest
from copy import deepcopy
from fractions import Fraction
from math import gcd


def lists_in(value):
    """All lists within a value, itself included."""
    if isinstance(value, (list, tuple)):
        inner = [found for item in value for found in lists_in(item)]
        return inner + ([value] if isinstance(value, list) else [])
    if isinstance(value, dict):
        return lists_in(list(value.values()))
    return []


class Case(unittest.TestCase):
    def asked(self, function, *args, **named):
        """The answer of a call, after it has been looked at that calls leave no trace."""
        before = repr((args, named))
        first = function(*args, **named)
        second = function(*args, **named)
        self.assertEqual(repr((args, named)), before, "what was handed in was changed")
        self.assertEqual(repr(first), repr(second), "two calls differ")
        lists = lists_in(first) + lists_in(second)
        handed = lists_in(list(args)) + lists_in(named)
        self.assertEqual(len({id(found) for found in lists}), len(lists), "a list is not new")
        self.assertFalse({id(found) for found in lists} & {id(found) for found in handed})
        answer = deepcopy(second)
        for found in lists:
            found.append("spoilt")
        third = function(*args, **named)
        self.assertEqual(repr(third), repr(answer), "a changed answer changed the next one")
        self.assertEqual(repr((args, named)), before, "a changed answer changed what was handed in")
        return third

    def refused(self, error, function, *args, **named):
        """The error of a call, after it has been looked at that the call changes nothing."""
        before = repr((args, named))
        with self.assertRaises(error) as caught:
            function(*args, **named)
        self.assertIs(type(caught.exception), error)
        self.assertEqual(repr((args, named)), before, "what was handed in was changed")
        return caught.exception

    def exact(self, number):
        """The number as a fraction, after it has been looked at that it is a number (point 1)."""
        self.assertIs(type(number), tuple)
        self.assertEqual(len(number), 2)
        n, d = number
        self.assertIs(type(n), int)
        self.assertIs(type(d), int)
        self.assertGreaterEqual(d, 1)
        self.assertEqual(gcd(n, d), 1)
        return Fraction(n, d)

    def all_exact(self, numbers):
        """A list of numbers as a list of fractions; None stays None."""
        self.assertIs(type(numbers), list)
        return [None if number is None else self.exact(number) for number in numbers]


def number(value):
    """A fraction or a whole number as a number of the program."""
    value = Fraction(value)
    return (value.numerator, value.denominator)


def moved(rows, which, x, by):
    """The rows with the number of the place x moved, in the first list (0) or in the second one (1)."""
    found = [list(numbers) for numbers in rows]
    found[which][x] = number(Fraction(*found[which][x]) + by)
    return tuple(found)


def draw(gain, *branches):
    """A draw whose chances are written as strings, such as "1/3"."""
    return (number(gain), "draw", [(number(chance), target) for chance, target in branches])


def way_on(gain, target):
    return draw(gain, (1, target))


class Dice:
    """A row of whole numbers that look random and are the same on every Python."""

    def __init__(self, seed):
        self.state = seed * 7919 + 12345

    def below(self, limit):
        self.state = (self.state * 6364136223846793005 + 1442695040888963407) % 2 ** 64
        return (self.state >> 33) % limit

    def gain(self):
        return number(Fraction(self.below(41) - 20, 1 + self.below(7)))


def made_draw(dice, targets, most):
    """A draw to some of the targets, with chances of a common denominator below 50."""
    weights = [1 + dice.below(8) for _ in range(1 + dice.below(most))]
    branches = [(number(Fraction(weight, sum(weights))), targets[dice.below(len(targets))]) for weight in weights]
    return (dice.gain(), "draw", branches)


def made_chain(seed):
    """A chain whose places lead to few others, so that it often falls into groups."""
    dice = Dice(seed)
    many = 1 + dice.below(9)
    chain = []
    for x in range(many):
        near = [y for y in range(many) if y >= x - 2 - dice.below(2)]
        chain.append(made_draw(dice, near, 1 + dice.below(4)))
    return chain


def made_game(seed, *, draws=True):
    """A game with places of all kinds, or without draws."""
    dice = Dice(seed + 1000)
    many = 2 + dice.below(7)
    game = []
    for _ in range(many):
        kind = ("ours", "theirs", "draw")[dice.below(3 if draws else 2)]
        if kind == "draw":
            game.append(made_draw(dice, list(range(many)), 4))
        else:
            game.append((dice.gain(), kind, [dice.below(many) for _ in range(1 + dice.below(4))]))
    return game


def made_strategy(seed, game, side):
    dice = Dice(seed + 5000)
    return [dice.below(len(place[2])) if place[1] == side else None for place in game]


def targets(place):
    return [item[1] if place[1] == "draw" else item for item in place[2]]


def made_way(seed, game, start, steps):
    dice = Dice(seed + 9000)
    way = []
    for _ in range(steps):
        way.append(dice.below(len(game[start][2])))
        start = targets(game[start])[way[-1]]
    return way


# Chains of all sorts that the points tell apart.
SINGLE = [way_on("7/2", 0)]
SINGLE_THRICE = [draw(-5, ("1/2", 0), ("1/3", 0), ("1/6", 0))]
EXAMPLE = [way_on(4, 1), draw(0, ("1/2", 0), ("1/2", 1))]
RING_OF_TWO = [way_on(4, 1), way_on(0, 0)]
TWO_STAYS = [draw(10, ("1/3", 1), ("2/3", 2)), way_on(3, 1), way_on(-6, 2)]
RINGS_AND_STAY = [
    draw(5, ("1/4", 1), ("1/4", 3), ("1/4", 5), ("1/4", 0)),
    way_on(2, 2), way_on("-1/3", 1),
    way_on(1, 4), way_on(8, 3),
    way_on("1/2", 5),
    draw(-7, ("1/2", 0), ("1/2", 6)),
    way_on(100, 6),
]
SAME_TWICE = [
    draw("1/7", ("1/5", 1), ("2/5", 0), ("1/5", 1), ("1/5", 2)),
    draw("-3/2", ("1/2", 0), ("1/6", 0), ("1/3", 1)),
    draw(9, ("1/3", 2), ("1/3", 0), ("1/3", 2)),
]
RING_OF_THREE_BEHIND = [way_on(-4, 1), draw(1, ("1/2", 2), ("1/2", 4)), way_on(3, 3), way_on(5, 4), way_on(-2, 2)]
MAY_MISS = [draw(1, ("1/2", 1), ("1/2", 2)), way_on(2, 1), way_on(4, 2)]
LONG_NUMBERS = [
    draw(Fraction(997 - 90 * x, 991 - x),
         *[(Fraction(weight, 211 + 2 * x), (x * 5 + k * k + k) % 12)
           for k, weight in enumerate([1, 2, 3, 5, 7, 193 + 2 * x])])
    for x in range(12)
]
NAMED = [SINGLE, SINGLE_THRICE, EXAMPLE, RING_OF_TWO, TWO_STAYS, RINGS_AND_STAY, SAME_TWICE,
         RING_OF_THREE_BEHIND, MAY_MISS, LONG_NUMBERS]
CHAINS = NAMED + [made_chain(seed) for seed in range(60)]
