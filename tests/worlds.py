"""Games of all sorts with places of both sides, for the tests of worths and values."""

from fractions import Fraction

from tests.support import Dice, EXAMPLE, RINGS_AND_STAY, SINGLE, TWO_STAYS, draw, made_draw, made_game, number, way_on


def ours(gain, *targets):
    return (number(gain), "ours", list(targets))


def theirs(gain, *targets):
    return (number(gain), "theirs", list(targets))


def wide_gain(dice):
    return number(Fraction(dice.below(1999) - 999, 1 + dice.below(999)))


def full_game(seed):
    """A game of 12 places with 6 branches each, of all three kinds."""
    dice = Dice(seed + 300)
    kinds = ["draw", "ours", "theirs"] + [("draw", "ours", "theirs")[dice.below(3)] for _ in range(9)]
    game = []
    for kind in kinds:
        branches = [dice.below(12) for _ in range(6)]
        if kind == "draw":
            weights = [1 + dice.below(160) for _ in branches]
            branches = [(number(Fraction(weight, sum(weights))), target) for weight, target in zip(weights, branches)]
        game.append((wide_gain(dice), kind, branches))
    return game


def small_game(seed):
    """A game of few places and branches, all of whose strategies can be looked at."""
    dice = Dice(seed + 7000)
    many = 1 + dice.below(5)
    game = []
    for x in range(many):
        kind = ("ours", "theirs", "draw")[dice.below(3)]
        near = [y for y in range(many) if y >= x - 1 - dice.below(3)]
        if kind == "draw":
            game.append(made_draw(dice, near, 3))
        else:
            game.append((number(Fraction(dice.below(9) - 4, 1 + dice.below(2))), kind,
                         [near[dice.below(len(near))] for _ in range(1 + dice.below(3))]))
    return game


def slow_game(seed):
    """A game of 12 places in which rare chances lead on, so that only long plays tell branches apart."""
    dice = Dice(seed + 400)
    game = []
    for x in range(12):
        near = [max(0, min(11, x + dice.below(4) - 1)) for _ in range(1 + dice.below(6))]
        gain = (0, 0, 1, -1, 999, -999)[dice.below(6)]
        kind = ("draw", "draw", "ours", "theirs")[dice.below(4)]
        if kind == "draw":
            back = (0, x, max(0, x - 1))[dice.below(3)]
            game.append(draw(gain, ("998/999", back), ("1/999", near[0])))
        else:
            game.append((number(gain), kind, near))
    return game


def whole_game(seed, most):
    """A small game whose gains are whole numbers up to `most` in absolute value."""
    dice = Dice(seed + 1700)
    game = small_game(seed + dice.below(900))
    return [(number(dice.below(2 * most + 1) - most + dice.below(2)), kind, branches) for _, kind, branches in game]


def lone_game(seed):
    """A game that is ours alone."""
    dice = Dice(seed + 2300)
    many = 1 + dice.below(7)
    game = []
    for x in range(many):
        near = [y for y in range(many) if y >= x - 1 - dice.below(3)]
        listed = [near[dice.below(len(near))] for _ in range(1 + dice.below(3))]
        game.append((dice.gain(), "ours", listed) if dice.below(4) else way_on(dice.below(9) - 4, listed[0]))
    return game


DISCOUNTS = [(1, 2), (99, 100), (1, 100), (9, 10), (100003, 100019)]
LONG_DISCOUNT = (10 ** 60, 10 ** 60 + 7)

SINGLES = [SINGLE, [ours("-7/3", 0)], [theirs(999, 0, 0)], [ours(-999, 0, 0, 0)], [draw("1/2", ("1/3", 0), ("2/3", 0))]]
OF_DISCOUNTS = [ours(1, 0, 1), way_on(3, 0)]
OF_REPLIES = [ours(4, 0, 1), theirs(-2, 0, 1)]
OF_VALUES = [ours(0, 1, 2), theirs(6, 0, 1), draw("5/2", ("1/2", 2), ("1/2", 0))]
# Either branch of the first place is as good in the long run, but one loses something on the way.
LOSS_ON_THE_WAY = [ours(0, 1, 2), way_on(0, 1), way_on(-5, 1)]
GIFT_ON_THE_WAY = [theirs(0, 1, 2), way_on(0, 1), way_on(5, 1)]
# The gain on the way to the poor place is greater than a lead without a lift allows.
LURE = [ours(0, 1, 2), way_on(1, 1), way_on(100, 3), way_on(0, 3)]
TRAP = [theirs(0, 1, 2), way_on("-1/2", 1), way_on(-999, 3), way_on("1/3", 3)]
# The others can steer into several groups that are never left.
STEERED = [draw("1/2", ("1/4", 0), ("3/4", 1)), theirs(3, 2, 4, 3, 2), ours(-1, 3, 3), draw(5, (1, 2)),
           theirs(2, 4, 5), ours("7/3", 4, 5)]
STEERED_BY_US = [draw("1/2", ("1/4", 0), ("3/4", 1)), ours(3, 2, 4, 3, 2), theirs(-1, 3, 3), draw(5, (1, 2)),
                 ours(2, 4, 5), theirs("7/3", 4, 5)]
# Several branches are equally good: through equal places, and through a place that is named twice.
EQUALS = [ours(0, 3, 1, 2, 1), draw(5, (1, 4)), draw(5, (1, 5)), way_on(1, 3), way_on(2, 4), way_on(2, 5),
          theirs(0, 3, 7, 8, 7), draw(-5, (1, 9)), draw(-5, (1, 10)), way_on(-2, 9), way_on(-2, 10), ours(9, 6, 0, 0)]
IDLE = [ours(0, 1, 0), theirs(0, 0, 1, 2), draw(0, ("1/2", 0), ("1/2", 2))]
KNOWN = [OF_DISCOUNTS, OF_REPLIES, OF_VALUES, LOSS_ON_THE_WAY, GIFT_ON_THE_WAY, LURE, TRAP, STEERED, STEERED_BY_US,
         EQUALS, IDLE]
SOME_CHAINS = [EXAMPLE, RINGS_AND_STAY, TWO_STAYS]
ONE_SIDED = [game for game in KNOWN + [made_game(seed) for seed in range(60)]
             if len({place[1] for place in game} & {"ours", "theirs"}) == 1]
FULL = [full_game(seed) for seed in range(12)]
SLOW = [slow_game(seed) for seed in range(24)]
NO_DRAWS = [made_game(seed, draws=False) for seed in range(25)]
MADE = [made_game(seed) for seed in range(40)]
SMALL = SINGLES + KNOWN[:8] + [small_game(seed) for seed in range(45)]
GAMES = SINGLES + KNOWN + SOME_CHAINS + ONE_SIDED + NO_DRAWS + MADE + SMALL[13:] + FULL
# What callers may hand in somewhat beyond the limits: more places, more branches, longer numbers.
BEYOND = [((1000 + 7 * x, 1001 + x) if x % 2 else (-5003, 1), ("ours", "theirs")[x % 2],
           [(x * x + 5 * k) % 14 for k in range(8)]) for x in range(12)]
BEYOND += [draw(1, *[("1/8", 3 * k % 14) for k in range(8)]), draw(-2500, ("1/1009", 0), ("1008/1009", 12))]
