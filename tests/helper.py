"""What the tests share: texts as bytes, a card to bet on, the calls on texts, and combinations one by one."""

import itertools

from betwords import desk

# Interests of the races: 1 to 6; 1, 2, 3, 5 (4 runs with 2); 1, 4 (2, 3 run with 1); 1 to 24; 1, 2.
DAY = (
    "day monday\n"
    "race 6\n"
    "race 5 couple 2 4\n"
    "race 4 couple 1 2 couple 1 3\n"
    "race 24\n"
    "race 2\n"
    "pool win place 1 from 1 take 0 break 1 least 0 unit 1 none refund\n"
    "pool show place 3 from 2 take 400 break 1000 least 10 unit 5 none carry\n"
    "pool exacta order 2 from 3 take 100 break 10 least 20 unit 10 none fewer\n"
    "pool trio order 3 from 2 take 100 break 10 least 0 unit 2 none refund\n"
    "pool four order 4 from 4 take 100 break 10 least 0 unit 1 none refund\n"
    "pool quinella any 2 from 2 take 100 break 10 least 0 unit 1 none refund\n"
    "pool three any 3 from 1 take 100 break 10 least 0 unit 1 none refund\n"
    "pool double legs 2 from 2 take 100 break 10 least 0 unit 100 none carry\n"
    "pool five legs 5 from 1 take 100 break 10 least 0 unit 1 none fewer\n"
)
# Of each race only the heads are interests: FIRST, SECOND, THIRD, FOURTH.
COUPLED = ("day d\nrace 5 couple 2 4\nrace 4 couple 1 2 couple 1 3\nrace 5 couple 2 4 couple 1 5\n"
           "race 7 couple 3 4\n")
FIRST = [1, 2, 3, 5]
SECOND = [1, 4]
THIRD = [1, 2, 3]
FOURTH = [1, 2, 3, 5, 6, 7]
POOLS = [
    ("p1", "place", 1, 1, [FIRST]), ("p3", "place", 3, 1, [FIRST]), ("p4", "place", 4, 4, [FOURTH]),
    ("o2", "order", 2, 1, [FIRST] * 2), ("o3", "order", 3, 1, [FIRST] * 3), ("o4", "order", 4, 4, [FOURTH] * 4),
    ("a2", "any", 2, 1, [FIRST] * 2), ("a3", "any", 3, 1, [FIRST] * 3), ("b3", "any", 3, 4, [FOURTH] * 3),
    ("l2", "legs", 2, 2, [SECOND, THIRD]), ("l3", "legs", 3, 2, [SECOND, THIRD, FOURTH]),
    ("l4", "legs", 4, 1, [FIRST, SECOND, THIRD, FOURTH]),
]


def codes(text):
    """A text as the list of its bytes."""
    return list(text.encode("latin-1"))


def judge(bet, card=DAY):
    return desk.judge(codes(card), codes(bet))


def means(bet, card=DAY):
    return desk.means(codes(card), codes(bet))


def many(bet, card=DAY):
    return desk.many(codes(card), codes(bet))


def cost(bet, card=DAY):
    return desk.cost(codes(card), codes(bet))


def has(number, bet, card=DAY):
    return desk.has(number, codes(card), codes(bet))


def nth(i, bet, card=DAY):
    return desk.nth(i, codes(card), codes(bet))


def list_of(bet, card=DAY):
    return desk.list_of(codes(card), codes(bet))


def both(bet, other, card=DAY):
    return desk.both(codes(card), codes(bet), codes(other))


def rows(kind, fields):
    """All combinations of a pool in the order of rows, from the interests that each of their numbers may be."""
    if kind == "order":
        return list(itertools.permutations(fields[0], len(fields)))
    if kind == "any":
        return list(itertools.combinations(fields[0], len(fields)))
    return list(itertools.product(*fields))


def fits(kind, how, row, sets):
    """Whether a combination is one of those that on, box or key with these sets means."""
    if how == "box":
        return set(row) <= set(sets[0])
    if how == "key":
        return set(sets[0]) <= set(row) <= set(sets[0]) | set(sets[1])
    orders = itertools.permutations(row) if kind == "any" else [row]
    return any(all(number in some for number, some in zip(order, sets)) for order in orders)


def told_of(pool, how, sets):
    """The numbers of a bet's combinations, found by going through all of the pool (one of POOLS)."""
    name, kind, size, race, fields = pool
    return [number for number, row in enumerate(rows(kind, fields)) if fits(kind, how, row, sets)]


def numbers(first, last):
    """The set of all numbers from first to last, as a word."""
    return ",".join(str(number) for number in range(first, last + 1))


def big_day(races=6):
    """A card with 24 runners in each race and the largest pools of each kind."""
    pools = [("p4", "place 4"), ("o3", "order 3"), ("o4", "order 4"), ("a3", "any 3"), ("l6", "legs 6")]
    lines = ["day big\n"] + ["race 24\n"] * races
    lines += [f"pool {name} {kind} from 1 take 0 break 1 least 0 unit 1 none refund\n" for name, kind in pools]
    return "".join(lines)


def faulty_bets():
    """Bets with each fault alone: its kind, its place, a card, the bet."""
    dear = f"bet o4 for 8421 box {numbers(1, 24)}\n"
    return [
        (1, 18, DAY, "bet win for 1 on 1"), (1, 0, DAY, ""), (2, 18, DAY, "bet win for 1 on 1 \n"),
        (2, 0, DAY, "\n"), (3, 8, DAY, "bet win four 1 on 1\n"), (3, 13, DAY, "bet win for 1\n"),
        (4, 17, DAY, "bet win for 1 on 7\n"), (4, 12, DAY, "bet win for 0 on 1\n"),
        (5, 4, DAY, "bet lose for 1 on 1\n"), (6, 15, DAY, "bet trio for 2 on 1 / 1 / 2\n"),
        (6, 19, DAY, "bet quinella for 1 on 2 / 2\n"), (7, 11, big_day(), dear),
        (8, 19, DAY, "bet win for 1 on 1\n\n"),
    ]


def card_of(pools):
    """A card with these of POOLS."""
    return COUPLED + "".join(f"pool {name} {kind} {size} from {race} take 0 break 1 least 0 unit 1 none carry\n"
                             for name, kind, size, race, fields in pools)


CARD = card_of(POOLS)


def word(some):
    return ",".join(str(number) for number in some)


def written(name, stake, how, sets):
    return f"bet {name} for {stake} {how} " + (" with " if how == "key" else " / ").join(map(word, sets)) + "\n"


def parts(interests, least=1):
    """All sets of at least so many of these."""
    return [list(some) for size in range(least, len(interests) + 1)
            for some in itertools.combinations(interests, size)]


def a_part(chance, interests, least=1):
    return sorted(chance.sample(interests, chance.randrange(least, len(interests) + 1)))


def keys(interests, size):
    """All pairs of sets that a key may have."""
    return [[bankers, others] for bankers in parts(interests) if len(bankers) < size
            for others in parts([number for number in interests if number not in bankers])
            if len(bankers) + len(others) >= size]
