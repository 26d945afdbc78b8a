"""How tests write calls and read answers, and a second, slow telling of the document to compare with."""

import fractions
import functools
import itertools

from likeliersets.shares import answers

GREATEST = 4294967295
MOST_CALLS = 20


def begin(n):
    return [0, n]


def tell(k, a, b):
    return [1, k, a, b]


def untell(t):
    return [2, t]


CAN = [3]
WAYS = [4]
PLAINEST = [5]


def fits(x):
    return [6, len(x)] + x


def wrong(x):
    return [7, len(x)] + x


def rules(a, b):
    return [8, a, b]


def all_shares(a, b):
    return [9, a, b]


BROKEN = [10]

BEYOND = [11]
WHOLE = [12]


def chance(a):
    return [13, a]


def given(a, b, c):
    return [14, a, b, c]


ALIKE = [15]
CLASHES = [16]
SPARE = [17]


def settled(t):
    return [18, t]


def look(t):
    return [19, t]


STATE = [20]


def said(*calls):
    """Each call's answer, as a list of its own."""
    assert len(calls) <= MOST_CALLS
    given = answers([number for call in calls for number in call])
    split = []
    at = 0
    while at < len(given):
        split.append(given[at + 1:at + 1 + given[at]])
        at += 1 + given[at]
    assert at == len(given)
    assert len(split) == len(calls)
    return split


def last(*calls):
    return said(*calls)[-1]


def after(n, told, *calls):
    """What the calls answer behind a begin and what is told."""
    setting = [begin(n)] + [tell(*one) for one in told]
    return said(*setting, *calls)[len(setting):]


def asked_of_pairs(call, n, told):
    """For every two sets, what the call answers of them."""
    pairs = list(itertools.product(range(2 ** n), repeat=2))
    step = MOST_CALLS - 1 - len(told)
    table = {}
    for at in range(0, len(pairs), step):
        some = pairs[at:at + step]
        answered = after(n, told, *[call(a, b) for a, b in some])
        table.update(zip(some, [answer[0] for answer in answered]))
    return table


def share(chosen, x):
    return sum(part for world, part in enumerate(x) if chosen // 2 ** world % 2)


def model_agrees(x, one):
    kind, a, b = one
    return [share(a, x) > share(b, x), share(a, x) >= share(b, x), share(a, x) == share(b, x)][kind]


def model_fits(x, told):
    return all([model_agrees(x, one) for one in told])


@functools.lru_cache(maxsize=None)
def every_shares(n, most):
    every = [x for x in itertools.product(range(most + 1), repeat=n) if 1 <= sum(x) <= most]
    return tuple(sorted(every, key=lambda x: (sum(x), x)))


def model_fitting(n, told, most=10):
    return [list(x) for x in every_shares(n, most) if model_fits(x, told)]


def model_all(a, b, fitting):
    if all([share(a, x) > share(b, x) for x in fitting]):
        return 2
    return 1 if all([share(a, x) >= share(b, x) for x in fitting]) else 0


def model_chance(a, fitting):
    chances = [fractions.Fraction(share(a, x), sum(x)) for x in fitting]
    return [0, min(chances).numerator, min(chances).denominator, max(chances).numerator, max(chances).denominator]


def model_given(a, b, c, fitting):
    return -62 if 0 in [share(c, x) for x in fitting] else model_all(a & c, b & c, fitting)


def without_one(told, t):
    return told[:t] + told[t + 1:]


def model_spare(n, told):
    fitting = model_fitting(n, told)
    return [t for t in range(len(told)) if model_fitting(n, without_one(told, t)) == fitting]


def model_clashes(n, told):
    clashes = []
    for some in itertools.product((0, 1), repeat=len(told)):
        chosen = [one for one, there in zip(told, some) if there]
        if not model_fitting(n, chosen) and all(
                [model_fitting(n, without_one(chosen, t)) for t in range(len(chosen))]):
            clashes.append(sum(2 ** t for t, there in enumerate(some) if there))
    return sorted(clashes)


def subsets(chosen):
    return [part for part in range(chosen + 1) if part & chosen == part]


def model_facts(n, told):
    """What the rules begin with: triples of two sets and whether the first is likelier."""
    every = 2 ** n - 1
    facts = {(a, b, False) for a in range(every + 1) for b in subsets(a)}
    facts.add((every, 0, True))
    for kind, a, b in told:
        facts.add((a, b, kind == 0))
        if kind == 2:
            facts.add((b, a, False))
    return facts


def model_rules(n, told):
    """The rules used fact by fact, one new fact at a time, until nothing new comes."""
    every = 2 ** n - 1
    waiting = sorted(model_facts(n, told))
    known = set()
    while waiting:
        fact = waiting.pop()
        if fact in known:
            continue
        known.add(fact)
        a, b, more = fact
        waiting += [(a | c, b | c, more) for c in subsets(every & ~(a | b))]
        waiting += [(a & ~c, b & ~c, more) for c in subsets(a & b)]
        waiting += [(a, d, more or further) for c, d, further in known if c == b]
        waiting += [(c, b, more or further) for c, d, further in known if d == a]
    return {(a, b): 2 if (a, b, True) in known else int((a, b, False) in known)
            for a in range(every + 1) for b in range(every + 1)}


def pairs_apart(n):
    return [(a, b) for a, b in itertools.product(range(2 ** n), repeat=2) if a & b == 0]


def model_whole(n, table):
    return int(all([table[a, b] or table[b, a] for a, b in pairs_apart(n)]))


def model_alike(n, table):
    return [(a, b) for a, b in pairs_apart(n) if a < b and table[a, b] == table[b, a] == 1]


def model_beyond(n, table, fitting):
    return [(a, b) for a, b in pairs_apart(n) if model_all(a, b, fitting) > table[a, b]]


def model_settled(n, told, t):
    kind, a, b = told[t]
    table = model_rules(n, without_one(told, t))
    return int([table[a, b] == 2, table[a, b] > 0, table[a, b] > 0 and table[b, a] > 0][kind])


def told_by_shares(source, x, most):
    """Something told that the shares agree with, so that it isn't broken."""
    told = []
    while len(told) < most:
        one = (source.randrange(3), source.randrange(2 ** len(x)), source.randrange(2 ** len(x)))
        if model_agrees(x, one):
            told.append(one)
    return told


def told_at_hand(source, n, most):
    """A list of at most so many that are told, drawn from a random source that a test has seeded."""
    return [(source.randrange(3), source.randrange(2 ** n), source.randrange(2 ** n))
            for one in range(source.randrange(most + 1))]


# Worlds a to e are 0 to 4: d over ac, bc over ad, ae over cd. Added up: be over acd.
FIVE_WORLDS = [(0, 8, 5), (0, 6, 9), (0, 17, 12)]
FIVE_WORLDS_SUM = (18, 13)
