"""Plain walks and trials of the tests' own, with which the answers of the package are compared."""

import math


def exchanged(bends, place):
    """The bends with the other of the two integers that fit with the other three at a place."""
    others = [bend for at, bend in enumerate(bends) if at != place]
    return tuple(2 * sum(others) - bend if at == place else bend for at, bend in enumerate(bends))


def walked(bends, word):
    """The bends at the end of a word."""
    for place in word:
        bends = exchanged(bends, place)
    return tuple(bends)


def fits(bends):
    """Whether bends are a four, as the document says it."""
    touch = 2 * sum(bend * bend for bend in bends) == sum(bends) ** 2
    return touch and sum(bends) > 0 and math.gcd(*bends) == 1


def words_up_to(length, places=(0, 1, 2, 3)):
    """All words of these places in which no letter follows itself, by length, as tuples."""
    rows = [()]
    for word in rows:
        yield word
        if len(word) < length:
            rows.extend(word + (place,) for place in places if word[-1:] != (place,))


def lowered(bends):
    """The least four below bends and the letters back up, by trying all exchanges."""
    letters = []
    while True:
        down = [place for place in range(4) if exchanged(bends, place)[place] < bends[place]]
        if not down:
            return tuple(bends), tuple(reversed(letters))
        bends = exchanged(bends, down[0])
        letters.append(down[0])


def is_least(bends):
    """Whether no exchange makes a bend less."""
    return all(exchanged(bends, place)[place] >= bends[place] for place in range(4))


def circles_round(bends, place, most):
    """(bend, word, at) of all circles up to most that touch the one at a place, by walking without its letter."""
    found = [(bends[at], (), at) for at in range(4) if at != place and bends[at] <= most]
    rows = [(tuple(bends), ())]
    while rows:
        now, word = rows.pop()
        for at in range(4):
            if at == place or word[-1:] == (at,):
                continue
            then = exchanged(now, at)
            if then[at] <= most:
                found.append((then[at], word + (at,), at))
            # An exchange that made the bend greater than most is followed by greater ones alone.
            if then[at] <= most or then[at] < now[at]:
                rows.append((then, word + (at,)))
    return found


def least_fours(rim):
    """All least fours with ascending bends and this rim, by trying all pairs of the next two bends."""
    found = []
    for near in range(1, 2 * rim + 2):
        for middle in range(near, (rim * rim + near * near // 4) // near + 2):
            first, second = near - rim, middle - rim
            for one, other in ((near + rim, middle + rim), (first, second)):
                found.extend(ends(rim, one, other))
    return sorted(set(found))


def ends(rim, one, other):
    """The least fours that begin with a rim and two more bends."""
    inner = one * other - rim * (one + other)
    if inner < 0:
        return
    root = math.isqrt(inner)
    if root * root == inner:
        for last in (one + other - rim - 2 * root, one + other - rim + 2 * root):
            bends = (-rim, one, other, last)
            if list(bends) == sorted(bends) and fits(bends) and is_least(bends):
                yield bends


def least_numbers(side):
    """The numbers of all least forms of a side, those with a half below 0, too, by trying all first and half."""
    found = []
    for first in range(1, 2 * side + 1):
        for half in range(-first, first + 1):
            last, over = divmod(side * side + half * half, first)
            if over == 0 and math.gcd(first, half, last) == 1 and is_least_form((first, half, last)):
                found.append((first, half, last))
    return sorted(found)


def is_least_form(numbers):
    """Whether numbers are those of a least form, as the document says it."""
    first, half, last = numbers
    return -first < 2 * half <= first <= last and (first != last or half >= 0)


def told_pairs(bound):
    """All told pairs with numbers of at most bound."""
    pairs = [(x, y) for x in range(1, bound + 1) for y in range(-bound, bound + 1) if math.gcd(x, y) == 1]
    return [(0, 1)] + pairs


def turn(bends, place):
    """The bends, turned at a place: the bend there with the other sign, each other one with twice it more."""
    here = bends[place]
    return tuple(-here if at == place else bend + here + here for at, bend in enumerate(bends))


def way_down(bends):
    """The rims, the base and the steps of the pedigree of bends, by leading down and turning."""
    rims, steps = [], []
    least, letters = lowered(bends)
    while sorted(least) != [0, 0, 1, 1]:
        place = [at for at in range(4) if least[at] < 0][0]
        rims.append(-least[place])
        steps.insert(0, (place, letters))
        bends = turn(least, place)
        least, letters = lowered(bends)
    return tuple(rims), tuple(bends), tuple(steps)


def along(bends, steps):
    """The bends to which steps lead, and the bends at which they turned."""
    turns = []
    for place, word in steps:
        turns.append(bends[place])
        bends = walked(turn(bends, place), word)
    return tuple(bends), turns


def fours_near(bends, most):
    """All fours, as bends, one exchange at most beyond those of a gasket with no bend above most."""
    start = lowered(bends)[0]
    seen, left = {start}, [start]
    while left:
        now = left.pop()
        for place in range(4):
            then = exchanged(now, place)
            if then not in seen:
                seen.add(then)
                if max(then) <= most:
                    left.append(then)
    return seen


def by_prime(number, prime):
    """The symbol by an odd prime, by looking at all squares."""
    if number % prime == 0:
        return 0
    return 1 if any((root * root - number) % prime == 0 for root in range(1, prime)) else -1


def own_symbol(number, by):
    """The symbol by an odd integer above 0: the product of those by its primes."""
    value = 1
    prime = 3
    while by > 1:
        while by % prime == 0:
            value *= by_prime(number, prime)
            by //= prime
        prime += 2
    return value


def own_pair_sign(one, other):
    """The sign of a pair of coprime integers, by the primes of the odd one."""
    number, odd = (one, other) if other % 2 else (other, one)
    return own_symbol(number if odd % 4 == 1 else 2 * number, abs(odd))


def sign_near(bends):
    """The one sign of all coprime pairs that touch in the fours near the least one of bends."""
    start = lowered(bends)[0]
    signs = set()
    for now in [start] + [exchanged(start, place) for place in range(4)]:
        for one in now:
            for other in now:
                if math.gcd(one, other) == 1 and other % 2:
                    signs.add(own_pair_sign(one, other))
    (sign,) = signs
    return sign


def all_circles(bends, most):
    """(bend, letters, place) for all circles up to a bend, in their order, by walking down all running words."""
    start = lowered(bends)[0]
    found = [(bend, 0, (), place) for place, bend in enumerate(start) if bend <= most]
    left = [(start, ())]
    while left:
        now, word = left.pop()
        for place in range(4):
            then = exchanged(now, place)
            if word[-1:] != (place,) and then[place] <= most:
                found.append((then[place], len(word) + 1, word + (place,), place))
                left.append((then, word + (place,)))
    return tuple((bend, word, place) for bend, _, word, place in sorted(found))
