"""Texts of lockers for the tests, and what else is handed in."""

import random

# The greatest m and i.
GREATEST = 18446744073709551615


class Frozen(list):
    """A list that can't be changed, not for a while either."""

    def refuse(self, *args, **kwargs):
        raise AssertionError("what is handed in is changed")

    append = extend = insert = pop = remove = clear = sort = reverse = refuse
    __setitem__ = __delitem__ = __iadd__ = __imul__ = refuse


def look(n):
    """The look whose colours, read as one hexadecimal number, are n: different for different n."""
    return f"{n:016x}"


def text(*lines):
    """The bytes of the lines, each with a byte 10 behind it."""
    return list("".join(line + "\n" for line in lines).encode("latin-1"))


def sign(name, n, copies=1, shape="square"):
    return f"sign {name} {copies} {shape} {look(n)}"


def same(k, n, copies=1, shape="tails"):
    return f"same {k} {copies} {shape} {look(n)}"


def answer(n, copies=1, shape="long"):
    return f"answer {copies} {shape} {look(n)}"


def locker(signs, sames=(), answers=()):
    """A locker's text: signs' copies, (K, copies) of sames, the answer's copies."""
    lines = [sign(f"S{n}", n, copies) for n, copies in enumerate(signs)]
    lines += [same(k, k, copies) for k, copies in sames]
    lines += [answer(9, copies) for copies in answers]
    return text("locker L", *lines)


def small_lockers(seed, turns):
    """So many lockers, small enough for plain searches."""
    chance = random.Random(seed)
    for turn in range(turns):
        signs = [chance.randint(1, 5) for sign in range(chance.randint(1, 3))]
        ks = sorted(chance.sample((1, 2, 3, 4), chance.randint(0, 4)))
        yield locker(signs, [(k, chance.randint(1, 3)) for k in ks], [1] * chance.randrange(2))


def six_sign_lockers():
    return [locker([1, 2, 3, 4, 5, 1], [(1, 1), (3, 1)]), locker([1, 1, 2, 2, 1, 1], [(1, 2), (2, 1)]),
            locker([3, 1, 1, 2, 3, 1], [(2, 1), (3, 1), (4, 1)])]


def rows_of_great_lockers(seed):
    """Copies of 48 signs, and a row of four that a locker of these and no sames shows."""
    chance = random.Random(seed)
    for copies in ([1] * 48, [3] * 48, [1 + n % 8 for n in range(48)]):
        for turn in range(4):
            row = chance.sample(range(48), 3)
            row.append(chance.choice([sign for sign in range(48) if sign not in row or copies[sign] > 1]))
            chance.shuffle(row)
            yield copies, row


# Kinds 0 to 4 are the signs A to E, 5 to 8 the sames with K 1 to 4, 9 the answer.
# Of A, the same with K 2 and the answer there are 2 copies, of E 8, of all others 1.
FULL = text(
    "locker FULL",
    sign("A", 0, 2),
    sign("B", 1),
    sign("C", 2),
    sign("D", 3),
    sign("E", 4, 8),
    same(1, 5),
    same(2, 6, 2),
    same(3, 7),
    same(4, 8),
    answer(9, 2),
)
A, B, C, D, E, SAME1, SAME2, SAME3, SAME4, ANSWER, NO_KIND = range(11)
