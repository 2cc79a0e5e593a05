"""Pieces of work that are made up so that way 1 has much to try: lines of few letters, many rooms, letters of no width,
joins and pairs that lines which begin at different places are long in agreeing on."""

import random

WIDE = [19968 + number for number in range(8)]
SIGNS = WIDE + [97, 98, 32, 173, 8203]
ROOMS = ([0], [0, 1], [0, 1, 5], [1], [1, 2, 3], [5, 7, 10], [0, 0, 0, 5], [32767, 0], [1000, 900, 0], [100, 1000, 3000])
POOLS = ([19968], [19968, 19969], WIDE, SIGNS, [97, 32], [97, 98, 97, 98, 32], [97, 173], [97, 98, 19968, 173, 173],
         [19968, 19968, 19968, 19969, 32, 173])


def two_names(chance, names, most):
    return sorted({(chance.choice(names), chance.choice(names)) for _ in range(most)})


def made_font(chance, units, up, rooms):
    names = ["l%d" % number for number in range(chance.randint(1, 6))]
    rows = ["font %d %d 0 0" % (units, up)]
    rows += ["letter %s %d" % (name, chance.choice(rooms)) for name in names]
    rows += ["char %d %s" % (code, chance.choice(names)) for code in SIGNS if chance.random() < 0.8]
    if chance.random() < 0.5:
        rows += ["pair %s %s %d" % (a, b, chance.randint(-10, 10)) for a, b in two_names(chance, names, 6)]
    if chance.random() < 0.3:
        rows += ["join %s %s %s" % (a, b, chance.choice(names)) for a, b in two_names(chance, names, 4)]
    return list("".join(row + "\n" for row in rows).encode())


def made_text(chance, long):
    pool = chance.choice(POOLS)
    form = chance.randint(0, 2)
    if form == 0:
        return [chance.choice(pool) for _ in range(long)]
    if form == 1:
        return ([chance.choice(pool) for _ in range(chance.randint(1, 40))] * long)[:long]
    text = []
    while len(text) < long:
        text += [chance.choice(pool)] * chance.randint(1, chance.choice([2, 20, 300]))
    return text[:long]


def made_bands(chance, high, wide, most):
    form = chance.randint(0, 3)
    bands = []
    if form == 1:
        top = 0
        for _ in range(64):
            bottom = top + chance.randint(1, chance.choice([3, 30, 300])) * high
            left = chance.choice([0, 0, wide, wide // 2, max(0, wide - most), chance.randint(0, max(1, wide))])
            bands += [top, bottom, left, 0]
            top = bottom + chance.choice([0, 0, 1, 2, 20]) * high
    elif form == 2:
        bottom = high * chance.choice([100, 1000, 5000, 10000])
        bands += [0, bottom, chance.choice([0, wide, wide // 2, max(0, wide - most)]), 0]
    elif form == 3:
        height = high * chance.choice([100, 1000, 5000])
        for _ in range(64):
            top = chance.randint(0, height)
            bottom = top + chance.randint(1, max(1, height // 10))
            bands += [top, bottom, chance.randint(0, max(1, wide)), chance.randint(0, max(1, wide // 2))]
    return [min(2 ** 24, number) for number in bands]


def made_rough(seed, long=4096):
    chance = random.Random(seed)
    units, up = chance.choice([1, 1, 10, 1000]), chance.choice([0, 1, 1, 10])
    rooms = chance.choice(ROOMS)
    font = made_font(chance, units, up, rooms)
    text = made_text(chance, long)
    size = chance.choice([1, 1, 10, 640, 1000])
    most = max(1, max(rooms) * size // units)
    wide = chance.choice([0, 1, most // 2, most, most + 1, 2 * most, 3 * most, 5 * most, 10 * most, 20 * most, 100 * most])
    wide = min(wide, 2 ** 24)
    bands = made_bands(chance, max(1, (2 * up * size + units) // (2 * units)), wide, most)
    return [chance.choice([0, 1, 2]), wide, chance.choice([0, 0, min(most, 2 ** 20)]), 3, 1, [len(text), 0, size], [],
            bands, text, [font]]
