"""Facts: what each word asks, and when a fact is sound for a district."""

DAYS = (1, 400)
FOLK = (1, 40)
SIDES = (0, 1)
LINES = (1, 23)
STEPS = (0, 4)
COINS = (1, 1000000)
MOST_COLUMNS = 16

# A vein isn't here: it asks tuples, while all other words ask numbers alone.
ASKS = {
    "join": ("day", "day", "below"),
    "stake": ("folk", "x", "y", "x", "y"),
    "work": ("day",),
    "sell": ("day", "folk"),
    "part": ("day", "side", "line", "folk"),
    "give": ("day",),
    "dig": ("folk", "x", "y", "x", "y", "floor", "coins"),
    "pay": ("folk", "folk", "coins"),
}


def bounds(size):
    return {
        "day": DAYS,
        "folk": FOLK,
        "x": (0, size[0] - 1),
        "y": (0, size[1] - 1),
        "floor": (0, size[2]),
        "below": (1, size[2]),
        "side": SIDES,
        "line": LINES,
        "step": STEPS,
        "coins": COINS,
    }


def fits(value, bound):
    # Python counts True and False among the whole numbers; the document doesn't.
    if isinstance(value, bool) or not isinstance(value, int):
        return False
    return bound[0] <= value <= bound[1]


def all_fit(size, asked, values):
    if len(values) != len(asked):
        return False
    known = bounds(size)
    return all([fits(value, known[kind]) for value, kind in zip(values, asked)])


def is_cell(size, thing):
    return isinstance(thing, tuple) and all_fit(size, ("x", "y"), thing)


def good_steps(size, steps):
    return isinstance(steps, tuple) and all_fit(size, ("step",) * size[2], steps)


def good_outcrops(size, outcrops):
    if not isinstance(outcrops, tuple) or not 1 <= len(outcrops) <= MOST_COLUMNS:
        return False
    if not all([is_cell(size, thing) for thing in outcrops]):
        return False
    return len(set(outcrops)) == len(outcrops)


def sound_vein(size, fact):
    return len(fact) == 3 and good_steps(size, fact[1]) and good_outcrops(size, fact[2])


def numbers_agree(fact):
    if fact[0] == "stake":
        return fact[2] <= fact[4] and fact[3] <= fact[5]
    if fact[0] == "pay":
        return fact[1] != fact[2]
    return True


def sound(size, fact):
    if fact[0] == "vein":
        return sound_vein(size, fact)
    if fact[0] not in ASKS:
        return False
    return all_fit(size, ASKS[fact[0]], fact[1:]) and numbers_agree(fact)
