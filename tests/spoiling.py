"""Values spoilt in one place, by luck."""


def spots(value, way=()):
    """The ways to all that stands in a nested tuple, itself let in."""
    found = [way]
    if isinstance(value, tuple):
        for k, part in enumerate(value):
            found += spots(part, way + (k,))
    return found


def at(value, way):
    for k in way:
        value = value[k]
    return value


def put(value, way, part):
    if not way:
        return part
    k = way[0]
    return value[:k] + (put(value[k], way[1:], part),) + value[k + 1:]


def spoilt(luck, value):
    """The value with something else in one place."""
    while True:
        way = luck.choice(spots(value))
        found = put(value, way, other(luck, at(value, way)))
        if repr(found) != repr(value):
            return found


def other(luck, part):
    if isinstance(part, bool):
        return luck.choice([not part, int(part)])
    if isinstance(part, int):
        return luck.choice([part + 1, part - 1, -part, 2 * part, part == 1, None, (part,)])
    if not isinstance(part, tuple):
        return luck.choice([None, "x", "y", "at", "some", part + part, ()])
    which = luck.randint(0, 6)
    k = luck.randint(0, max(0, len(part) - 1))
    if which == 0:
        return list(part)
    if which == 1:
        return part[:k] + part[k + 1:]
    if which == 2:
        return part[:k] + part[k:k + 1] + part[k:]
    if which == 3:
        return part[::-1]
    if which == 4:
        return part + luck.choice([(), (0,), ((),), ((0, 1),)])
    if which == 5 and len(part) > 1:
        k = luck.randint(0, len(part) - 2)
        return part[:k] + (part[k + 1], part[k]) + part[k + 2:]
    return luck.choice([(), None, (0, 1), (1, 2), 5])
