"""What several tests need: short words for kinds and values, and all values of small kinds."""

import itertools


def record(**fields):
    """A record kind."""
    return ("record", tuple(sorted(fields.items())))


def rec(**fields):
    """A record."""
    return ("record", tuple(sorted(fields.items())))


def items(*some):
    return ("list", tuple(some))


def rows(*some):
    return ("rows", tuple(some))


def deep(depth, inner=("number", 0, 9)):
    """A kind of lists of so many kinds one in another."""
    for level in range(depth - 1):
        inner = ("list", inner, 1)
    return inner


def letters(count, kind=("number", 0, 9)):
    """A record kind of so many fields of one kind."""
    return record(**{"abcdefghijkl"[at]: kind for at in range(count)})


def places(thing, above=()):
    """The indexes that lead to each thing within a tuple, itself among them."""
    found = [above]
    if isinstance(thing, tuple):
        for at, inner in enumerate(thing):
            found.extend(places(inner, above + (at,)))
    return found


def put_at(thing, place, other):
    if not place:
        return other
    at = place[0]
    return thing[:at] + (put_at(thing[at], place[1:], other),) + thing[at + 1:]


def all_values(kind, signs="a-"):
    """Every value of a small kind, its texts of these signs alone."""
    match kind:
        case ("number", low, high):
            return list(range(low, high + 1))
        case ("text", most):
            return ["".join(some) for count in range(most + 1) for some in itertools.product(signs, repeat=count)]
        case ("choice", words):
            return list(words)
        case ("list", inner, most):
            some = all_values(inner, signs)
            return [items(*row) for count in range(most + 1) for row in itertools.product(some, repeat=count)]
        case ("record", fields):
            each = [all_values(inner, signs) for name, inner in fields]
            names = [name for name, inner in fields]
            return [("record", tuple(zip(names, some))) for some in itertools.product(*each)]
        case ("rows", key, inner, most):
            some = sorted(all_values(inner, signs), key=lambda one: dict(one[1])[key])
            found = []
            for count in range(most + 1):
                for row in itertools.combinations(some, count):
                    keys = [dict(one[1])[key] for one in row]
                    if keys == sorted(set(keys)):
                        found.append(rows(*row))
            return found


def some_value(kind, chance, signs="ab-.1"):
    """Some value of a kind, drawn by a chance that is handed in, its texts of these signs alone."""
    match kind:
        case ("number", low, high):
            return chance.randint(low, high)
        case ("text", most):
            return "".join(chance.choice(signs) for at in range(chance.randint(0, most)))
        case ("choice", words):
            return chance.choice(words)
        case ("list", inner, most):
            return items(*[some_value(inner, chance, signs) for at in range(chance.randint(0, most))])
        case ("record", fields):
            return ("record", tuple((name, some_value(inner, chance, signs)) for name, inner in fields))
        case ("rows", key, inner, most):
            drawn = [some_value(inner, chance, signs) for at in range(chance.randint(0, most))]
            by_key = {dict(one[1])[key]: one for one in drawn}
            return rows(*[by_key[own] for own in sorted(by_key)])


def all_paths(kind):
    """Every path that leads from a kind."""
    match kind:
        case ("list", inner, _) | ("rows", _, inner, _):
            return [()] + [("each",) + path for path in all_paths(inner)]
        case ("record", fields):
            return [()] + [(name,) + path for name, inner in fields for path in all_paths(inner)]
    return [()]


def nudged(kind, value, chance, signs="ab-.1"):
    """The value with some little thing within it another one, or the same."""
    match kind:
        case ("record", fields) if fields:
            at = chance.randrange(len(fields))
            name, inner = value[1][at]
            return put_at(value, (1, at, 1), nudged(fields[at][1], inner, chance, signs))
        case ("list", inner, most) if value[1] and chance.random() < 0.7:
            at = chance.randrange(len(value[1]))
            return put_at(value, (1, at), nudged(inner, value[1][at], chance, signs))
        case ("rows", key, inner, most) if value[1] and chance.random() < 0.7:
            at = chance.randrange(len(value[1]))
            some = put_at(value[1], (at,), nudged(inner, value[1][at], chance, signs))
            by_key = {dict(one[1])[key]: one for one in some}
            return rows(*[by_key[own] for own in sorted(by_key)])
    return some_value(kind, chance, signs)
