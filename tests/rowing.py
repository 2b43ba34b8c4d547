"""The document's words for rows of changes, one after the other, and rows that are drawn."""

from oldhands.changes import change_about, shape_behind
from oldhands.errors import HandError
from oldhands.leading import led
from oldhands.losses import loser
from oldhands.shapes import kind_at
from oldhands.turns import kind_behind, turn_about, turned
from chains import plain_shapes
from samples import all_paths, items, rec, record, rows, some_value

NAMES = "abcdef"
WORDS = ("swap", "out", "one")


def plain_touches(change):
    path, piece = change
    match piece:
        case ("put", name, _, _) | ("drop", name, _) | ("turn", name, _):
            ends = [(name,)]
        case ("name", one, two):
            ends = [(one,), (two,)]
        case ("sink", name, box) | ("lift", box, name):
            ends = [(name,), (box, name)]
        case ("split", one, _, two, three) | ("join", one, two, _, three):
            ends = [(one,), (two,), (three,)]
        case ("part", one, _, two, three) | ("whole", one, two, _, three, _, _):
            ends = [(one,), (two,), (three,)]
    return sorted({path + end for end in ends})


def plain_meet(one, other):
    pairs = [(ours, theirs) for ours in plain_touches(one) for theirs in plain_touches(other)]
    return any(ours == theirs[:len(ours)] or theirs == ours[:len(theirs)] for ours, theirs in pairs)


def is_row(shape, row):
    try:
        plain_shapes(shape, row)
    except HandError:
        return False
    return True


def plain_goes_out(shape, one, other):
    match one, other:
        case (path, ("put", name, _, _)), (other_path, ("drop", other_name, _)):
            return path == other_path and name == other_name
    return change_about(one, shape) == other and loser(one, shape) is None


def plain_one_turn(first, second, kind):
    match first, second:
        case (("scale" | "shrink" as word, one), (other_word, two)) if word == other_word and one * two <= 1000:
            return (word, one * two)
        case ("bounds", low, high), ("bounds", other_low, other_high):
            within = [low <= kind[1] and kind[2] <= high, low <= other_low and other_high <= high]
            return second if any(within) else None
        case (("cut" | "first" as word, most), (other_word, other_most)) if word == other_word:
            return second if most >= min(kind[-1], other_most) else None
    return None


def plain_one(shape, one, other):
    """The change in the place of two, or None."""
    (path, first), (other_path, second) = one, other
    if path != other_path:
        return None
    fields = dict(kind_at(shape, path)[1])
    match first, second:
        case (("name", a, b), ("name", other_b, c)) if b == other_b and c != a:
            return path, ("name", a, c)
        case (("put", a, kind, value), ("name", other_a, b)) if a == other_a:
            return path, ("put", b, kind, value)
        case (("name", a, b), ("drop", other_b, value)) if b == other_b:
            return path, ("drop", a, value)
        case (("put", a, kind, value), ("turn", other_a, turn)) if a == other_a:
            return path, ("put", a, kind_behind(turn, kind), turned(turn, kind, value))
        case (("turn", a, turn), ("drop", other_a, value)) if a == other_a:
            about = turn_about(turn, fields[a])
            return path, ("drop", a, turned(about, kind_behind(turn, fields[a]), value))
        case (("turn", a, turn), ("turn", other_a, other_turn)) if a == other_a:
            turn = plain_one_turn(turn, other_turn, fields[a])
            return turn and (path, ("turn", a, turn))
    return None


def plain_done(shape, row, step):
    """The row behind a step, None where it can't be done."""
    word, at = step
    if word not in WORDS or not 0 <= at < len(row) - 1:
        return None
    ahead, (one, other), behind = list(row[:at]), row[at:at + 2], list(row[at + 2:])
    here = plain_shapes(shape, ahead)[-1]
    if word == "swap":
        told = ahead + [other, one] + behind
        return None if plain_meet(one, other) or not is_row(shape, told) else told
    if word == "out":
        return ahead + behind if plain_goes_out(here, one, other) else None
    made = plain_one(here, one, other)
    return made and ahead + [made] + behind


def plain_is_short(shape, row):
    for start in range(len(row)):
        here = list(row)
        for at in reversed(range(start)):
            if plain_done(shape, here, ("out", at)) is not None or plain_done(shape, here, ("one", at)) is not None:
                return False
            here = plain_done(shape, here, ("swap", at))
            if here is None:
                break
    return True


def plain_walked(shape, row, steps):
    """The row behind all of the steps, None where one can't be done."""
    here = list(row)
    for step in steps:
        here = plain_done(shape, here, step)
        if here is None:
            return None
    return here


def led_along(shape, row, one):
    for change, here in zip(row, plain_shapes(shape, row)):
        one = led(change, here, one)
    return one


def led_back_along(shape, row, one):
    shapes = plain_shapes(shape, row)
    for at in reversed(range(len(row))):
        one = led(change_about(row[at], shapes[at]), shapes[at + 1], one)
    return one


def unlike(shape, row, other, chance, many=6):
    """What tells that two rows are not alike, so far as some drawn records tell, else None."""
    last = plain_shapes(shape, row)[-1]
    if plain_shapes(shape, other)[-1] != last:
        return "the last shape"
    for at in range(many):
        one = some_value(shape, chance)
        if led_along(shape, row, one) != led_along(shape, other, one):
            return one
        one = some_value(last, chance)
        if led_back_along(shape, row, one) != led_back_along(shape, other, one):
            return one
    return None


BOXED = record(
    a=("number", 0, 9), b=("text", 2), c=record(a=("number", 0, 9), d=("text", 2)),
    d=("list", record(a=("number", 0, 9), b=("choice", ("red", "blue"))), 2),
    e=("rows", "a", record(a=("text", 1), b=("number", -9, 9)), 2),
)
PUTS = (
    (("number", 0, 9), 3), (("number", 5, 5), 5), (("text", 2), "a-"), (("text", 0), ""),
    (("choice", ("red", "blue")), "blue"), (("list", ("number", 0, 9), 2), items(4)), (record(), rec()),
    (record(a=("number", 0, 9)), rec(a=1)), (("rows", "a", record(a=("number", 0, 9)), 2), rows(rec(a=2))),
)


def some_turns(kind, chance):
    match kind:
        case ("number", low, high):
            found = [("scale", 2), ("scale", 40), ("scale", 30), ("shrink", 2), ("shrink", 40), ("figures", 8),
                     ("bounds", low, high)]
            for at in range(4):
                one = chance.randint(-20, 40)
                found.append(("bounds", one, one + chance.choice((0, 3, 9, 40))))
            return found
        case ("text", most):
            return [("cut", chance.randint(0, 5)), ("cut", chance.randint(0, 5)), ("cut", most), ("number", 0, 9)]
        case ("choice", words):
            return [("words", tuple(reversed(words)), tuple(zip(reversed(words), words)))]
        case ("list", inner, most):
            found = [("first", chance.randint(0, 4)), ("first", chance.randint(0, 4)), ("out",)]
            return found + [("items", turn) for turn in some_turns(inner, chance)]
        case ("rows", *_):
            return [("first", chance.randint(0, 4)), ("first", chance.randint(0, 4))]
    return []


def some_pieces(kind, chance):
    """Some pieces of a record kind, good ones and others."""
    fields = dict(kind[1])
    free = chance.choice(NAMES)
    found = [("put", free) + chance.choice(PUTS)]
    for name, inner in fields.items():
        other = chance.choice(NAMES)
        found += [("name", name, other), ("drop", name, some_value(inner, chance)), ("sink", name, other),
                  ("turn", name, ("one", 2)), ("split", name, "-", name, other), ("part", name, 3, name, other),
                  ("join", name, other, "-", name), ("whole", name, other, 3, name, 0, 9)]
        found += [("turn", name, turn) for turn in some_turns(inner, chance)]
        if inner[0] == "record":
            found += [("lift", name, own) for own, deeper in inner[1]]
    return found


def drawn_change(shape, row, shapes, chance):
    """A change that is good for a shape: often one that goes with one of the row."""
    while True:
        if row and chance.random() < 0.4:
            at = chance.randrange(len(row))
            change = change_about(row[at], shapes[at])
            if change[1][0] == "drop" and chance.random() < 0.5:
                change = (change[0], change[1][:2] + (some_value(row[at][1][2], chance),))
        else:
            path = chance.choice([path for path in all_paths(shape) if kind_at(shape, path)[0] == "record"])
            if row and chance.random() < 0.5:
                path = chance.choice(row)[0]
            if not is_row(shape, [(path, ("put", "zz", ("text", 0), ""))]):
                continue
            change = (path, chance.choice(some_pieces(kind_at(shape, path), chance)))
        if is_row(shape, [change]):
            return change


def drawn_row(shape, many, chance):
    row, shapes = [], [shape]
    for at in range(many):
        row.append(drawn_change(shapes[-1], row, shapes, chance))
        shapes.append(shape_behind(row[-1], shapes[-1]))
    return row
