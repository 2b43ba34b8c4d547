"""The document's words for deeds, one after the other, and deeds that are drawn."""

from oldhands.leading import led
from oldhands.shapes import kind_at
from oldhands.values import is_of
from chains import drawn_write, plain_begun, plain_written
from samples import all_paths, nudged, some_value
from ways import plain_places


def plain_set(kind, value, where, other):
    """The value with another one at a where that is one of its places."""
    if not where:
        return other
    entry, rest = where[0], where[1:]
    match kind:
        case ("record", fields):
            return ("record", tuple((name, plain_set(dict(fields)[name], one, rest, other) if name == entry else one)
                                    for name, one in value[1]))
        case ("list", inner, _):
            return ("list", tuple(plain_set(inner, one, rest, other) if at == entry else one
                                  for at, one in enumerate(value[1])))
        case ("rows", key, inner, _):
            return ("rows", tuple(plain_set(inner, one, rest, other) if dict(one[1])[key] == entry else one
                                  for one in value[1]))


def plain_wheres(kind, value):
    """Every where of a value, with the kind there."""
    return [(where, kind_at(kind, path)) for path in all_paths(kind) for where in plain_places(kind, value, path)]


def plain_turned(key, before, after):
    unlike = [at for at, (one, other) in enumerate(zip(before, after)) if one != other]
    return ("turned", key, (unlike[0], unlike[-1]) if unlike else None)


def plain_do(versions, views, deed):
    """The versions and the views by keys behind a deed that is not refused, and what it tells."""
    match deed:
        case ("write", number, key, one) if key not in views:
            return versions, views | {key: plain_begun(versions, number, one)}, ("new", key)
        case ("write", number, key, one):
            after = plain_written(versions, views[key], number, one)[0]
            return versions, views | {key: after}, plain_turned(key, views[key], after)
        case ("set", number, key, where, value):
            one = plain_set(versions.shape(number), views[key][number], where, value)
            return plain_do(versions, views, ("write", number, key, one))
        case ("drop", key):
            return versions, {own: some for own, some in views.items() if own != key}, ("gone", key)
        case ("grow", change):
            shape = versions.shape(versions.many() - 1)
            grown = {key: some + [led(change, shape, some[-1])] for key, some in views.items()}
            return versions.grown(change), grown, ("version", versions.many())


class PlainOffice:
    """Keeps what was ahead of each deed."""

    def __init__(self, versions):
        self.rows, self.undone, self.states = [], [], [(versions, {})]

    def put(self, deed):
        versions, views, told = plain_do(*self.states[-1], deed)
        self.states.append((versions, views))
        self.rows.append(deed)
        return told

    def do(self, deed):
        self.undone = []
        return self.put(deed)

    def back(self):
        self.states.pop()
        self.undone.append(self.rows.pop())
        return self.undone[-1]

    def again(self):
        self.put(self.undone.pop())
        return self.rows[-1]

    def told(self):
        versions, views = self.states[-1]
        return told_by(versions, sorted(views), lambda number, key: views[key][number], list(self.rows))


def told_by(versions, keys, read, rows):
    many = versions.many()
    return (
        [versions.shape(number) for number in range(many)], [versions.change(number) for number in range(many - 1)],
        keys, {key: [read(number, key) for number in range(many)] for key in keys}, rows,
    )


def told_of(office):
    """All that an office tells."""
    return told_by(office.versions(), office.all_keys(), office.read, office.deeds())


def drawn_set(versions, views, key, chance):
    """A good set of a record: mostly a little thing, at some where."""
    while True:
        number = chance.randrange(versions.many())
        shape, one = versions.shape(number), views[key][number]
        where, kind = chance.choice(plain_wheres(shape, one))
        value = nudged(kind, plain_at(shape, one, where), chance)
        told = plain_set(shape, one, where, value)
        # A key that turned has taken its where along.
        if is_of(told, shape) and where in [own for own, kind in plain_wheres(shape, told)]:
            return ("set", number, key, where, value)


def plain_at(kind, value, where):
    """The value at a where that is one of its places."""
    found = [plain_places(kind, value, path) for path in all_paths(kind)]
    return [some[where] for some in found if where in some][0]


def drawn_deed(versions, views, chance, changes=(), keys="abc"):
    """Some deed that is not refused; changes are those that may come, by the versions from which they lead."""
    key = chance.choice(keys)
    word = chance.choice(["write"] * 3 + ["set"] * 4 + ["drop", "grow"])
    if word == "grow" and versions.many() <= len(changes):
        return ("grow", changes[versions.many() - 1])
    if key not in views:
        number = chance.randrange(versions.many())
        return ("write", number, key, some_value(versions.shape(number), chance))
    if word == "drop":
        return ("drop", key)
    if word == "set":
        return drawn_set(versions, views, key, chance)
    number, one = drawn_write(versions, views[key], chance)
    return ("write", number, key, one)
