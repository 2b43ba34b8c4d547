"""The document's words for questions, one after the other, and questions for every path of a shape."""

from oldhands.errors import BadPath, BadTurn
from oldhands.shapes import kind_at
from oldhands.turns import kind_behind, turned
from samples import all_paths
from ways import plain_places

SIGNS = "".join(letter for letter in map(chr, range(32, 127)) if letter not in "\"%")


def plain_look(look, kind):
    """The kind to which a look leads, and how it leads values; None where it is none of the kind."""
    match look, kind:
        case (("ahead" | "behind" as word, str(sep)), ("text", _)):
            at = ("ahead", "behind").index(word)
            return (kind, lambda text: (text.split(sep, 1) + [""])[at]) if len(sep) == 1 and sep in SIGNS else None
        case (("parts", int(k)), ("number", low, high)):
            return (("number", low // k, high // k), lambda one: one // k) if 2 <= k <= 1000 else None
        case (("rest", int(k)), ("number", low, high)):
            return (("number", 0, k - 1), lambda one: one % k) if 2 <= k <= 1000 else None
        case (("ahead" | "behind" | "parts" | "rest", *_), _):
            return None
    try:
        return kind_behind(look, kind), lambda value: turned(look, kind, value)
    except BadTurn:
        return None


def plain_looked(looks, kind, values=()):
    """The kind to which looks lead, and the values to which they lead values; None where they are none."""
    if not isinstance(looks, tuple) or len(looks) > 8:
        return None
    values = list(values)
    for look in looks:
        found = plain_look(look, kind)
        if found is None:
            return None
        kind, do = found
        values = [do(value) for value in values]
    return kind, values


def plain_many(question, room=21):
    """How many a question and those within it are, so far as they have its form, at most room."""
    match question:
        case ("not", one) if room:
            return min(room, 1 + plain_many(one, room - 1))
        case ("both", one, other) if room:
            ahead = 1 + plain_many(one, room - 1)
            return min(room, ahead + (plain_many(other, room - ahead) if ahead < room else 0))
    return min(room, 1)


def plain_is_question(question, shape):
    return plain_many(question) <= 20 and plain_is_formed(question, shape)


def plain_is_formed(question, shape):
    match question:
        case ("not", one):
            return plain_is_formed(one, shape)
        case ("both", one, other):
            return plain_is_formed(one, shape) and plain_is_formed(other, shape)
        case ("there", path):
            return plain_kind(shape, path) is not None
        case ("some" | "every", path, looks, "=" | "<" | ">", told):
            kind = plain_kind(shape, path)
            found = None if kind is None else plain_looked(looks, kind)
            if found is None:
                return False
            # Whole numbers stand beside numbers alone, texts beside texts and choices.
            return isinstance(told, {"number": int, "text": str, "choice": str}.get(found[0][0], ()))
    return False


def plain_kind(shape, path):
    try:
        return kind_at(shape, path) if isinstance(path, tuple) else None
    except BadPath:
        return None


def plain_passes(question, kind, value):
    """For each place of a some's or an every's path, by its where, whether it passes."""
    word, path, looks, sign, told = question
    found = plain_places(kind, value, path)
    values = plain_looked(looks, kind_at(kind, path), found.values())[1]
    return {where: {"=": one == told, "<": one < told, ">": one > told}[sign] for where, one in zip(found, values)}


def plain_asked(question, kind, value):
    match question:
        case ("not", one):
            return not plain_asked(one, kind, value)
        case ("both", one, other):
            return plain_asked(one, kind, value) and plain_asked(other, kind, value)
        case ("there", path):
            return bool(plain_places(kind, value, path))
        case ("some", *_):
            return any(plain_passes(question, kind, value).values())
        case ("every", *_):
            return all(plain_passes(question, kind, value).values())


def some_looks(kind):
    """Some rows of looks that lead from a kind to a number, text or choice kind."""
    match kind:
        case ("number", low, high):
            return [(), (("parts", 2),), (("rest", 3),), (("bounds", 0, 1),), (("scale", 2), ("rest", 3)),
                    (("figures", 31), ("cut", 1)), (("figures", 40), ("behind", "-"))]
        case ("text", most):
            return [(), (("ahead", "-"),), (("behind", "-"), ("cut", 1))]
        case ("choice", words):
            return [(), (("one", 1), ("out",)), (("words", ("x",) * len(words), (("x", words[-1]),)),)]
        case ("list", inner, most) if most:
            return [(("out",),) + looks for looks in some_looks(inner)[:2]] + [
                (("first", 1), ("out",)) + looks for looks in some_looks(inner)[:1]]
    return []


def all_leaves(shape, values, signs="=<>"):
    """Questions for each path of a shape, with what some values of the shape have there for what is told."""
    found = []
    for path in all_paths(shape):
        found.append(("there", path))
        kind = kind_at(shape, path)
        inner = [one for value in values for one in plain_places(shape, value, path).values()]
        for looks in some_looks(kind):
            behind, some = plain_looked(looks, kind, inner)
            other = {"number": 0, "text": "", "choice": "m"}[behind[0]]
            tells = sorted(set(some) | {other})
            for told in tells[:1] + tells[1:][-1:]:
                for sign in signs:
                    found.append(("some", path, looks, sign, told))
                    found.append(("every", path, looks, sign, told))
    return found
