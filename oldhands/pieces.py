"""Pieces: how records of one record kind are led to another one, and back."""

from oldhands.errors import BadKind, BadPiece
from oldhands.kinds import field_kind, is_name, is_whole, made_kind
from oldhands.turns import is_factor, kind_behind, nearest, turn_about, turned
from oldhands.values import field_of, is_of, is_sign, with_fields, without_fields

# What stands behind a piece's word, part by part.
PIECE_FORMS = {
    "put": ("text", "tuple", "any"),
    "drop": ("text", "any"),
    "name": ("text", "text"),
    "sink": ("text", "text"),
    "lift": ("text", "text"),
    "turn": ("text", "tuple"),
    "split": ("text", "text", "text", "text"),
    "join": ("text", "text", "text", "text"),
    "part": ("text", "number", "text", "text"),
    "whole": ("text", "text", "number", "text", "number", "number"),
}


def taken_paths(piece):
    """The paths from a record to the fields that a piece takes, in order."""
    word = piece[0]
    if word == "put":
        return []
    if word == "lift":
        return [(piece[1], piece[2])]
    if word in ("join", "whole"):
        return [(piece[1],), (piece[2],)]
    return [(piece[1],)]


def made_paths(piece):
    """The paths from a record to the fields that a piece makes, in order."""
    word = piece[0]
    if word == "drop":
        return []
    if word == "sink":
        return [(piece[2], piece[1])]
    if word in ("name", "lift"):
        return [(piece[2],)]
    if word in ("split", "part"):
        return [(piece[3],), (piece[4],)]
    if word in ("join", "whole"):
        return [(piece[4],)]
    return [(piece[1],)]


def record_behind(piece, kind):
    """The record kind to which a piece leads the records of one; refused with BadPiece, a turn with BadTurn."""
    if not has_piece_form(piece):
        raise BadPiece("this has no form of a piece")
    if not can_take(piece, kind):
        raise BadPiece("the piece takes what is not there so")
    kinds = made_kinds(piece, old_values(piece, kind))
    if not can_make(piece, kind):
        raise BadPiece("the piece makes what can't be there")
    try:
        # A record kind has the form of a record, with kinds as its values.
        return made_kind(with_new(piece, kind, kind, kinds))
    except BadKind:
        raise BadPiece("the piece leads to what is no record kind") from None


def has_piece_form(piece):
    """Whether this is a tuple of a piece's word and of parts of the sorts that it has."""
    if not isinstance(piece, tuple) or len(piece) == 0 or not isinstance(piece[0], str):
        return False
    form = PIECE_FORMS.get(piece[0])
    if form is None or len(form) != len(piece) - 1:
        return False
    return all([is_part(part, sort) for part, sort in zip(piece[1:], form)])


def is_part(part, sort):
    """Whether a part of a piece is of a sort."""
    if sort == "text":
        return isinstance(part, str)
    if sort == "number":
        return is_whole(part)
    return sort == "any" or isinstance(part, tuple)


def can_take(piece, kind):
    """Whether the fields that a piece takes are there, unlike, and of the kinds that it takes."""
    paths = taken_paths(piece)
    kinds = [kind_down(kind, path) for path in paths]
    if len(set(paths)) != len(paths) or None in kinds:
        return False
    return takes_kinds(piece, kinds)


def kind_down(kind, path):
    """The kind to which names lead from a record kind, None where they lead to none."""
    here = kind
    for name in path:
        here = None if here is None else field_kind(here, name)
    return here


def takes_kinds(piece, kinds):
    """Whether a piece takes fields of these kinds, with what it says of them."""
    word = piece[0]
    if word == "put":
        return is_kind(piece[2]) and is_of(piece[3], piece[2])
    if word == "drop":
        return is_of(piece[2], kinds[0])
    if word == "split":
        return kinds[0][0] == "text" and is_separator(piece[2])
    if word == "join":
        return kinds[0][0] == "text" and kinds[0] == kinds[1] and is_separator(piece[3])
    if word == "part":
        return kinds[0][0] == "number" and is_factor(piece[2])
    if word == "whole":
        return is_factor(piece[3]) and tuple(kinds) == part_kinds(piece[5], piece[6], piece[3])
    return True


def is_kind(thing):
    """Whether a tuple is a kind."""
    try:
        made_kind(thing)
    except BadKind:
        return False
    return True


def is_separator(text):
    """Whether a text is one sign."""
    return len(text) == 1 and is_sign(text)


def part_kinds(low, high, factor):
    """The kinds of the k-th part of a number from low to high, and of what is left."""
    return (("number", low // factor, high // factor), ("number", 0, factor - 1))


def made_kinds(piece, kinds):
    """The kinds of the fields that a piece makes of those that it takes; a turn refuses with BadTurn."""
    word = piece[0]
    if word == "put":
        return (piece[2],)
    if word == "drop":
        return ()
    if word == "turn":
        return (kind_behind(piece[2], kinds[0]),)
    if word == "split":
        return (kinds[0], kinds[0])
    if word == "part":
        return part_kinds(kinds[0][1], kinds[0][2], piece[2])
    if word == "whole":
        return (("number", piece[5], piece[6]),)
    return (kinds[0],)


def can_make(piece, kind):
    """Whether the fields that a piece makes are unlike, have names, and are not there once those it takes are gone."""
    paths = made_paths(piece)
    if len(set(paths)) != len(paths):
        return False
    rest = without_taken(piece, kind)
    return all([is_free(rest, path) for path in paths])


def is_free(kind, path):
    """Whether a field could be put in at the end of a path of names from a record kind."""
    outer = kind_down(kind, path[:-1])
    if outer is None or outer[0] != "record":
        return False
    return is_name(path[-1]) and field_kind(outer, path[-1]) is None


def piece_about(piece, kind):
    """The piece that leads from the kind behind to the elder kind; refused as by record_behind."""
    record_behind(piece, kind)
    word = piece[0]
    if word == "put":
        return ("drop", piece[1], piece[3])
    if word == "drop":
        return ("put", piece[1], field_kind(kind, piece[1]), piece[2])
    if word == "name":
        return ("name", piece[2], piece[1])
    if word == "sink":
        return ("lift", piece[2], piece[1])
    if word == "lift":
        return ("sink", piece[2], piece[1])
    if word == "turn":
        return ("turn", piece[1], turn_about(piece[2], field_kind(kind, piece[1])))
    if word == "split":
        return ("join", piece[3], piece[4], piece[2], piece[1])
    if word == "join":
        return ("split", piece[4], piece[3], piece[1], piece[2])
    if word == "part":
        elder = field_kind(kind, piece[1])
        return ("whole", piece[3], piece[4], piece[2], piece[1], elder[1], elder[2])
    return ("part", piece[4], piece[3], piece[1], piece[2])


def old_values(piece, record):
    """What a piece takes of a record of the elder kind."""
    return tuple([value_down(record, path) for path in taken_paths(piece)])


def new_values(piece, record):
    """What a piece has made in a record of the kind behind."""
    return tuple([value_down(record, path) for path in made_paths(piece)])


def value_down(record, path):
    """The value to which names lead from a record."""
    here = record
    for name in path:
        here = field_of(here, name)
    return here


def made_values(piece, kind, values):
    """The new values to which a piece leads old values."""
    word = piece[0]
    if word == "put":
        return (piece[3],)
    if word == "drop":
        return ()
    if word == "turn":
        return (turned(piece[2], field_kind(kind, piece[1]), values[0]),)
    if word == "split":
        return halves(values[0], piece[2])
    if word == "join":
        return (joined(values[0], values[1], piece[3], field_kind(kind, piece[1])[1]),)
    if word == "part":
        return divmod(values[0], piece[2])
    if word == "whole":
        return (nearest(values[0] * piece[3] + values[1], piece[5], piece[6]),)
    return tuple(values)


def halves(text, separator):
    """What stands ahead of the first separator in a text and what behind it."""
    found = text.partition(separator)
    return (found[0], found[2])


def joined(one, two, separator, most):
    """The text of at most so many signs that two texts with a separator between make."""
    text = (one if two == "" else one + separator + two)[:most]
    # A text that ends with its first separator would be split as the one without it is.
    if text != "" and text.find(separator) == len(text) - 1:
        return text[:-1]
    return text


def with_new(piece, kind, record, values):
    """The record of the kind behind with these new values, all else being as in the record of the elder kind."""
    told = without_taken(piece, record)
    for path, value in zip(made_paths(piece), values):
        told = with_down(told, path, value)
    return told


def without_taken(piece, record):
    """The record without the fields that a piece takes."""
    rest = record
    for path in taken_paths(piece):
        rest = without_down(rest, path)
    return rest


def without_down(record, path):
    """The record without the field to which names lead."""
    if len(path) == 1:
        return without_fields(record, path)
    box = without_down(field_of(record, path[0]), path[1:])
    return with_fields(record, path[:1], [box])


def with_down(record, path, value):
    """The record with a value in the field to which names lead, put in where it wasn't."""
    if len(path) == 1:
        return with_fields(record, path, [value])
    box = with_down(field_of(record, path[0]), path[1:], value)
    return with_fields(record, path[:1], [box])
