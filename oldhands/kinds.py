"""Names and kinds: what a record's fields may hold."""

from oldhands.errors import BadKind

LETTERS = "abcdefghijklmnopqrstuvwxyz"
LONGEST_NAME = 8
EACH = "each"

MOST_SIGNS = 60
MOST_WORDS = 8
MOST_FIELDS = 8
MOST_ITEMS = 8
MOST_KINDS = 40
DEEPEST = 5

# How many parts a kind has, its word among them.
PART_COUNTS = {"number": 3, "text": 2, "choice": 2, "list": 3, "record": 2, "rows": 4}


def is_name(text):
    """Whether a text is a name."""
    if not isinstance(text, str) or not 1 <= len(text) <= LONGEST_NAME:
        return False
    return text != EACH and all([letter in LETTERS for letter in text])


def is_whole(thing):
    """Whether a thing is a whole number."""
    return isinstance(thing, int) and not isinstance(thing, bool)


def is_whole_within(thing, low, high):
    """Whether a thing is a whole number from low to high."""
    return is_whole(thing) and low <= thing <= high


def made_kind(kind):
    """The kind itself; refused with BadKind where it is none."""
    if not is_formed(kind, DEEPEST):
        raise BadKind("this has no form of a kind, or goes too deep")
    if kind_many(kind) > MOST_KINDS:
        raise BadKind("there are too many kinds within this one")
    return kind


def is_formed(thing, room):
    """Whether a thing has the form of a kind and is at most room deep."""
    # The room is looked at first: whatever is handed in, the calls go no deeper than a kind may.
    if room == 0 or not has_parts(thing):
        return False
    word = thing[0]
    if word == "number":
        return are_bounds(thing[1], thing[2])
    if word == "text":
        return is_whole_within(thing[1], 0, MOST_SIGNS)
    if word == "choice":
        return are_words(thing[1])
    if word == "list":
        return is_formed(thing[1], room - 1) and is_whole_within(thing[2], 0, MOST_ITEMS)
    if word == "record":
        return are_fields(thing[1], room - 1)
    return are_rows(thing[1], thing[2], room - 1) and is_whole_within(thing[3], 0, MOST_ITEMS)


def has_parts(thing):
    """Whether a thing is a tuple of a kind's word and of as many parts as that kind has."""
    if not isinstance(thing, tuple) or len(thing) == 0 or not isinstance(thing[0], str):
        return False
    return PART_COUNTS.get(thing[0]) == len(thing)


def are_bounds(low, high):
    """Whether these are the bounds of a number kind."""
    if not is_whole(low) or not is_whole(high):
        return False
    return -10 ** 30 <= low <= high <= 10 ** 30


def are_words(words):
    """Whether these are the words of a choice."""
    if not isinstance(words, tuple) or not 1 <= len(words) <= MOST_WORDS:
        return False
    return all([is_name(word) for word in words]) and len(set(words)) == len(words)


def are_fields(fields, room):
    """Whether these are the fields of a record kind, none of them more than room deep."""
    if not isinstance(fields, tuple) or len(fields) > MOST_FIELDS:
        return False
    if not all([is_field(field, room) for field in fields]):
        return False
    names = [name for name, kind in fields]
    return all([ahead < behind for ahead, behind in zip(names, names[1:])])


def is_field(field, room):
    """Whether this is a pair of a name and a kind at most room deep."""
    if not isinstance(field, tuple) or len(field) != 2:
        return False
    return is_name(field[0]) and is_formed(field[1], room)


def are_rows(key, items, room):
    """Whether rows can have items of this kind, at most room deep, by this key."""
    if not is_formed(items, room) or items[0] != "record":
        return False
    key_kind = field_kind(items, key)
    return key_kind is not None and key_kind[0] in ("number", "text")


def field_kind(kind, name):
    """The kind of a record kind's field, None where there is no such field."""
    if kind[0] != "record":
        return None
    for own, inner in kind[1]:
        if own == name:
            return inner
    return None


def item_kind(kind):
    """The kind of the items of a list or of rows, None where a kind has no items."""
    if kind[0] == "list":
        return kind[1]
    if kind[0] == "rows":
        return kind[2]
    return None


def kinds_within(kind):
    """The kinds straight within a kind, in order."""
    if kind[0] == "record":
        return [inner for name, inner in kind[1]]
    inner = item_kind(kind)
    return [] if inner is None else [inner]


def kind_many(kind):
    """How many kinds a kind and those within it are."""
    return 1 + sum([kind_many(inner) for inner in kinds_within(kind)])


def kind_depth(kind):
    """How deep a kind is, 1 where there is none within it."""
    return 1 + max([kind_depth(inner) for inner in kinds_within(kind)], default=0)
