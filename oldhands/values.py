"""Values, of what kind they are, and the fields of records."""

from oldhands.errors import BadValue
from oldhands.kinds import is_whole_within

# The percent sign by its number: it may stand in no text of the program.
PERCENT = 37


def is_sign(letter):
    """Whether a text of one letter is a sign that a text value may hold."""
    return " " <= letter <= "~" and letter != '"' and ord(letter) != PERCENT


def is_of(value, kind):
    """Whether a number, a text or a tuple is a value of a kind."""
    word = kind[0]
    if word == "number":
        return is_whole_within(value, kind[1], kind[2])
    if word == "text":
        return is_text_of(value, kind[1])
    if word == "choice":
        return isinstance(value, str) and value in kind[1]
    if word == "list":
        return holds_items(value, "list", kind[1], kind[2])
    if word == "record":
        return is_record_of(value, kind[1])
    return holds_items(value, "rows", kind[2], kind[3]) and are_keyed(value[1], kind[1])


def made_value(value, kind):
    """The value itself; refused with BadValue where it is not of the kind."""
    if not is_of(value, kind):
        raise BadValue("this is no value of the kind")
    return value


def is_text_of(value, most):
    """Whether a value is a text of at most so many signs."""
    if not isinstance(value, str) or len(value) > most:
        return False
    return all([is_sign(letter) for letter in value])


def holds_tuple(value, word):
    """Whether a value is a pair of this word and a tuple."""
    return isinstance(value, tuple) and len(value) == 2 and value[0] == word and isinstance(value[1], tuple)


def holds_items(value, word, kind, most):
    """Whether a value has this word and at most so many items, each of the kind."""
    if not holds_tuple(value, word) or len(value[1]) > most:
        return False
    return all([is_of(item, kind) for item in value[1]])


def is_record_of(value, fields):
    """Whether a value is a record of just these fields, each of its kind."""
    if not holds_tuple(value, "record") or len(value[1]) != len(fields):
        return False
    return all([is_pair_of(pair, field) for pair, field in zip(value[1], fields)])


def is_pair_of(pair, field):
    """Whether this is a pair of the field's name and a value of its kind."""
    if not isinstance(pair, tuple) or len(pair) != 2:
        return False
    return pair[0] == field[0] and is_of(pair[1], field[1])


def are_keyed(items, key):
    """Whether the records' keys are unlike and ascending."""
    keys = [field_of(item, key) for item in items]
    return all([ahead < behind for ahead, behind in zip(keys, keys[1:])])


def least_value(kind):
    """The least value of a kind."""
    word = kind[0]
    if word == "number":
        return min(max(0, kind[1]), kind[2])
    if word == "text":
        return ""
    if word == "choice":
        return kind[1][0]
    if word == "record":
        return ("record", tuple([(name, least_value(inner)) for name, inner in kind[1]]))
    return (word, ())


def field_of(record, name):
    """The value of a record's field."""
    for own, value in record[1]:
        if own == name:
            return value
    return None


def record_of(fields):
    """The record of a dict of values by names."""
    return ("record", tuple([(name, fields[name]) for name in sorted(fields)]))


def with_fields(record, names, values):
    """The record with these values in the fields of these names, put in where they weren't."""
    fields = dict(record[1])
    for name, value in zip(names, values):
        fields[name] = value
    return record_of(fields)


def without_fields(record, names):
    """The record without the fields of these names."""
    return ("record", tuple([pair for pair in record[1] if pair[0] not in names]))
