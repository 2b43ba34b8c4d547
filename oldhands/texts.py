"""Texts read back to kinds, values, turns, pieces, paths and changes."""

from oldhands.errors import BadText
from oldhands.kinds import made_kind
from oldhands.tokens import END, WordRow
from oldhands.values import made_value
from oldhands.words import most_exchanged, parts_behind

# Parts that are a word, a colon and a part of another sort: of a record kind, of a record, of the turn by words.
PAIR_SORTS = {"field": "kind", "entry": "value", "way": "word"}

# Values in brackets: the opening one, the value's word, the sort of what stands within, and the closing one.
BRACKETED = (("[", "list", "value", "]"), ("{", "record", "entry", "}"), ("(", "rows", "value", ")"))


def read_kind(text):
    """The kind that a text writes; refused with BadText, then with BadKind."""
    return made_kind(read_all(text, "kind"))


def read_value(text, kind):
    """The value of a kind that a text writes; refused with BadText, then with BadValue."""
    return made_value(read_all(text, "value"), kind)


def read_turn(text):
    """The turn that a text writes, by its form alone; refused with BadText."""
    return read_all(text, "turn")


def read_piece(text):
    """The piece that a text writes, by its form alone; refused with BadText."""
    return read_all(text, "piece")


def read_path(text):
    """The path that a text writes, by its form alone; refused with BadText."""
    return read_all(text, "path")


def read_change(text):
    """The change that a text writes, by its form alone; refused with BadText."""
    return read_all(text, "change")


def read_all(text, sort):
    """The part of a sort that a whole text writes; refused with BadText."""
    row = WordRow(text)
    told = part_read(row, sort)
    if row.coming(0) != END:
        raise BadText("more comes than is told")
    return told


def part_read(row, sort):
    """The part of a sort with which the words that come begin; refused with BadText."""
    if sort == "value":
        return value_read(row)
    if sort == "kind":
        return kind_read(row)
    if sort == "turn":
        return turn_read(row)
    if sort == "piece":
        return form_read(row, "piece", row.take("word"))
    if sort == "path":
        return path_read(row)
    if sort == "change":
        path = path_read(row)
        return (path, part_read(row, "piece"))
    if sort in PAIR_SORTS:
        return pair_read(row, PAIR_SORTS[sort])
    return row.take(sort)


def pair_read(row, sort):
    """The pair of a word and a part of a sort that come with a colon between."""
    word = row.take("word")
    row.take_mark(":")
    return (word, part_read(row, sort))


def kind_read(row):
    """The kind that comes, by its form alone."""
    word = row.take("word")
    if word == "choice":
        row.take_mark("(")
        return (word, at_least_one(list_read(row, "word", ")")))
    if word == "record":
        row.take_mark("(")
        return (word, list_read(row, "field", ")"))
    found = form_read(row, "kind", word)
    return (word,) + most_exchanged(word, found[1:])


def value_read(row):
    """The value that comes, by its form alone."""
    for opening, word, sort, closing in BRACKETED:
        if row.comes(opening):
            row.take_mark(opening)
            return (word, list_read(row, sort, closing))
    if row.coming(0)[0] == "number":
        return row.take("number")
    return row.take("text")


def turn_read(row):
    """The turn that comes, by its form alone."""
    word = row.take("word")
    if word != "words":
        return form_read(row, "turn", word)
    row.take_mark("(")
    forth = at_least_one(list_read(row, "word", ";"))
    return (word, forth, at_least_one(list_read(row, "way", ")")))


def path_read(row):
    """The path that comes."""
    row.take_mark("/")
    # Blanks tell nothing apart: a word with a bracket behind it is the piece's, behind the empty path.
    if row.coming(0)[0] != "word" or row.coming(1) == ("mark", "("):
        return ()
    names = [row.take("word")]
    while row.comes("/"):
        row.take_mark("/")
        names.append(row.take("word"))
    return tuple(names)


def form_read(row, sort, word):
    """The tuple of a word of a sort, which was taken, and of its parts that come in brackets."""
    form = parts_behind(sort, word)
    if form is None:
        raise BadText("there is no such word here")
    row.take_mark("(")
    found = [word]
    for part_sort in form:
        if len(found) > 1:
            row.take_mark(",")
        found.append(part_read(row, part_sort))
    row.take_mark(")")
    return tuple(found)


def list_read(row, sort, closing):
    """The tuple of parts of a sort that come, with commas between, up to a mark."""
    found = []
    while not row.comes(closing):
        if len(found) > 0:
            row.take_mark(",")
        found.append(part_read(row, sort))
    row.take_mark(closing)
    return tuple(found)


def at_least_one(parts):
    """The parts themselves; refused with BadText where there are none."""
    if len(parts) == 0:
        raise BadText("there must be a word here")
    return parts
