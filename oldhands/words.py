"""How kinds, values, turns, pieces, paths and changes are written."""

from oldhands.turns import figures_of

# What stands in the brackets behind a word, part by part, as it is written. Choices, records and the turn by words
# have any number of parts, so they are not here.
KIND_PARTS = {
    "number": ("number", "number"),
    "text": ("number",),
    "list": ("number", "kind"),
    "rows": ("word", "number", "kind"),
}
TURN_PARTS = {
    "bounds": ("number", "number"),
    "scale": ("number",),
    "shrink": ("number",),
    "figures": ("number",),
    "number": ("number", "number"),
    "cut": ("number",),
    "first": ("number",),
    "one": ("number",),
    "out": (),
    "items": ("turn",),
}
PIECE_PARTS = {
    "put": ("word", "kind", "value"),
    "drop": ("word", "value"),
    "name": ("word", "word"),
    "sink": ("word", "word"),
    "lift": ("word", "word"),
    "turn": ("word", "turn"),
    "split": ("word", "text", "word", "word"),
    "join": ("word", "word", "text", "word"),
    "part": ("word", "number", "word", "word"),
    "whole": ("word", "word", "number", "word", "number", "number"),
}


def parts_behind(sort, word):
    """The sorts of the parts in the brackets behind a kind's, turn's or piece's word, None where there is no such."""
    if sort == "kind":
        return KIND_PARTS.get(word)
    if sort == "turn":
        return TURN_PARTS.get(word)
    return PIECE_PARTS.get(word)


def kind_text(kind):
    """A kind as it is written."""
    word = kind[0]
    if word == "choice":
        return in_brackets(word, list(kind[1]))
    if word == "record":
        return in_brackets(word, [pair_text(name, kind_text(inner)) for name, inner in kind[1]])
    return form_text("kind", (word,) + most_exchanged(word, kind[1:]))


def most_exchanged(word, parts):
    """The parts of a kind; of a list and of rows most is written ahead of the items' kind, so these are exchanged."""
    if word in ("list", "rows"):
        return parts[:-2] + (parts[-1], parts[-2])
    return parts


def value_text(value):
    """A value as it is written."""
    if isinstance(value, int):
        return figures_of(value)
    if isinstance(value, str):
        return quoted(value)
    if value[0] == "record":
        inner = with_commas([pair_text(name, value_text(own)) for name, own in value[1]])
        return "{" + inner + "}"
    inner = with_commas([value_text(item) for item in value[1]])
    if value[0] == "list":
        return "[" + inner + "]"
    return "(" + inner + ")"


def turn_text(turn):
    """A turn as it is written."""
    word = turn[0]
    if word == "words":
        forth = with_commas(list(turn[1]))
        back = with_commas([pair_text(behind, elder) for behind, elder in turn[2]])
        return f"{word}({forth}; {back})"
    return form_text("turn", turn)


def piece_text(piece):
    """A piece as it is written."""
    return form_text("piece", piece)


def path_text(path):
    """A path as it is written."""
    return "/" + "/".join(path)


def change_text(change):
    """A change as it is written."""
    return path_text(change[0]) + " " + piece_text(change[1])


def form_text(sort, thing):
    """A tuple of a word of a sort and its parts, in the order in which they are written."""
    form = parts_behind(sort, thing[0])
    return in_brackets(thing[0], [part_text(part, part_sort) for part, part_sort in zip(thing[1:], form)])


def part_text(part, sort):
    """A part of a sort as it is written."""
    if sort == "word":
        return part
    if sort == "kind":
        return kind_text(part)
    if sort == "turn":
        return turn_text(part)
    # Numbers and texts stand as they stand as values.
    return value_text(part)


def in_brackets(word, texts):
    """A word and, in brackets, some texts."""
    inner = with_commas(texts)
    return f"{word}({inner})"


def with_commas(texts):
    """Some texts with commas between."""
    return ", ".join(texts)


def pair_text(word, text):
    """A word, a colon and a text."""
    return f"{word}: {text}"


def quoted(text):
    """A text in quotation marks."""
    return '"' + text + '"'
