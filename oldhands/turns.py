"""Turns: how values of one kind are led to another kind, and back."""

from oldhands.errors import BadKind, BadTurn
from oldhands.kinds import are_bounds, are_words, is_whole, is_whole_within, made_kind
from oldhands.values import least_value

FIGURES = "0123456789"
LEAST_FACTOR = 2
GREATEST_FACTOR = 1000

# How many parts a turn has, its word among them.
TURN_COUNTS = {
    "bounds": 3, "scale": 2, "shrink": 2, "figures": 2, "number": 3, "words": 3, "cut": 2, "first": 2, "one": 2,
    "out": 1, "items": 2,
}

# The sorts of kinds of which a turn is; one, which is not here, is of any.
TURN_SORTS = {
    "bounds": ("number",), "scale": ("number",), "shrink": ("number",), "figures": ("number",), "number": ("text",),
    "words": ("choice",), "cut": ("text",), "first": ("list", "rows"), "out": ("list",), "items": ("list",),
}


def figures_of(number):
    """The figures of a number, a minus ahead where it is below 0."""
    return str(number)


def number_of(text):
    """The number whose figures a text is, None where it is no number's."""
    figures = text[1:] if text.startswith("-") else text
    if figures == "" or not all([figure in FIGURES for figure in figures]):
        return None
    # Only 0 itself has a nought ahead, and 0 has no minus.
    if figures.startswith("0") and text != "0":
        return None
    return int(text)


def nearest(number, low, high):
    """The number from low to high that is nearest to a number."""
    return min(max(number, low), high)


def is_factor(thing):
    """Whether a thing is a number by which numbers are scaled, shrunk and parted."""
    return is_whole_within(thing, LEAST_FACTOR, GREATEST_FACTOR)


def kind_behind(turn, kind):
    """The kind to which a turn leads the values of a kind; refused with BadTurn."""
    if not is_turn_of(turn, kind):
        raise BadTurn("this is no turn of the kind")
    try:
        return made_kind(led_kind(turn, kind))
    except BadKind:
        raise BadTurn("the turn leads to what is no kind") from None


def is_turn_of(turn, kind):
    """Whether this has the form of a turn of a kind, be what is behind it a kind or not."""
    if not has_turn_parts(turn) or kind[0] not in TURN_SORTS.get(turn[0], (kind[0],)):
        return False
    word = turn[0]
    if word == "scale":
        return is_factor(turn[1])
    if word == "shrink":
        return is_factor(turn[1]) and kind[1] % turn[1] == 0 and kind[2] % turn[1] == 0
    if word == "figures":
        return is_whole(turn[1]) and most_figures(kind[1], kind[2]) <= turn[1]
    if word == "number":
        return are_bounds(turn[1], turn[2]) and most_figures(turn[1], turn[2]) <= kind[1]
    if word == "words":
        return are_led_words(turn[1], turn[2], kind[1])
    if word == "one":
        return is_whole(turn[1]) and turn[1] >= 1
    if word == "out":
        return kind[2] >= 1
    if word == "items":
        return is_turn_of(turn[1], kind[1])
    return True


def has_turn_parts(thing):
    """Whether a thing is a tuple of a turn's word and of as many parts as that turn has."""
    if not isinstance(thing, tuple) or len(thing) == 0 or not isinstance(thing[0], str):
        return False
    return TURN_COUNTS.get(thing[0]) == len(thing)


def most_figures(low, high):
    """How many signs the figures of a number from low to high are at most."""
    return max(len(figures_of(low)), len(figures_of(high)))


def are_led_words(forth, back, elder):
    """Whether forth and back are those of a turn of the choice of the elder words."""
    if not isinstance(forth, tuple) or len(forth) != len(elder):
        return False
    if not isinstance(back, tuple) or not all([isinstance(pair, tuple) and len(pair) == 2 for pair in back]):
        return False
    behind = words_behind(back)
    if not are_words(behind) or not all([word in behind for word in forth]):
        return False
    if not all([word in elder for first, word in back]):
        return False
    there = dict(zip(elder, forth))
    again = dict(back)
    if not all([there[again[word]] == word for word in forth]):
        return False
    return all([again[there[word]] == word for first, word in back])


def words_behind(back):
    """The words of the choice behind a turn by words."""
    return tuple([first for first, word in back])


def led_kind(turn, kind):
    """What a turn of the kind makes of the kind; it may be no kind."""
    word = turn[0]
    if word in ("bounds", "number"):
        return ("number", turn[1], turn[2])
    if word == "scale":
        return ("number", kind[1] * turn[1], kind[2] * turn[1])
    if word == "shrink":
        return ("number", kind[1] // turn[1], kind[2] // turn[1])
    if word in ("figures", "cut"):
        return ("text", turn[1])
    if word == "words":
        return ("choice", words_behind(turn[2]))
    if word == "first":
        return kind[:-1] + (turn[1],)
    if word == "one":
        return ("list", kind, turn[1])
    if word == "out":
        return kind[1]
    return ("list", led_kind(turn[1], kind[1]), kind[2])


def turn_about(turn, kind):
    """The turn that leads from the kind behind to the elder kind; refused with BadTurn."""
    kind_behind(turn, kind)
    return led_about(turn, kind)


def led_about(turn, kind):
    """The turn about of a turn that is one of the kind."""
    word = turn[0]
    if word == "bounds":
        return ("bounds", kind[1], kind[2])
    if word == "scale":
        return ("shrink", turn[1])
    if word == "shrink":
        return ("scale", turn[1])
    if word == "figures":
        return ("number", kind[1], kind[2])
    if word == "number":
        return ("figures", kind[1])
    if word == "words":
        return ("words", tuple([elder for first, elder in turn[2]]), tuple(zip(kind[1], turn[1])))
    if word in ("cut", "first"):
        return (word, kind[-1])
    if word == "one":
        return ("out",)
    if word == "out":
        return ("one", kind[2])
    return ("items", led_about(turn[1], kind[1]))


def turned(turn, kind, value):
    """What a turn makes of a value of a kind; refused with BadTurn."""
    kind_behind(turn, kind)
    return led_value(turn, kind, value)


def led_value(turn, kind, value):
    """What a turn that is one of the kind makes of a value."""
    word = turn[0]
    if word == "bounds":
        return nearest(value, turn[1], turn[2])
    if word == "scale":
        return value * turn[1]
    if word == "shrink":
        return value // turn[1]
    if word == "figures":
        return figures_of(value)
    if word == "number":
        return read_number(value, ("number", turn[1], turn[2]))
    if word == "words":
        return turn[1][kind[1].index(value)]
    if word == "cut":
        return value[:turn[1]]
    if word == "first":
        return (value[0], value[1][:turn[1]])
    if word == "one":
        return ("list", (value,))
    if word == "out":
        return least_value(kind[1]) if len(value[1]) == 0 else value[1][0]
    return ("list", tuple([led_value(turn[1], kind[1], item) for item in value[1]]))


def read_number(text, kind):
    """The number whose figures a text is where it is of the kind, else the least value."""
    number = number_of(text)
    if number is None or not kind[1] <= number <= kind[2]:
        return least_value(kind)
    return number


def twin_of(turn, kind, value):
    """The value led there and back by a turn; refused with BadTurn."""
    behind = kind_behind(turn, kind)
    return led_value(led_about(turn, kind), behind, led_value(turn, kind, value))
