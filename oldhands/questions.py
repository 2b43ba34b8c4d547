"""Questions of a shape: what is asked of a record by paths and looks."""

from oldhands.errors import BadPath, BadQuestion, BadTurn
from oldhands.kinds import is_whole
from oldhands.pieces import halves, is_separator, part_kinds
from oldhands.shapes import kind_at
from oldhands.spots import places
from oldhands.turns import is_factor, kind_behind, led_value

MOST_QUESTIONS = 20
MOST_LOOKS = 8
SIGNS = ("=", "<", ">")

# How many parts a question has, its word among them.
QUESTION_COUNTS = {"some": 5, "every": 5, "there": 2, "not": 2, "both": 3}

# The words of looks that are no turns, and the sort of kinds of which they are.
LOOK_SORTS = {"ahead": "text", "behind": "text", "parts": "number", "rest": "number"}


def made_question(question, shape):
    """The question itself; refused with BadQuestion where it is none of the shape."""
    for part in questions_within(question):
        look_at(part, shape)
    return question


def questions_within(question):
    """A question and those within it; refused with BadQuestion where they are too many."""
    found = []
    pending = [question]
    while len(pending) > 0:
        here = pending.pop()
        found.append(here)
        # Whatever is handed in, no more is walked than a question may hold.
        if len(found) > MOST_QUESTIONS:
            raise BadQuestion("there are too many questions within this one")
        pending.extend(inner_questions(here))
    return found


def inner_questions(question):
    """What stands as a question straight within this one."""
    if has_question_form(question) and question[0] in ("not", "both"):
        return list(question[1:])
    return []


def has_question_form(thing):
    """Whether a thing is a tuple of a question's word and of as many parts as that question has."""
    if not isinstance(thing, tuple) or len(thing) == 0 or not isinstance(thing[0], str):
        return False
    return QUESTION_COUNTS.get(thing[0]) == len(thing)


def look_at(question, shape):
    """Look at a question but not at those within it; refused with BadQuestion."""
    if not has_question_form(question):
        raise BadQuestion("this has no form of a question")
    if question[0] in ("not", "both"):
        return
    kind = asked_kind(question[1], shape)
    if question[0] != "there":
        look_at_told(question[3], question[4], kind_looked(question[2], kind))


def asked_kind(path, shape):
    """The kind to which a question's path leads; refused with BadQuestion."""
    try:
        return kind_at(shape, path)
    except BadPath:
        raise BadQuestion("the path leads to no kind") from None


def look_at_told(sign, told, kind):
    """Look at a sign and what is told beside values of a kind; refused with BadQuestion."""
    if sign not in SIGNS:
        raise BadQuestion("this is no sign of a question")
    if kind[0] == "number" and is_whole(told):
        return
    if kind[0] in ("text", "choice") and isinstance(told, str):
        return
    raise BadQuestion("what is told can't be compared with values of the kind")


def kind_looked(looks, kind):
    """The kind to which looks lead; refused with BadQuestion where they are none of the kind, or too many."""
    if not isinstance(looks, tuple) or len(looks) > MOST_LOOKS:
        raise BadQuestion("these are no looks, or too many")
    here = kind
    for look in looks:
        here = kind_behind_look(look, here)
    return here


def kind_behind_look(look, kind):
    """The kind to which one look leads; refused with BadQuestion."""
    if is_half_look(look, kind):
        return kind
    if is_part_look(look, kind):
        return part_kinds(kind[1], kind[2], look[1])[0 if look[0] == "parts" else 1]
    try:
        return kind_behind(look, kind)
    except BadTurn:
        raise BadQuestion("this is no look of the kind") from None


def is_half_look(look, kind):
    """Whether a look is ahead or behind, of the kind."""
    return has_look_form(look, kind, "text") and isinstance(look[1], str) and is_separator(look[1])


def is_part_look(look, kind):
    """Whether a look is parts or rest, of the kind."""
    return has_look_form(look, kind, "number") and is_factor(look[1])


def has_look_form(look, kind, sort):
    """Whether this is a pair of the word of a look, no turn, for kinds of a sort, and the kind is of it."""
    if kind[0] != sort or not isinstance(look, tuple) or len(look) != 2 or not isinstance(look[0], str):
        return False
    return LOOK_SORTS.get(look[0]) == sort


def looked(looks, kind, value):
    """The value to which looks lead a value of the kind; refused as kind_looked."""
    kind_looked(looks, kind)
    here_kind = kind
    here = value
    for look in looks:
        here = value_behind_look(look, here_kind, here)
        here_kind = kind_behind_look(look, here_kind)
    return here


def value_behind_look(look, kind, value):
    """The value to which one look, which is one of the kind, leads a value."""
    word = look[0]
    if word == "ahead":
        return halves(value, look[1])[0]
    if word == "behind":
        return halves(value, look[1])[1]
    if word == "parts":
        return value // look[1]
    if word == "rest":
        return value % look[1]
    return led_value(look, kind, value)


def asked(question, shape, record):
    """Whether the question tells True of a record of the shape; refused as made_question."""
    made_question(question, shape)
    return tells_true(question, shape, record)


def tells_true(question, kind, value):
    """Whether a question whose paths lead from a kind tells True of a value."""
    word = question[0]
    if word == "not":
        return not tells_true(question[1], kind, value)
    if word == "both":
        return tells_true(question[1], kind, value) and tells_true(question[2], kind, value)
    found = places(kind, value, question[1])
    if word == "there":
        return len(found) > 0
    many = len(passing_places(question, kind, value))
    return many == len(found) if word == "every" else many > 0


def passing(question, shape, record):
    """The wheres that pass, in order, of a some or an every; refused as made_question, and another one, too."""
    made_question(question, shape)
    if question[0] not in ("some", "every"):
        raise BadQuestion("this is no some and no every")
    return passing_places(question, shape, record)


def passing_places(question, kind, value):
    """The wheres of the places of a value that pass by a some or an every whose path leads from the kind."""
    found = []
    inner_kind = kind_at(kind, question[1])
    for where, inner in places(kind, value, question[1]):
        if compares(looked(question[2], inner_kind, inner), question[3], question[4]):
            found.append(where)
    return found


def compares(value, sign, told):
    """Whether a value is, is less than or is greater than what is told, as the sign says."""
    if sign == "=":
        return value == told
    if sign == "<":
        return value < told
    return value > told
