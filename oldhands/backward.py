"""Questions led back by changes, and from version to version."""

from oldhands.changes import shape_behind
from oldhands.errors import BadQuestion
from oldhands.pieces import made_paths, taken_paths
from oldhands.questions import made_question, tells_true
from oldhands.versions import steps_between

# The looks that tell the first and the second field that a piece makes.
HALF_LOOKS = {"split": ("ahead", "behind"), "part": ("parts", "rest")}


def question_back(question, change, shape):
    """The question of the elder shape to which a change leads one back; refused as shape_behind, then BadQuestion."""
    made_question(question, shape_behind(change, shape))
    return made_question(led_question(question, change), shape)


def question_between(versions, start, goal, question):
    """The question of the version goal to which one of start is led; refused with BadVersion, then BadQuestion."""
    # A record of goal is led to start, so the question goes back over the same steps.
    steps = steps_between(versions, goal, start)
    here = made_question(question, versions.shape(start))
    for number, change, shape in reversed(steps):
        here = question_back(here, change, shape)
    return here


def led_question(question, change):
    """What a change makes of a question of the shape behind; it may be no question, as one with too many looks."""
    if question[0] == "not":
        return ("not", led_question(question[1], change))
    if question[0] == "both":
        return ("both", led_question(question[1], change), led_question(question[2], change))
    for number, made in enumerate(made_paths(change[1])):
        field = change[0] + made
        if question[1][:len(field)] == field:
            return field_question(question, change, number, question[1][len(field):])
    return question


def field_question(question, change, number, rest):
    """What is made of a question whose path goes on into the field of this number that the piece makes, and by rest."""
    piece = change[1]
    word = piece[0]
    if word == "put":
        return put_question(question, change, rest)
    if word in ("join", "whole"):
        raise BadQuestion("a question of a field that was joined can't be led back")
    elder = change[0] + taken_paths(piece)[0]
    if word == "turn":
        behind = turn_behind(piece[2], rest)
        return question_at(question, elder + behind[0], behind[1])
    if word in HALF_LOOKS:
        return question_at(question, elder, ((HALF_LOOKS[word][number], piece[2]),))
    return question_at(question, elder + rest, ())


def question_at(question, path, looks):
    """The question by another path, with some looks ahead of its own; a there has none."""
    if question[0] == "there":
        return ("there", path)
    return (question[0], path, looks + question[2]) + question[3:]


def turn_behind(turn, rest):
    """A pair of the path behind the elder field and the looks for a path that goes on by rest behind the turned one."""
    if len(rest) == 0:
        return ((), (turn,))
    if turn[0] == "one":
        return (rest[1:], ())
    if turn[0] == "items":
        behind = turn_behind(turn[1], rest[1:])
        return (rest[:1] + behind[0], behind[1])
    raise BadQuestion("the path goes on into what a turn makes")


def put_question(question, change, rest):
    """What is made of a question of a field that was put: the put value alone decides, wherever there is a spot."""
    piece = change[1]
    tells = tells_true((question[0], rest) + question[2:], piece[2], piece[3])
    spot = ("there", change[0])
    if question[0] == "every":
        return ("there", ()) if tells else ("not", spot)
    return spot if tells else ("not", ("there", ()))
