"""The document's words for texts, told by patterns alone, and things that have the forms that are written."""

import re

from samples import items, rec, record, rows

SIGNS = "".join(letter for letter in map(chr, range(32, 127)) if letter not in "\"%")
TOKEN = re.compile(r'"[^"]*"|[a-z]+|-?[0-9]+|[^ ]')
FIGURES = re.compile(r"0|-?[1-9][0-9]{0,59}")
WORD = re.compile(r"[a-z]{1,8}")
MARK = re.compile(r"[][(){},:;/]")

W, KIND, TURN, VALUE = "[a-z]{1,8}", "[KB]", "[UB]", "[NTV]"


def rowed(part):
    return f"{part}(?: , {part})*"


# What is in brackets is told by one letter: kinds, turns, values and pieces; `number` may be a kind and a turn.
RULES = [(re.compile(rf"(?<!\S){form}(?!\S)"), letter) for form, letter in (
    (r"text \( N \)", "K"), (r"number \( N , N \)", "B"), (rf"choice \( {rowed(W)} \)", "K"),
    (rf"list \( N , {KIND} \)", "K"), (rf"rows \( {W} , N , {KIND} \)", "K"), (r"record \( \)", "K"),
    (rf"record \( {rowed(f'{W} : {KIND}')} \)", "K"),
    (r"bounds \( N , N \)", "U"), (r"(?:scale|shrink|figures|cut|first|one) \( N \)", "U"), (r"out \( \)", "U"),
    (rf"items \( {TURN} \)", "U"), (rf"words \( {rowed(W)} ; {rowed(f'{W} : {W}')} \)", "U"),
    (r"\[ \]|\{ \}", "V"), (rf"\[ {rowed(VALUE)} \]", "V"), (rf"\{{ {rowed(f'{W} : {VALUE}')} \}}", "V"),
    (rf"(?<![a-z] )\( (?:{rowed(VALUE)} )?\)", "V"),
    (rf"put \( {W} , {KIND} , {VALUE} \)", "P"), (rf"drop \( {W} , {VALUE} \)", "P"),
    (rf"(?:name|sink|lift) \( {W} , {W} \)", "P"), (rf"turn \( {W} , {TURN} \)", "P"),
    (rf"split \( {W} , T , {W} , {W} \)", "P"), (rf"join \( {W} , {W} , T , {W} \)", "P"),
    (rf"part \( {W} , N , {W} , {W} \)", "P"), (rf"whole \( {W} , {W} , N , {W} , N , N \)", "P"),
)]
SORTS = {"kind": KIND, "turn": TURN, "value": VALUE, "piece": "P", "path": rf"/|/ {W}(?: / {W})*",
         "change": rf"(?:/|/ {W}(?: / {W})*) P"}


def told_by(token):
    """A token's letter, or itself where it is a word or a mark; None where it is no word of the document's."""
    if FIGURES.fullmatch(token):
        return "N"
    if token[0] == '"' and len(token) > 1 and set(token[1:-1]) <= set(SIGNS):
        return "T"
    return token if WORD.fullmatch(token) or MARK.fullmatch(token) else None


def too_deep(tokens):
    depths = [0]
    for token in tokens:
        depths.append(depths[-1] + (token in tuple("([{")) - (token in tuple(")]}")))
    return max(depths) > 40


def plain_sorts(text):
    """The sorts of which a text writes one."""
    tokens = TOKEN.findall(text)
    told = [told_by(token) for token in tokens]
    if None in told or too_deep(tokens):
        return set()
    here, before = " ".join(told), None
    while here != before:
        before = here
        for pattern, letter in RULES:
            here = pattern.sub(letter, here)
    return {sort for sort, form in SORTS.items() if re.fullmatch(form, here)}


def spaced(text):
    """The text with just the blanks that are written."""
    tokens = TOKEN.findall(text)
    told = ""
    for at, token in enumerate(tokens):
        behind_path = text.lstrip().startswith("/") and at and tokens[at + 1:at + 2] == ["("] and "(" not in told
        told += (" " if behind_path else "") + token + (" " if token in ",:;" else "")
    return told


def with_blanks(text, chance, most=2):
    """The text with drawn blanks ahead of, between and behind its words."""
    tokens = TOKEN.findall(text)
    told = ""
    for token in tokens:
        least = 1 if told and told[-1].isalpha() and token[0].isalpha() else 0
        told += " " * max(least, chance.randint(0, most)) + token
    return told + " " * chance.randint(0, most)


WORDS = ("a", "b", "each", "abcdefgh", "number", "text", "put", "out", "zz", "record")


def some_number(chance):
    return chance.choice((0, 1, -1, 9, 10, -10, 10 ** 30, -10 ** 30, 10 ** 60 - 1, 1 - 10 ** 60,
                          chance.randint(-99, 99)))


def some_text(chance):
    return "".join(chance.choice(SIGNS) for at in range(chance.choice((0, 1, 1, 2, 5, 70))))


def some_words(chance, least):
    return tuple(chance.choice(WORDS) for at in range(chance.randint(least, 3)))


def form_kind(chance, room=3):
    """What has the form of a kind, good or not."""
    plain = ("number", "text", "choice")
    word = chance.choice(plain + ("list", "record", "rows") if room else plain)
    match word:
        case "number":
            return (word, some_number(chance), some_number(chance))
        case "text":
            return (word, some_number(chance))
        case "choice":
            return (word, some_words(chance, 1))
        case "list":
            return (word, form_kind(chance, room - 1), some_number(chance))
        case "record":
            return (word, tuple((name, form_kind(chance, room - 1)) for name in some_words(chance, 0)))
    return (word, chance.choice(WORDS), form_kind(chance, room - 1), some_number(chance))


def form_value(chance, room=3):
    match chance.choice(("number", "text", "list", "record", "rows") if room else ("number", "text")):
        case "number":
            return some_number(chance)
        case "text":
            return some_text(chance)
        case "record":
            return ("record", tuple((name, form_value(chance, room - 1)) for name in some_words(chance, 0)))
        case word:
            return (word, tuple(form_value(chance, room - 1) for at in range(chance.randint(0, 3))))


def form_turn(chance, room=3):
    word = chance.choice(("bounds", "scale", "shrink", "figures", "number", "words", "cut", "first", "one", "out",
                          "items"))
    match word:
        case "bounds" | "number":
            return (word, some_number(chance), some_number(chance))
        case "words":
            back = tuple((one, chance.choice(WORDS)) for one in some_words(chance, 1))
            return (word, some_words(chance, 1), back)
        case "out":
            return (word,)
        case "items":
            return (word, form_turn(chance, room - 1) if room else ("out",))
    return (word, some_number(chance))


def form_piece(chance):
    one, two, three = (chance.choice(WORDS) for at in range(3))
    number = some_number(chance)
    return chance.choice((
        ("put", one, form_kind(chance), form_value(chance)), ("drop", one, form_value(chance)), ("name", one, two),
        ("sink", one, two), ("lift", one, two), ("turn", one, form_turn(chance)),
        ("split", one, some_text(chance), two, three), ("join", one, two, some_text(chance), three),
        ("part", one, number, two, three), ("whole", one, two, number, three, some_number(chance), -number),
    ))


def form_path(chance):
    return tuple(chance.choice(WORDS) for at in range(chance.choice((0, 0, 1, 2, 3, 9))))


def form_change(chance):
    return (form_path(chance), form_piece(chance))


NINE = ("number", 0, 9)
# Things, and how they are written. Of the kinds the last two are none.
KINDS = (
    (("number", 0, 9), "number(0, 9)"), (("number", -12, -3), "number(-12, -3)"),
    (("number", -10 ** 30, 10 ** 30), "number(-1" + "0" * 30 + ", 1" + "0" * 30 + ")"),
    (("text", 0), "text(0)"), (("text", 60), "text(60)"),
    (("choice", ("red",)), "choice(red)"), (("choice", ("red", "blue", "a")), "choice(red, blue, a)"),
    (("list", NINE, 8), "list(8, number(0, 9))"), (("list", ("list", ("text", 1), 2), 3), "list(3, list(2, text(1)))"),
    (record(), "record()"), (record(a=("text", 1)), "record(a: text(1))"),
    (record(a=("text", 1), b=NINE), "record(a: text(1), b: number(0, 9))"),
    (("rows", "k", record(k=NINE), 4), "rows(k, 4, record(k: number(0, 9)))"),
    (record(l=("list", record(), 0), r=("rows", "a", record(a=("text", 3), b=record()), 1)),
     "record(l: list(0, record()), r: rows(a, 1, record(a: text(3), b: record())))"),
    (("record", (("each", ("text", 1)),)), "record(each: text(1))"),
    (("record", (("b", ("text", 1)), ("a", NINE), ("b", ("text", -2)))),
     "record(b: text(1), a: number(0, 9), b: text(-2))"),
)
VALUES = (
    (0, "0"), (7, "7"), (-7, "-7"), (10 ** 59, "1" + "0" * 59), (-10 ** 30, "-1" + "0" * 30),
    ("", '""'), ("a", '"a"'), ("a b, c", '"a b, c"'), ("5", '"5"'), ("(/)[]{}:;", '"(/)[]{}:;"'), ("  ", '"  "'),
    (items(), "[]"), (items(1), "[1]"), (items(1, -2, "x"), '[1, -2, "x"]'), (items(items(), items(1)), "[[], [1]]"),
    (rec(), "{}"), (rec(a=1), "{a: 1}"), (rec(a=1, b="x", c=rec()), '{a: 1, b: "x", c: {}}'),
    (rows(), "()"), (rows(rec(k=1)), "({k: 1})"),
    (rows(rec(k=1), rec(k=2, l=items(rows()))), "({k: 1}, {k: 2, l: [()]})"),
    (("record", (("b", 1), ("a", 2), ("each", 3), ("b", 4))), "{b: 1, a: 2, each: 3, b: 4}"), (rows(3, ""), '(3, "")'),
)
TURNS = (
    (("bounds", 0, 9), "bounds(0, 9)"), (("bounds", -9, -1), "bounds(-9, -1)"), (("scale", 10), "scale(10)"),
    (("shrink", 2), "shrink(2)"), (("figures", 31), "figures(31)"), (("number", -1, 10), "number(-1, 10)"),
    (("cut", 3), "cut(3)"), (("first", 0), "first(0)"), (("one", 8), "one(8)"), (("out",), "out()"),
    (("items", ("cut", 3)), "items(cut(3))"), (("items", ("items", ("out",))), "items(items(out()))"),
    (("words", ("x",), (("x", "red"),)), "words(x; x: red)"),
    (("words", ("x", "x", "y"), (("y", "low"), ("x", "mid"))), "words(x, x, y; y: low, x: mid)"),
    (("items", ("words", ("each",), (("a", "each"), ("a", "b")))), "items(words(each; a: each, a: b))"),
    (("scale", -5), "scale(-5)"), (("bounds", 9, 0), "bounds(9, 0)"),
)
PIECES = (
    (("put", "a", ("text", 2), "x"), 'put(a, text(2), "x")'), (("put", "a", NINE, 3), "put(a, number(0, 9), 3)"),
    (("put", "a", ("list", record(), 2), items(rec())), "put(a, list(2, record()), [{}])"),
    (("put", "each", ("rows", "k", record(), 2), rows()), "put(each, rows(k, 2, record()), ())"),
    (("drop", "a", 0), "drop(a, 0)"), (("drop", "a", ""), 'drop(a, "")'), (("drop", "a", rec(b=1)), "drop(a, {b: 1})"),
    (("name", "a", "c"), "name(a, c)"), (("sink", "a", "box"), "sink(a, box)"), (("lift", "box", "a"), "lift(box, a)"),
    (("turn", "a", ("scale", 10)), "turn(a, scale(10))"), (("turn", "a", ("out",)), "turn(a, out())"),
    (("turn", "c", ("words", ("x",), (("x", "red"),))), "turn(c, words(x; x: red))"),
    (("split", "a", "-", "b", "c"), 'split(a, "-", b, c)'), (("split", "a", ", ", "b", "c"), 'split(a, ", ", b, c)'),
    (("split", "a", "", "b", "c"), 'split(a, "", b, c)'), (("join", "a", "b", " ", "c"), 'join(a, b, " ", c)'),
    (("part", "a", 12, "b", "c"), "part(a, 12, b, c)"),
    (("whole", "a", "b", 12, "c", -5, 99), "whole(a, b, 12, c, -5, 99)"),
)
PATHS = (
    ((), "/"), (("a",), "/a"), (("b", "each"), "/b/each"), (("each",), "/each"),
    (("abcdefgh", "a", "each", "b"), "/abcdefgh/a/each/b"), (("a",) * 12, "/a" * 12),
)


def written_changes():
    """Each piece behind each path."""
    return [((path, piece), f"{told} {own}") for path, told in PATHS for piece, own in PIECES]
