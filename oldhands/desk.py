"""The desk: an office that is asked by rows of words and answers with texts."""

from oldhands.errors import BadPath, BadText, HandError, refusal_name
from oldhands.kinds import is_name
from oldhands.losses import loser
from oldhands.office import Office
from oldhands.questions import SIGNS, asked, made_question
from oldhands.spots import inner_kind, value_at
from oldhands.texts import read_change, read_kind, read_path, read_value
from oldhands.tokens import BLANK, MINUS, QUOTE, words_of
from oldhands.versions import Versions, lost_between
from oldhands.words import change_text, kind_text, value_text, with_commas

NONE = "none"

# What stands behind a row's first word, part by part; value, change and question are all that is left of the row.
ROW_FORMS = {
    "write": ("version", "key", "value"),
    "set": ("version", "key", "where", "value"),
    "drop": ("key",),
    "grow": ("change",),
    "back": (),
    "again": (),
    "read": ("version", "key"),
    "keys": (),
    "versions": (),
    "shape": ("version",),
    "change": ("version",),
    "lost": ("version", "version", "key"),
    "loser": ("version",),
    "ask": ("version", "question"),
}
QUESTION_FORMS = {"there": ("path",), "some": ("path", "sign", "told"), "every": ("path", "sign", "told")}
LAST_SORTS = ("value", "change", "question")


class Desk:
    """An office, begun with the shape that a text writes, that is asked by rows."""

    def __init__(self, text):
        self.desk_office = Office(Versions(read_kind(text), []))

    def ask(self, row):
        """The answer to a row; a refused one is answered by the name of the refusal."""
        try:
            # The row is read as a whole first, so that one that is badly written is refused for nothing else.
            return answer(self.desk_office, row_read(row))
        except HandError as refusal:
            return "refused " + refusal_name(refusal)


def row_read(row):
    """The tuple of a row's first word and its parts; refused with BadText."""
    word = row.partition(BLANK)[0]
    return (word,) + parts_read(row[len(word):], ROW_FORMS.get(word))


def parts_read(text, form):
    """The tuple of the parts of a text, each with a blank ahead, as a form tells; refused with BadText."""
    if form is None:
        raise BadText("there is no such row")
    parts = []
    rest = text
    for sort in form:
        end = len(rest) if sort in LAST_SORTS else part_end(rest)
        if not rest.startswith(BLANK):
            raise BadText("the row has too few parts")
        parts.append(part_told(rest[1:end], sort))
        rest = rest[end:]
    if rest != "":
        raise BadText("the row has too many parts")
    return tuple(parts)


def part_end(text):
    """The place of the first blank of a text, but for its first sign, that is in no quotation marks; else its end."""
    is_quoted = False
    for at in range(1, len(text)):
        if text[at] == QUOTE:
            is_quoted = not is_quoted
        if text[at] == BLANK and not is_quoted:
            return at
    return len(text)


def part_told(text, sort):
    """What a part of a sort tells, values and changes as they stand; refused with BadText."""
    if sort == "version":
        return version_told(text)
    if sort == "where":
        return where_told(text)
    if sort == "path":
        # A part has no blanks, so just what is written is read here.
        return read_path(text)
    if sort == "told":
        return single_told(text, ("number", "text"))
    if sort == "question":
        return question_told(text)
    if sort == "key" and not is_name(text):
        raise BadText("this is no key")
    if sort == "sign" and text not in SIGNS:
        raise BadText("this is no sign of a question")
    return text


def version_told(text):
    """The number whose figures a text is; refused with BadText."""
    if text.startswith(MINUS):
        raise BadText("a version is not below 0")
    return single_told(text, ("number",))


def single_told(text, sorts):
    """What the one word of a text tells, which is of one of these sorts; refused with BadText."""
    found = words_of(text)
    if len(found) != 1 or found[0][0] not in sorts:
        raise BadText("this is no such word")
    return found[0][1]


def where_told(text):
    """The where that a text writes; refused with BadText."""
    # The entries stand behind the slashes; whatever else a text is, it is not what is written of them.
    where = tuple([told for sort, told in words_of(text)[1::2]])
    if where_text(where) != text:
        raise BadText("this is no where")
    return where


def question_told(text):
    """The question without looks that a text writes; refused with BadText."""
    word = text.partition(BLANK)[0]
    parts = parts_read(text[len(word):], QUESTION_FORMS.get(word))
    if word == "there":
        return (word, parts[0])
    return (word, parts[0], (), parts[1], parts[2])


def answer(office, row):
    """The answer of an office to a row that was read; refused as the row is."""
    word = row[0]
    if word in ("write", "set", "drop", "grow"):
        return told_text(office.do(deed_told(office, row)))
    if word == "back":
        return deed_text(office.back())
    if word == "again":
        return deed_text(office.again())
    if word == "keys":
        return keys_text(office.all_keys())
    if word == "versions":
        return str(office.versions().many())
    if word == "read":
        return value_text(office.read(row[1], row[2]))
    if word == "lost":
        return lost_text(office, row[1], row[2], row[3])
    if word == "ask":
        return keys_text(keys_asked(office, row[1], row[2]))
    return version_text(office.versions(), word, row[1])


def deed_told(office, row):
    """The deed of a row that was read; refused as the row is, so far as an office doesn't refuse the deed."""
    word = row[0]
    if word == "write":
        return row[:3] + (read_value(row[3], office.versions().shape(row[1])),)
    if word == "set":
        kind = kind_set(office, row[1], row[2], row[3])
        return row[:4] + (read_value(row[4], kind),)
    if word == "grow":
        return (word, read_change(row[1]))
    return row


def kind_set(office, version, key, where):
    """The kind of what a record has at a where; refused with BadVersion, then with NoRecord, then with BadPath."""
    record = office.read(version, key)
    kind = office.versions().shape(version)
    if value_at(kind, record, where) is None:
        raise BadPath("the record has no such place")
    for entry in where:
        kind = inner_kind(kind, entry)
    return kind


def told_text(told):
    """What a deed tells, as a text."""
    if told[0] != "turned":
        return with_blanks(told)
    return with_blanks(told[:2] + ((NONE,) if told[2] is None else told[2]))


def with_blanks(parts):
    """Some texts and numbers with blanks between."""
    return BLANK.join([str(part) for part in parts])


def keys_text(keys):
    """Keys as a text."""
    return NONE if len(keys) == 0 else with_blanks(keys)


def keys_asked(office, version, question):
    """The keys whose record a question tells True of; refused with BadVersion, then with BadQuestion."""
    shape = office.versions().shape(version)
    # Without any record the question is looked at all the same.
    made_question(question, shape)
    return [key for key in office.all_keys() if asked(question, shape, office.read(version, key))]


def lost_text(office, start, goal, key):
    """What a record loses on the way, a row for each spot; refused with BadVersion, then with NoRecord."""
    versions = office.versions()
    # Both versions come ahead of the record, of which only the one where it is read does so by itself.
    versions.shape(goal)
    rows = [lost_row(triple) for triple in lost_between(versions, start, goal, office.read(start, key))]
    return NONE if len(rows) == 0 else "\n".join(rows)


def lost_row(triple):
    """A triple of a version, a where and lost values as a row."""
    values = with_commas([value_text(value) for value in triple[2]])
    return with_blanks((triple[0], where_text(triple[1]), values))


def version_text(versions, word, number):
    """What is told of a version: its shape, the change from there, or whether that loses; refused with BadVersion."""
    if word == "shape":
        return kind_text(versions.shape(number))
    change = versions.change(number)
    if word == "change":
        return change_text(change)
    return NONE if loser(change, versions.shape(number)) is None else "some"


def deed_text(deed):
    """The row that does a deed."""
    word = deed[0]
    if word == "write":
        return with_blanks(deed[:3] + (value_text(deed[3]),))
    if word == "set":
        return with_blanks(deed[:3] + (where_text(deed[3]), value_text(deed[4])))
    if word == "grow":
        return with_blanks((word, change_text(deed[1])))
    return with_blanks(deed)


def where_text(where):
    """A where as it is written."""
    return "/" + "/".join([entry_text(entry) for entry in where])


def entry_text(entry):
    """A where's entry as it is written: a name stands as it is, as numbers do."""
    return entry if is_name(entry) else value_text(entry)
