"""The office: a store, and the row of deeds that stand in it."""

from oldhands.errors import BadPath, BadValue, NoDeed
from oldhands.kinds import is_name, is_whole
from oldhands.spots import value_at, with_values
from oldhands.store import Store
from oldhands.values import made_value

# What stands behind a deed's word, part by part.
DEED_FORMS = {
    "write": ("version", "key", "tuple"),
    "set": ("version", "key", "where", "any"),
    "drop": ("key",),
    "grow": ("tuple",),
}


class Office:
    """A store in which deeds are done, taken back and done again."""

    def __init__(self, versions):
        self.now_store = Store(versions)
        # Pairs of a deed that stands and the store as it was ahead of it.
        self.standing = []
        # The deeds that can be done again, the one taken back last behind the others.
        self.taken_back = []

    def do(self, deed):
        """What a deed tells; refused with NoDeed where it has no form of a deed, then as its word is."""
        if not has_deed_form(deed):
            raise NoDeed("this has no form of a deed")
        told = self.carry_out(deed)
        self.taken_back = []
        return told

    def carry_out(self, deed):
        """What a deed tells that is put behind those that stand."""
        ahead = self.now_store.copied()
        told = done_in(self.now_store, deed)
        self.standing.append((deed, ahead))
        return told

    def back(self):
        """The deed that stood last, taken back; refused with NoDeed where none stands."""
        if len(self.standing) == 0:
            raise NoDeed("there is no deed to take back")
        last = self.standing.pop()
        self.now_store = last[1]
        self.taken_back.append(last[0])
        return last[0]

    def again(self):
        """The deed that was taken back last, done again; refused with NoDeed where there is none."""
        if len(self.taken_back) == 0:
            raise NoDeed("there is no deed to do again")
        deed = self.taken_back.pop()
        self.carry_out(deed)
        return deed

    def deeds(self):
        """The deeds that stand, in the order in which they were done."""
        return [deed for deed, ahead in self.standing]

    def read(self, version, key):
        """The record of a key as a version reads it; refused with BadVersion, then with NoRecord."""
        return self.now_store.read(version, key)

    def all_keys(self):
        """The keys of the records, ascending."""
        return self.now_store.all_keys()

    def versions(self):
        """The versions as they are now."""
        return self.now_store.versions()


def has_deed_form(deed):
    """Whether this is a tuple of a deed's word and of parts of the sorts that it has."""
    if not isinstance(deed, tuple) or len(deed) == 0 or not isinstance(deed[0], str):
        return False
    form = DEED_FORMS.get(deed[0])
    if form is None or len(form) != len(deed) - 1:
        return False
    return all([is_deed_part(part, sort) for part, sort in zip(deed[1:], form)])


def is_deed_part(part, sort):
    """Whether a part of a deed is of a sort."""
    if sort == "version":
        return is_whole(part)
    if sort == "key":
        return is_name(part)
    if sort == "where":
        return isinstance(part, tuple) and all([isinstance(entry, str) or is_whole(entry) for entry in part])
    return sort == "any" or isinstance(part, tuple)


def done_in(store, deed):
    """What a deed tells that is done in a store; refused as its word is."""
    word = deed[0]
    if word == "write":
        return written_in(store, deed[1], deed[2], deed[3])
    if word == "set":
        record = record_set(store, deed[1], deed[2], deed[3], deed[4])
        return written_in(store, deed[1], deed[2], record)
    if word == "drop":
        store.drop(deed[1])
        return ("gone", deed[1])
    return ("version", store.grow(deed[1]))


def written_in(store, version, key, record):
    """What is told of a record that is written in a store; refused with BadVersion, BadValue, Full."""
    is_new = key not in store.all_keys()
    stretch = store.write(version, key, record)
    if is_new:
        return ("new", key)
    return ("turned", key, stretch)


def record_set(store, version, key, where, value):
    """The record that is read, with another value at a where; refused with BadVersion, NoRecord, BadPath, BadValue."""
    record = store.read(version, key)
    shape = store.versions().shape(version)
    if value_at(shape, record, where) is None:
        raise BadPath("the record has no such place")
    told = made_value(with_values(shape, record, [(where, value)]), shape)
    # Rows' items are told by their keys: where one has turned, the where leads there no longer.
    if value_at(shape, told, where) is None:
        raise BadValue("the key of an item of rows would turn")
    return told
