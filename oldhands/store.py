"""The store: each record kept once, read and written at every version."""

from oldhands.errors import Full, NoRecord
from oldhands.spares import begun_kept, grown_kept, kept_of, read_kept, views_of
from oldhands.values import made_value
from oldhands.views import turned_stretch, written

MOST_RECORDS = 100


class Store:
    """Records by keys, each kept at the version that was last written as its home."""

    def __init__(self, versions):
        # Versions and kept triples are never changed, so they may be shared.
        self.now_versions = versions
        self.by_key = {}

    def write(self, number, key, record):
        """The stretch of the views that turned, None where none did or the record is begun.

        Refused with BadVersion, then with BadValue, then with Full.
        """
        versions = self.now_versions
        made_value(record, versions.shape(number))
        if key not in self.by_key:
            self.begin(number, key, record)
            return None
        before = views_of(versions, self.by_key[key])
        after = written(versions, before, number, record)
        self.by_key[key] = kept_of(versions, after, number)
        return turned_stretch(before, after)

    def begin(self, number, key, record):
        """Keep a record of a version under a key that has none; refused with Full."""
        if len(self.by_key) >= MOST_RECORDS:
            raise Full("there are as many records as there may be")
        self.by_key[key] = begun_kept(self.now_versions, number, record)

    def read(self, number, key):
        """The record of a key as a version reads it; refused with BadVersion, then with NoRecord."""
        self.now_versions.shape(number)
        return read_kept(self.now_versions, self.kept(key), number)

    def kept(self, key):
        """The triple that is kept of a key; refused with NoRecord."""
        if key not in self.by_key:
            raise NoRecord("there is no record of this key")
        return self.by_key[key]

    def drop(self, key):
        """Keep the record of a key no longer; refused with NoRecord."""
        self.kept(key)
        self.by_key.pop(key)

    def all_keys(self):
        """The keys of the records, ascending."""
        return sorted(self.by_key)

    def grow(self, change):
        """The number of the version that a change puts behind the last one; refused as Versions.grown."""
        self.now_versions = self.now_versions.grown(change)
        for key in list(self.by_key):
            self.by_key[key] = grown_kept(self.by_key[key])
        return self.now_versions.many() - 1

    def versions(self):
        """The versions as they are now."""
        return self.now_versions

    def copied(self):
        """A store of its own that holds what this one holds."""
        other = Store(self.now_versions)
        other.by_key = dict(self.by_key)
        return other
