"""Hands: those who read and write in an office, each at a version of its own."""


class Hand:
    """One who reads and writes the records of an office at one version."""

    def __init__(self, office, version):
        office.versions().shape(version)
        self.own_office = office
        self.own_version = version

    def read(self, key):
        """The record of a key as the hand's version reads it; refused with NoRecord."""
        return self.own_office.read(self.own_version, key)

    def write(self, key, record):
        """What the deed tells that writes a record, or begins one; refused as Office.do."""
        return self.own_office.do(("write", self.own_version, key, record))

    def set_at(self, key, where, value):
        """What the deed tells that writes the record with another value at a where; refused as Office.do."""
        return self.own_office.do(("set", self.own_version, key, where, value))

    def drop(self, key):
        """What the deed tells that drops a record; refused as Office.do."""
        return self.own_office.do(("drop", key))

    def all_keys(self):
        """The keys of the records, ascending."""
        return self.own_office.all_keys()
