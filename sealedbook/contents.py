"""What a book holds: blobs, entries and pages, and the room there is for them."""

from sealedbook.aes import expand_key
from sealedbook.digests import sha1, sha256

LAST_TIME = 9223372036854775807
LONGEST_BLOB = 512
MOST_ENTRIES = 512
MOST_BLOBS = 256
MOST_BLOB_OCTETS = 32768
MOST_PAGES = 64


class Entry:
    """A time, and the number of the blob put in at it."""

    def __init__(self, time, blob):
        self.time = time
        self.blob = blob


class Book:
    """A blob is a tuple of octets here, so that its number can be looked up by it."""

    def __init__(self, key, salt):
        self.key = key
        self.salt = salt
        self.round_keys = expand_key(key)
        self.head = sha256(salt)
        self.blobs = []
        self.blob_numbers = {}
        self.blob_names = []
        self.blob_octets = 0
        self.entries = []
        self.pages = []
        self.sealed_entries = 0
        self.sealed_blobs = 0

    def time_before(self, number):
        """The time of the entry before entry number: 0 before the first one."""
        return self.entries[number - 1].time if number > 0 else 0

    def last_time(self):
        return self.time_before(len(self.entries))

    def open_entries(self):
        """How many entries no page has sealed."""
        return len(self.entries) - self.sealed_entries

    def has_room(self, blob):
        """Whether an entry with this blob can still be added."""
        if len(self.entries) == MOST_ENTRIES:
            return False
        if blob in self.blob_numbers:
            return True
        return len(self.blobs) < MOST_BLOBS and self.blob_octets + len(blob) <= MOST_BLOB_OCTETS

    def add_entry(self, time, blob):
        if blob not in self.blob_numbers:
            self.blob_numbers[blob] = len(self.blobs)
            self.blobs.append(blob)
            self.blob_names.append(sha1(list(blob)))
            self.blob_octets += len(blob)
        self.entries.append(Entry(time, self.blob_numbers[blob]))

    def add_page(self, octets, digest):
        """A page, as it is written out, that seals all entries there are."""
        self.pages.append(octets)
        self.head = digest
        self.sealed_entries = len(self.entries)
        self.sealed_blobs = len(self.blobs)
