"""Pages: a page's text, the page written out, and an image read back."""

from sealedbook.aes import added, decrypt_block, encrypt_block
from sealedbook.contents import LAST_TIME, LONGEST_BLOB, MOST_ENTRIES, MOST_PAGES
from sealedbook.digests import sha256
from sealedbook.short import Reader, WrongPage, write_short

BLOCK = 16
DIGEST = 32


def filled(text):
    """The text filled up to whole blocks, by one octet at least."""
    count = BLOCK - len(text) % BLOCK
    return text + [count] * count


def blob_anew(blob):
    return [0] + write_short(len(blob)) + list(blob)


def page_text(book):
    """The text of the page that seals all open entries."""
    first = book.sealed_entries
    time = book.time_before(first)
    # Blobs are numbered as entries bring them: those of entries before are just the numbers below known.
    known = book.sealed_blobs
    text = write_short(len(book.entries) - first)
    for entry in book.entries[first:]:
        text.extend(write_short(entry.time - time))
        time = entry.time
        if entry.blob < known:
            text.extend(write_short(entry.blob + 1))
        else:
            text.extend(blob_anew(book.blobs[entry.blob]))
            known += 1
    return filled(text)


def first_link(round_keys, number):
    """What the first block of page number is added to. A page's number fits into the lowest octet."""
    return encrypt_block(round_keys, [number] + [0] * (BLOCK - 1))


def encrypt_text(round_keys, number, text):
    link = first_link(round_keys, number)
    encrypted = []
    for start in range(0, len(text), BLOCK):
        link = encrypt_block(round_keys, added(text[start:start + BLOCK], link))
        encrypted.extend(link)
    return encrypted


def decrypt_text(round_keys, number, encrypted):
    link = first_link(round_keys, number)
    text = []
    for start in range(0, len(encrypted), BLOCK):
        block = encrypted[start:start + BLOCK]
        text.extend(added(decrypt_block(round_keys, block), link))
        link = block
    return text


def seal_page(book):
    """All open entries become a page."""
    text = page_text(book)
    blocks = len(text) // BLOCK
    size = [blocks % 256, blocks // 256]
    encrypted = encrypt_text(book.round_keys, len(book.pages), text)
    digest = sha256(book.head + size + encrypted)
    book.add_page(size + encrypted + digest, digest)


def read_blob(book, reader):
    told = reader.take_short(len(book.blobs))
    if told > 0:
        return book.blobs[told - 1]
    blob = tuple(reader.take_octets(reader.take_short(LONGEST_BLOB)))
    if blob in book.blob_numbers:
        raise WrongPage()
    return blob


def read_entry(book, reader):
    before = book.last_time()
    time = before + reader.take_short(LAST_TIME - before)
    blob = read_blob(book, reader)
    if not book.has_room(blob):
        raise WrongPage()
    book.add_entry(time, blob)


def read_text(book, text):
    """Adds a text's entries to the book; raises WrongPage, with some of them added, if it's wrong."""
    reader = Reader(text)
    count = reader.take_short(MOST_ENTRIES)
    if count == 0:
        raise WrongPage()
    for step in range(count):
        read_entry(book, reader)
    told = text[:reader.place]
    if filled(told) != text:
        raise WrongPage()


def read_page(book, reader):
    if len(book.pages) == MOST_PAGES:
        raise WrongPage()
    size = reader.take_octets(2)
    blocks = size[0] + 256 * size[1]
    if blocks == 0:
        raise WrongPage()
    encrypted = reader.take_octets(BLOCK * blocks)
    digest = reader.take_octets(DIGEST)
    if sha256(book.head + size + encrypted) != digest:
        raise WrongPage()
    read_text(book, decrypt_text(book.round_keys, len(book.pages), encrypted))
    book.add_page(size + encrypted + digest, digest)


def read_image(book, octets):
    """Reads an image into a book without entries. After a WrongPage it has the pages ahead of the wrong one."""
    reader = Reader(octets)
    while not reader.is_done():
        read_page(book, reader)
