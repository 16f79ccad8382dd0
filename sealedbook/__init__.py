"""A sealed book: entries with their times, sealed page by page. See sealedbook.book.answers."""
