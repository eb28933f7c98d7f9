"""Placebook: where the members of structures lie. The way in is placebook.book.answers."""
