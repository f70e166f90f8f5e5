"""Throwshelves: shelves in a ring, read as a juggler's throws."""
