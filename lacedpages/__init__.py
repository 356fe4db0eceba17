"""Lacepages: packets laced into pages, and read again from any bytes."""
