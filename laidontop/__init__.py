"""Laidontop: whoever takes a book from the pile lays it on top."""
