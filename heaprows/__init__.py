"""Heaps kept in a row, with one to four arms; the modules hold the functions and classes."""
