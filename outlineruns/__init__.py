"""Outlines drawn by programs of bytes; the one function to call is answers in outlineruns.outlines."""
