"""Printed is written: a book set in pages, and its pages on folded sheets."""
