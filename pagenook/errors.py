"""The errors that the program raises: none so far.

Splitting a text and measuring a stretch take whatever is handed in: a value
beyond a bound is no reason to refuse it, so there is nothing to raise.
"""
