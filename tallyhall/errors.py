"""The program's own errors, one for each refusal.

There is none: the document names no refusal.
"""
