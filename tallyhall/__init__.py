"""Tallyhall: dealings of several clerks at one tally."""
