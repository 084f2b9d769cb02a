"""Oncewire: programs whose names are used once, run by nets that meet."""
