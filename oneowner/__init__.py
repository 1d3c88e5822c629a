"""Oneowner: values with one owner, lent, moved and freed, and a machine that shows it."""
