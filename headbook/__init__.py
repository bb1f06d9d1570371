"""Headbook: a book of names in parts over several houses."""
