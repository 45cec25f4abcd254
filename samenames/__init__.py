"""Samenames: a language server whose answers are always those of the whole text."""
