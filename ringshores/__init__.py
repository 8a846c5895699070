"""Ringshores: one-way streets, rings and shores that are turned."""
