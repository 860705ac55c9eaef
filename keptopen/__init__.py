"""Keptopen: a hall of chests of which few may stand open, and keepers who are never caught."""
