"""Stillcopy: a store that is copied and led together while it is used."""
