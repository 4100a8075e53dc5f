"""Cursorkeys: what one list of keys does at several cursors."""
