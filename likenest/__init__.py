"""Likenest: terms made alike, with papers both ways."""
