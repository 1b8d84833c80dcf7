"""Texts by their pieces: the calls are in cutpieces.desk."""
