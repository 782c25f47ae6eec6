"""Stampword: texts of pieces, and stamps that leave longer ones."""
