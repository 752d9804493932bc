"""Galleypapers: from marked text to pages, with papers of least costs."""
