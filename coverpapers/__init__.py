"""Coverpapers: greatest covers of words by rising and falling lists, with papers."""
