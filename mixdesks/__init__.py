"""Mixhall: desks, who's heard, evened out. The calls are in mixdesks.hall."""
