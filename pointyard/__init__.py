"""Pointyard: trains on pieces of rail, ways set for them, and who waits for whom."""
