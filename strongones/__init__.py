"""Two strong ones before a weak judge: a house of hearings."""
