"""Sets of men, each man so many sets behind his father."""
