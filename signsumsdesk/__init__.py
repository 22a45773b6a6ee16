"""Signs reckoned: what the signs in equations leave open of the signs of their unknowns."""
