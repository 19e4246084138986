"""How many marked grains may be, and must be, in some of the tanks."""
