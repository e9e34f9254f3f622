"""Things and their parts: see partsworld.things."""
