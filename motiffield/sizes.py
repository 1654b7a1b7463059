"""The bounds that the modules share."""

# The most cells of a field or common field.
MOST = 720

# The greatest x or y, either way, that is not too far.
FAR = 1000000000000

# The most forms round a motif.
DEEP = 5

# The longest side of a floor.
SIDE = 30

# The most deeds kept.
KEPT = 20
