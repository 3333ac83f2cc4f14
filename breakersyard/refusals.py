"""The numbers that refused calls answer."""

NOT_THERE = -2
NOT_HAD = -6
TANK_HAS_LESS = -12
NOT_DRY = -13
IN_THE_WAY = -16
DRY_ALREADY = -17
NOT_AS_TOLD = -22
NO_ROOM = -28
NO_WAY = -33
TANK_WOULD_SPILL = -62
