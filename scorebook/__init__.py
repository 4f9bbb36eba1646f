"""A scorer's book for a match of cricket, told ball by ball."""
