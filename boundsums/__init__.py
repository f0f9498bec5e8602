"""Boundsums: stretches of numbers, told outward to a grid."""
