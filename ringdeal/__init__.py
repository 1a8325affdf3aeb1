"""Ringdeal: names dealt round a ring to keepers with shares."""
