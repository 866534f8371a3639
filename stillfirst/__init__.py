"""Who can still win: a standing of wrestlers, the bouts that are left, and who may be first."""
