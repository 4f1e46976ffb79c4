"""A duel of two to four shots who shoot in turn; the calls are in duelaims.duel."""
