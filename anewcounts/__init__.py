"""Counts that begin anew: what was counted at the least, told from samples."""
