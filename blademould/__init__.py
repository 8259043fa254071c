"""Plies by a table: which plies a blade's mould still lacks, and what they take."""
