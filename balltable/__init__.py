"""A pinball table: its games, from coin to match."""
