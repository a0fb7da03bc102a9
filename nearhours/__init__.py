"""Nearhours: towers that set their clocks by letters, whoever of them lied."""
