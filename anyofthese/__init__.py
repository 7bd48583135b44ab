"""Rules that hold a moment behind the earliest of some others, decided for all times at once."""
