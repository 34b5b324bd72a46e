"""Arrays of numbers, from here to there."""
