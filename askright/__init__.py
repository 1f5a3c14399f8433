"""Words that ask for others: kinds, words, and the readings of a row."""
