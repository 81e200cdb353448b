"""Four words over two to six letters: how they overlap, how long each is waited for, and which comes first."""
