"""Four words over two to six letters, how they overlap and how long each is waited for."""
