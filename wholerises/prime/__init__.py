"""Windows of primes."""
