"""What is left modulo primes."""
