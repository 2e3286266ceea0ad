"""Primes in a ring: how a prime number parts, and the ideals over it."""
