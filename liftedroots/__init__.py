"""Roots lifted: a polynomial's roots modulo the powers of a prime."""
