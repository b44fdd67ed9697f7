"""Sameasnew: modules that are replaced while they are in use, and nobody can tell."""
