"""Keeping and letting go: an office that keeps what it must, and nothing longer."""
