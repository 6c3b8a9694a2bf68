"""Rods that move one another with slack."""
