"""Frothwane: a froth between two glasses, whose bubbles grow and wane by their sides."""
