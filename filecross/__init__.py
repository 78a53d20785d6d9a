"""Filecross: papers filed under several heads by rules."""
