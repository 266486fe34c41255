"""Soundtill: tools that went bad at unknown moments, and what they measured."""
