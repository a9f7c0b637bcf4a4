"""Riftcarry: packs riffled, columns added."""
