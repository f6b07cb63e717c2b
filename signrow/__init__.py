"""Signs chosen and placed by a font's rules."""
