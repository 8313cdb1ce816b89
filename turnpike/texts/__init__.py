"""Trees and their texts, values and objects as trees, saved texts, scripts."""
