"""Forms over the fractions."""
