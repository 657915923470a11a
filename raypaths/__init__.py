"""Ways of light through systems of surfaces, mirrors and stops."""
