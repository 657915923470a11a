"""Ways of light, and fans of rays, through systems of surfaces, mirrors and stops."""
