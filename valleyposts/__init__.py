"""Posts that are never far: see valleyposts.valley.answers."""
