"""Claims on figures of the plane: always or not."""
