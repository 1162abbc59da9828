"""Sets of three: blades that are weighed, matched and evened."""
