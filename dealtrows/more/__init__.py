"""What small cases tell further: errors of counts, local checks, choices of placements."""
