"""Systems of lenses as texts."""
