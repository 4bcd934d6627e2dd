"""What procedures on linked cells need of a heap, and what they leave."""
