"""Heights beside a post: how high things in a picture are, and the eye that saw them."""
