"""Whether old and new understand each other: forms of messages, and what is asked of them."""
