"""endswell: may a desk's book be exchanged, whoever it talks with?"""
