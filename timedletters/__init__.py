"""Letters that open in their time: sealed quickly, opened by many squarings."""
