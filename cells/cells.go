// Package cells keeps the cells of a run.
package cells

// Cell is an address and the value that it holds.
type Cell struct {
	Addr int
	Next int
}

// Cells are cells by rising address: State tells them so, and halving finds them.
type Cells struct {
	list []Cell
}

// Len tells how many cells there are.
func (c *Cells) Len() int { return len(c.list) }

// At answers the cell of that number, by address; where there is none, no cell.
func (c *Cells) At(i int) Cell {
	if i < 0 || i >= len(c.list) {
		return Cell{}
	}
	return c.list[i]
}

// Find tells the number of the cell at an address, or -1.
func (c *Cells) Find(addr int) int {
	i := c.place(addr)
	if i < len(c.list) && c.list[i].Addr == addr {
		return i
	}
	return -1
}

// place tells how many cells have a lower address.
func (c *Cells) place(addr int) int {
	low := 0
	high := len(c.list)
	for low < high {
		middle := low + (high-low)/2
		if c.list[middle].Addr < addr {
			low = middle + 1
		} else {
			high = middle
		}
	}
	return low
}

// Add makes a cell; false, and nothing happens, if one is there.
func (c *Cells) Add(addr int, next int) bool {
	i := c.place(addr)
	if i < len(c.list) && c.list[i].Addr == addr {
		return false
	}
	c.list = append(c.list, Cell{})
	copy(c.list[i+1:], c.list[i:])
	c.list[i] = Cell{Addr: addr, Next: next}
	return true
}

// Link lets the cell at an address hold a value; false, if none is there.
func (c *Cells) Link(addr int, next int) bool {
	i := c.Find(addr)
	if i < 0 {
		return false
	}
	c.list[i].Next = next
	return true
}

// Remove takes the cell at an address away; false, if none is there.
func (c *Cells) Remove(addr int) bool {
	i := c.Find(addr)
	if i < 0 {
		return false
	}
	copy(c.list[i:], c.list[i+1:])
	c.list = c.list[:len(c.list)-1]
	return true
}

// Numbers tells addresses and what they hold, by turns.
func (c *Cells) Numbers() []int {
	numbers := make([]int, 2*len(c.list))
	for i := 0; i < len(c.list); i++ {
		numbers[2*i] = c.list[i].Addr
		numbers[2*i+1] = c.list[i].Next
	}
	return numbers
}

// AllReached tells whether every cell can be reached from one of the values.
func (c *Cells) AllReached(from []int) bool {
	seen := make([]bool, len(c.list))
	count := 0
	for k := 0; k < len(from); k++ {
		i := c.Find(from[k])
		for i >= 0 && !seen[i] {
			seen[i] = true
			count++
			i = c.Find(c.list[i].Next)
		}
	}
	return count == len(c.list)
}
