package cells

import (
	"reflect"
	"sort"
	"testing"
)

// next is a small generator of numbers, so that the tests are always the same.
func next(seed *uint32, below int) int {
	*seed = *seed*1664525 + 1013904223
	return int(*seed>>8) % below
}

// numbers tells what a map of cells should look like.
func numbers(m map[int]int) []int {
	addrs := []int{}
	for a := range m {
		addrs = append(addrs, a)
	}
	sort.Ints(addrs)
	list := []int{}
	for _, a := range addrs {
		list = append(list, a, m[a])
	}
	return list
}

func TestCellsAreLikeAMap(t *testing.T) {
	seed := uint32(7)
	m := map[int]int{}
	var c Cells
	for i := 0; i < 5000; i++ {
		addr := 1 + next(&seed, 20)
		value := next(&seed, 25)
		_, there := m[addr]
		switch next(&seed, 3) {
		case 0:
			if c.Add(addr, value) == there {
				t.Fatalf("Add(%d), there: %v", addr, there)
			}
			if !there {
				m[addr] = value
			}
		case 1:
			if c.Link(addr, value) != there {
				t.Fatalf("Link(%d), there: %v", addr, there)
			}
			if there {
				m[addr] = value
			}
		case 2:
			if c.Remove(addr) != there {
				t.Fatalf("Remove(%d), there: %v", addr, there)
			}
			delete(m, addr)
		}
		if got := c.Numbers(); !reflect.DeepEqual(got, numbers(m)) || cap(got) != len(got) {
			t.Fatalf("Numbers() = %v, want %v", got, m)
		}
		if c.Len() != len(m) {
			t.Fatalf("Len() = %d", c.Len())
		}
	}
}

func TestFindAndAt(t *testing.T) {
	var c Cells
	c.Add(9, 2)
	c.Add(4, 9)
	for _, want := range [][2]int{{0, -1}, {3, -1}, {4, 0}, {5, -1}, {9, 1}, {10, -1}, {-1, -1}} {
		if i := c.Find(want[0]); i != want[1] {
			t.Errorf("Find(%d) = %d", want[0], i)
		}
	}
	none := Cell{}
	if c.At(0) != (Cell{4, 9}) || c.At(1) != (Cell{9, 2}) || c.At(2) != none || c.At(-1) != none {
		t.Errorf("At: %v %v %v %v", c.At(0), c.At(1), c.At(2), c.At(-1))
	}
}

func TestAllReached(t *testing.T) {
	for _, c := range []struct {
		numbers, from []int
		want          bool
	}{
		{nil, nil, true},
		{nil, []int{0, 5}, true},
		{[]int{5, 0}, nil, false},
		{[]int{5, 0}, []int{0, 5}, true},
		{[]int{5, 0}, []int{4}, false},
		{[]int{3, 5, 5, 7, 7, 0}, []int{3}, true},
		{[]int{3, 5, 5, 7, 7, 0}, []int{5}, false},
		{[]int{3, 5, 5, 7, 7, 0}, []int{5, 3}, true},
		{[]int{3, 5, 5, 3}, []int{0}, false},
		{[]int{3, 5, 5, 3}, []int{5}, true},
		{[]int{3, 3}, []int{3, 3}, true},
		{[]int{3, 9, 5, 9}, []int{3}, false},
		{[]int{3, 9, 5, 9, 9, 0}, []int{3, 5}, true},
	} {
		var cells Cells
		for i := 0; i < len(c.numbers); i += 2 {
			cells.Add(c.numbers[i], c.numbers[i+1])
		}
		if got := cells.AllReached(c.from); got != c.want {
			t.Errorf("%v from %v: %v", c.numbers, c.from, got)
		}
	}
}
