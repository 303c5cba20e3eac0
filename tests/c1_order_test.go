package tests

import (
	"slices"
	"testing"

	"loop.example/objectmodel/impl"
)

func TestValidBases(t *testing.T) {
	for _, c := range []struct {
		bases [][]int
		want  bool
	}{
		{nil, false},
		{[][]int{}, false},
		{[][]int{nil}, true},
		{[][]int{{}}, true},
		{[][]int{{0}}, false},
		{[][]int{{}, {0}}, true},
		{[][]int{{}, {}}, false},
		{[][]int{{}, nil}, false},
		{[][]int{{}, {1}}, false},
		{[][]int{{}, {2}, {0}}, false},
		{[][]int{{}, {-1}}, false},
		{[][]int{{}, {0, -1}}, false},
		{[][]int{{}, {0, 0}}, false},
		{[][]int{{}, {0}, {0, 1}}, true},
		{[][]int{{}, {0}, {1, 0}}, true},
		{[][]int{{}, {0}, {1, 0, 1}}, false},
		{[][]int{{}, {0}, {0, 2}}, false},
		{[][]int{{}, {0}, {}, {0}}, false},
		{[][]int{{}, {0}, {0}, {0}, {3, 2, 1, 0}}, true},
		{[][]int{{}, {0}, {0}, {0}, {0}, {4, 3, 2, 1, 0}}, false},
		{[][]int{{}, {0}, {0}, {0}, {3, 2, 1, 0, 0}}, false},
		{line(12), true},
		{line(13), false},
		{dense(12), true},
		{dense(13), false},
		{crossed(), true},
		{letters(), true},
	} {
		if got := impl.ValidBases(c.bases); got != c.want {
			t.Errorf("ValidBases(%v) = %v", c.bases, got)
		}
	}
}

func TestMergeLists(t *testing.T) {
	for _, c := range []struct {
		lists [][]int
		want  []int
		stuck []int
		ok    bool
	}{
		{nil, nil, nil, true},
		{[][]int{nil, {}, nil}, nil, nil, true},
		{[][]int{{5}}, numbers(5), nil, true},
		{[][]int{{}, {2, 1}, {}}, numbers(2, 1), nil, true},
		{[][]int{{2}, {1}}, numbers(2, 1), nil, true},
		{[][]int{{1, 2, 3}, {2, 3}, {1, 3}}, numbers(1, 2, 3), nil, true},
		{[][]int{{3, 4}, {1, 3}}, numbers(1, 3, 4), nil, true},
		{[][]int{{1, 4}, {2, 4}, {3, 4}}, numbers(1, 2, 3, 4), nil, true},
		{[][]int{{1, 4}, {2, 1}, {5, 2}}, numbers(5, 2, 1, 4), nil, true},
		{[][]int{{1, 4, 5}, {2, 4}, {3, 5}}, numbers(1, 2, 4, 3, 5), nil, true},
		{[][]int{{-7, 1 << 40}, {1 << 40, 0}}, numbers(-7, 1<<40, 0), nil, true},
		{[][]int{{1, 2}, {2, 1}}, nil, numbers(1, 2), false},
		{[][]int{{2, 1}, {1, 2}}, nil, numbers(2, 1), false},
		{[][]int{{9, 1, 2}, {2, 1}}, nil, numbers(1, 2), false},
		{[][]int{{1, 2}, {2, 3}, {3, 1}}, nil, numbers(1, 2, 3), false},
		{[][]int{{3, 1}, {1, 2}, {3, 4}, {1, 2}, {2, 3}}, nil, numbers(3, 1, 2), false},
		{[][]int{{7}, {1, 2}, {}, {2, 1}, {1, 8}}, nil, numbers(1, 2), false},
		{[][]int{{1, 1}}, nil, nil, false},
		{[][]int{{1, 2}, {3, 4, 3}}, nil, nil, false},
	} {
		got, ok := impl.MergeLists(c.lists)
		if !slices.Equal(got, c.want) || ok != c.ok || !ok && got != nil {
			t.Errorf("MergeLists(%v) = %v, %v", c.lists, got, ok)
		}
		if stuck := impl.StuckHeads(c.lists); !slices.Equal(stuck, c.stuck) {
			t.Errorf("StuckHeads(%v) = %v", c.lists, stuck)
		}
	}
}

func TestMergeListsAtLimits(t *testing.T) {
	if got, ok := impl.MergeLists([][]int{countTo(12)}); !ok || !slices.Equal(got, countTo(12)) {
		t.Errorf("MergeLists of 12 numbers = %v, %v", got, ok)
	}
	if got, ok := impl.MergeLists([][]int{countTo(13)}); ok || got != nil {
		t.Errorf("MergeLists of 13 numbers = %v, %v", got, ok)
	}
	var many [][]int
	for i := range impl.MaxLists {
		var list []int
		for n := range impl.MaxClasses {
			list = append(list, i*impl.MaxClasses+n)
		}
		many = append(many, list)
	}
	if got, ok := impl.MergeLists(many); !ok || !slices.Equal(got, countTo(72)) {
		t.Errorf("MergeLists of 6 lists = %v, %v", got, ok)
	}
	if got, ok := impl.MergeLists(append(many, nil)); ok || got != nil {
		t.Errorf("MergeLists of 7 lists = %v, %v", got, ok)
	}
	knot := [][]int{{1, 2}, {2, 1}}
	for _, lists := range [][][]int{
		append(knot, countTo(13)),
		append(knot, nil, nil, nil, nil, nil),
		append(knot, numbers(3, 3)),
	} {
		if got := impl.StuckHeads(lists); got != nil {
			t.Errorf("StuckHeads(%v) = %v", lists, got)
		}
	}
	if got := impl.StuckHeads(append(knot, nil, nil, nil, nil)); !slices.Equal(got, numbers(1, 2)) {
		t.Errorf("StuckHeads of 6 lists = %v", got)
	}
}

func TestOrderOf(t *testing.T) {
	for _, c := range []struct {
		bases [][]int
		c     int
		want  []int
		ok    bool
	}{
		{[][]int{{}}, 0, numbers(0), true},
		{[][]int{nil}, 0, numbers(0), true},
		{line(12), 11, numbers(11, 10, 9, 8, 7, 6, 5, 4, 3, 2, 1, 0), true},
		{dense(12), 11, numbers(11, 10, 9, 8, 7, 6, 5, 4, 3, 2, 1, 0), true},
		{[][]int{{}, {0}, {0}, {1, 2}}, 3, numbers(3, 1, 2, 0), true},
		{[][]int{{}, {0}, {0}, {2, 1}}, 3, numbers(3, 2, 1, 0), true},
		{[][]int{{}, {0}, {0}, {2, 1}}, 2, numbers(2, 0), true},
		{[][]int{{}, {0}, {1, 0}}, 2, numbers(2, 1, 0), true},
		{[][]int{{}, {0}, {0, 1}}, 2, nil, false},
		{[][]int{{}, {0}, {0, 1}, {0}}, 3, numbers(3, 0), true},
		{[][]int{{}, {0}, {0}, {0}, {3, 1}, {3, 2}, {4, 5}}, 6, numbers(6, 4, 5, 3, 1, 2, 0), true},
		{[][]int{{}, {0}, {0}, {0}, {3, 1}, {2, 3}, {4, 5}}, 6, numbers(6, 4, 5, 2, 3, 1, 0), true},
		{letters(), 6, numbers(6, 3, 1, 2, 0), true},
		{letters(), 7, numbers(7, 2, 4, 5, 0), true},
		{letters(), 8, numbers(8, 1, 4, 0), true},
		{letters(), 9, numbers(9, 6, 3, 8, 1, 7, 2, 4, 5, 0), true},
		{crossed(), 3, numbers(3, 1, 2, 0), true},
		{crossed(), 4, numbers(4, 2, 1, 0), true},
		{crossed(), 5, nil, false},
		{crossed(), 6, nil, false},
		{crossed(), 7, nil, false},
		{crossed(), -1, nil, false},
		{nil, 0, nil, false},
		{[][]int{{}, {}}, 0, nil, false},
		{[][]int{{0}}, 0, nil, false},
		{line(13), 0, nil, false},
	} {
		got, ok := impl.OrderOf(c.bases, c.c)
		if !slices.Equal(got, c.want) || ok != c.ok || !ok && got != nil {
			t.Errorf("OrderOf(%v, %d) = %v, %v", c.bases, c.c, got, ok)
		}
	}
}

// TestOrderKeepsTheListOfBases has bases of which one is above the other: a merge of their orders alone would be found.
func TestOrderKeepsTheListOfBases(t *testing.T) {
	bases := [][]int{{}, {0}, {0}, {1}, {2, 3}}
	if got, _ := impl.OrderOf(bases, 4); !slices.Equal(got, numbers(4, 2, 3, 1, 0)) {
		t.Errorf("OrderOf = %v", got)
	}
	bases[4] = numbers(1, 3)
	if got, ok := impl.OrderOf(bases, 4); ok || got != nil {
		t.Errorf("OrderOf of a base before the one below it = %v, %v", got, ok)
	}
}

func TestAboveAndBelow(t *testing.T) {
	for _, c := range []struct {
		bases        [][]int
		c            int
		above, below []int
	}{
		{[][]int{{}}, 0, numbers(0), numbers(0)},
		{line(12), 0, numbers(0), countTo(12)},
		{line(12), 11, countTo(12), numbers(11)},
		{line(4), 2, numbers(0, 1, 2), numbers(2, 3)},
		{diamond(), 0, numbers(0), numbers(0, 1, 2, 3)},
		{diamond(), 1, numbers(0, 1), numbers(1, 3)},
		{diamond(), 3, numbers(0, 1, 2, 3), numbers(3)},
		{letters(), 8, numbers(0, 1, 4, 8), numbers(8, 9)},
		{letters(), 2, numbers(0, 2), numbers(2, 6, 7, 9)},
		{crossed(), 5, numbers(0, 1, 2, 3, 4, 5), numbers(5, 6)},
		{crossed(), 4, numbers(0, 1, 2, 4), numbers(4, 5, 6)},
		{diamond(), 4, nil, nil},
		{diamond(), -1, nil, nil},
		{nil, 0, nil, nil},
		{[][]int{{}, {1}}, 0, nil, nil},
		{line(13), 0, nil, nil},
	} {
		above, below := impl.AboveOf(c.bases, c.c), impl.BelowOf(c.bases, c.c)
		if !slices.Equal(above, c.above) || !slices.Equal(below, c.below) {
			t.Errorf("class %d of %v: AboveOf = %v, BelowOf = %v", c.c, c.bases, above, below)
		}
	}
}

func TestWalks(t *testing.T) {
	for _, c := range []struct {
		bases       [][]int
		c           int
		first, last []int
	}{
		{[][]int{{}}, 0, numbers(0), numbers(0)},
		{diamond(), 3, numbers(3, 1, 0, 2), numbers(3, 1, 2, 0)},
		{[][]int{{}, {0}, {0}, {2, 1}}, 3, numbers(3, 2, 0, 1), numbers(3, 2, 1, 0)},
		{[][]int{{}, {0}, {0, 1}}, 2, numbers(2, 0, 1), numbers(2, 1, 0)},
		{crossed(), 5, numbers(5, 3, 1, 0, 2, 4), numbers(5, 3, 4, 2, 1, 0)},
		{letters(), 9, numbers(9, 6, 3, 0, 1, 2, 8, 4, 7, 5), numbers(9, 6, 3, 8, 1, 7, 2, 4, 5, 0)},
		{line(12), 9, numbers(9, 8, 7, 6, 5, 4, 3, 2, 1, 0), numbers(9, 8, 7, 6, 5, 4, 3, 2, 1, 0)},
		{dense(12), 9, numbers(9, 8, 7, 6, 5, 4, 3, 2, 1, 0), numbers(9, 8, 7, 6, 5, 4, 3, 2, 1, 0)},
		{line(12), 10, nil, nil},
		{line(12), 11, nil, nil},
		{diamond(), 4, nil, nil},
		{diamond(), -1, nil, nil},
		{nil, 0, nil, nil},
		{[][]int{{}, {}}, 0, nil, nil},
		{line(13), 0, nil, nil},
	} {
		first, last := impl.DepthFirst(c.bases, c.c), impl.LastMet(c.bases, c.c)
		if !slices.Equal(first, c.first) || !slices.Equal(last, c.last) {
			t.Errorf("class %d of %v: DepthFirst = %v, LastMet = %v", c.c, c.bases, first, last)
		}
	}
}

func TestKeepsOrder(t *testing.T) {
	for _, c := range []struct {
		long, short []int
		want        bool
	}{
		{nil, nil, true},
		{numbers(1), nil, true},
		{nil, numbers(1), false},
		{numbers(1, 2, 3), numbers(1, 2, 3), true},
		{numbers(1, 2, 3), numbers(1, 3), true},
		{numbers(1, 2, 3), numbers(2), true},
		{numbers(1, 2, 3), numbers(3, 1), false},
		{numbers(1, 2, 3), numbers(2, 1, 3), false},
		{numbers(1, 2, 3), numbers(4), false},
		{numbers(1, 2, 3), numbers(1, 2, 3, 4), false},
		{numbers(1, 2), numbers(1, 1), false},
		{numbers(1, 1, 2), numbers(1, 2), false},
		{numbers(1, 1, 2), nil, false},
		{numbers(-5, 1<<40, 0), numbers(-5, 0), true},
		{countTo(12), countTo(12), true},
		{countTo(12), numbers(0, 11), true},
		{countTo(13), numbers(0), false},
		{countTo(13), nil, false},
		{countTo(12), countTo(13), false},
	} {
		if got := impl.KeepsOrder(c.long, c.short); got != c.want {
			t.Errorf("KeepsOrder(%v, %v) = %v", c.long, c.short, got)
		}
	}
}

func TestCountOrders(t *testing.T) {
	for _, c := range []struct {
		lists [][]int
		want  int
	}{
		{nil, 1},
		{[][]int{{}, nil, {}}, 1},
		{[][]int{nil, nil, nil, nil, nil, nil}, 1},
		{[][]int{nil, nil, nil, nil, nil, nil, nil}, -1},
		{[][]int{{4}}, 1},
		{[][]int{{4}, {4}}, 1},
		{[][]int{{4}, {5}, {6}}, 6},
		{[][]int{{1}, {2}, {3}, {4}, {5}, {6}}, 720},
		{[][]int{{1}, {2}, {3}, {4}, {5}, {6, 7}}, 2520},
		{[][]int{{1}, {2}, {3}, {4}, {5, 8}, {6, 7}}, -1},
		{[][]int{{1}, {2}, {3}, {4}, {5}, {6}, {7}}, -1},
		{[][]int{{1, 2, 3}, {4, 5, 6, 7}}, 35},
		{[][]int{{1, 2, 3, 4}, {4, 5, 6, 7}}, 1},
		{[][]int{{1, 2, 3, 4}, {5, 6, 7, 8}}, -1},
		{[][]int{{1, 2}, {1, 3}, {2, 4}, {3, 4}}, 2},
		{[][]int{{1, 2}, {2, 3}, {3, 1}}, 0},
		{[][]int{{5}, {1, 2}, {2, 1}}, 0},
		{[][]int{countTo(7), countTo(7)}, 1},
		{[][]int{countTo(8)}, -1},
		{[][]int{{1, 1}}, -1},
		{[][]int{{1, 2}, {2, 1}, {3, 3}}, -1},
		{[][]int{{-1, 1 << 40}, {7}}, 3},
	} {
		if got := impl.CountOrders(c.lists); got != c.want {
			t.Errorf("CountOrders(%v) = %d", c.lists, got)
		}
	}
}

func TestAddClass(t *testing.T) {
	for _, c := range []struct {
		bases [][]int
		list  []int
		want  [][]int
	}{
		{[][]int{{}}, numbers(0), [][]int{{}, {0}}},
		{diamond(), numbers(3, 1), [][]int{{}, {0}, {0}, {1, 2}, {3, 1}}},
		{diamond(), numbers(3, 2, 1), nil},
		{diamond(), numbers(3, 1, 2, 0), [][]int{{}, {0}, {0}, {1, 2}, {3, 1, 2, 0}}},
		{diamond(), numbers(1, 3), nil},
		{diamond(), numbers(), nil},
		{diamond(), nil, nil},
		{diamond(), numbers(4), nil},
		{diamond(), numbers(-1), nil},
		{diamond(), numbers(3, 3), nil},
		{dense(5), numbers(4, 3, 2, 1), dense(6)},
		{dense(5), numbers(4, 3, 2, 1, 0), nil},
		{line(11), numbers(10), line(12)},
		{line(12), numbers(11), nil},
		{line(13), numbers(0), nil},
		{crossed(), numbers(5), nil},
		{crossed(), numbers(4), append(crossed(), numbers(4))},
		{crossed(), numbers(0, 6), nil},
		{nil, nil, nil},
		{nil, numbers(0), nil},
		{[][]int{{}, {}}, numbers(0), nil},
	} {
		got, ok := impl.AddClass(c.bases, c.list)
		if !equalLists(got, c.want) || ok != (c.want != nil) || !ok && got != nil {
			t.Errorf("AddClass(%v, %v) = %v, %v", c.bases, c.list, got, ok)
		}
	}
}

func TestAllOrders(t *testing.T) {
	for _, c := range []struct {
		bases [][]int
		want  bool
	}{
		{[][]int{{}}, true},
		{diamond(), true},
		{letters(), true},
		{line(12), true},
		{dense(12), true},
		{crossed()[:5], true},
		{crossed()[:6], false},
		{crossed(), false},
		{append(crossed()[:6], numbers(0)), false},
		{[][]int{{}, {0}, {0, 1}}, false},
		{nil, false},
		{[][]int{{}, {}}, false},
		{[][]int{{0}}, false},
		{line(13), false},
	} {
		if got := impl.AllOrders(c.bases); got != c.want {
			t.Errorf("AllOrders(%v) = %v", c.bases, got)
		}
	}
}
