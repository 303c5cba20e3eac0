package tests

import (
	"math/rand"
	"slices"
	"testing"

	"loop.example/objectmodel/impl"
)

// spare returns lists with the same numbers, with room behind each of them and behind all of them that holds other numbers.
func spare(lists [][]int) [][]int {
	out := make([][]int, 0, len(lists)+4)
	for _, list := range lists {
		room := append(slices.Clone(list), 77, 77, 77)
		out = append(out, room[:len(list)])
	}
	full := append(out, numbers(77), numbers(77))
	return full[:len(lists)]
}

// isIntact reports whether lists made by spare are still the given ones, and the room behind them is as it was.
func isIntact(lists, want [][]int) bool {
	behind := lists[:len(lists)+2]
	for i, list := range lists {
		room := list[:len(list)+3]
		if !slices.Equal(room[:len(list)], want[i]) || !slices.Equal(room[len(list):], numbers(77, 77, 77)) {
			return false
		}
	}
	return equalLists(behind[len(lists):], [][]int{{77}, {77}})
}

// spoil overwrites a list and the room behind it.
func spoil(list []int) {
	list = list[:cap(list)]
	for i := range list {
		list[i] = -99
	}
}

// listsFrom returns all lists of chapter 1 that are made from bases, which are also taken as lists.
func listsFrom(bases [][]int, c int) [][]int {
	order, _ := impl.OrderOf(bases, c)
	merged, _ := impl.MergeLists(bases)
	return [][]int{
		order, merged, impl.StuckHeads(bases), impl.AboveOf(bases, c),
		impl.BelowOf(bases, c), impl.DepthFirst(bases, c), impl.LastMet(bases, c),
	}
}

func TestArgumentsAreNotChangedAndNotShared(t *testing.T) {
	for _, bases := range [][][]int{{{}}, diamond(), line(6), {{}, {0}, {0}, {1, 2}, {2, 1}, {3, 4}}} {
		given := spare(bases)
		for c := range bases {
			want := cloneLists(listsFrom(bases, c))
			impl.CountOrders(given)
			impl.KeepsOrder(given[c], given[0])
			impl.AllOrders(given)
			for _, list := range listsFrom(given, c) {
				spoil(list)
			}
			if !isIntact(given, bases) {
				t.Fatalf("%v was changed: %v", bases, given)
			}
			if got := listsFrom(given, c); !equalLists(got, want) {
				t.Fatalf("class %d of %v: %v, then %v", c, bases, want, got)
			}
		}
	}
}

func TestAddClassSharesNoMemory(t *testing.T) {
	bases := dense(5)
	given, list := spare(bases), spare([][]int{{4, 3, 2}})
	longer, ok := impl.AddClass(given, list[0])
	want := append(dense(5), numbers(4, 3, 2))
	if !ok || !equalLists(longer, want) || !isIntact(given, bases) || !isIntact(list, [][]int{{4, 3, 2}}) {
		t.Fatalf("AddClass = %v, %v", longer, ok)
	}
	for i := range longer {
		spoil(longer[i])
		for j := range longer {
			if j > i && !slices.Equal(longer[j], want[j]) {
				t.Fatalf("the bases of %d and of %d share memory", i, j)
			}
		}
	}
	rest := longer[:cap(longer)]
	for i := range rest {
		rest[i] = numbers(-99)
	}
	if !isIntact(given, bases) || !isIntact(list, [][]int{{4, 3, 2}}) {
		t.Fatal("AddClass shares memory with its arguments")
	}
}

// wildLists returns lists that are seldom valid.
func wildLists(r *rand.Rand) [][]int {
	var lists [][]int
	for range r.Intn(15) {
		var list []int
		for range r.Intn(15) {
			if r.Intn(4) == 0 {
				list = append(list, odd()[r.Intn(len(odd()))])
			} else {
				list = append(list, r.Intn(12))
			}
		}
		lists = append(lists, list)
	}
	return lists
}

// checkNothing checks that each function that takes a class returns what it does for arguments that are not valid.
func checkNothing(t *testing.T, bases [][]int, c int) {
	t.Helper()
	order, ok := impl.OrderOf(bases, c)
	if order != nil || ok {
		t.Fatalf("OrderOf(%v, %d) = %v, %v", bases, c, order, ok)
	}
	for i, list := range [][]int{impl.AboveOf(bases, c), impl.BelowOf(bases, c), impl.DepthFirst(bases, c), impl.LastMet(bases, c)} {
		if list != nil {
			t.Fatalf("function %d of (%v, %d) = %v", i, bases, c, list)
		}
	}
}

func TestClassesThatAreNotThere(t *testing.T) {
	for _, c := range odd() {
		checkNothing(t, diamond(), c)
		checkNothing(t, dense(12), c)
		checkNothing(t, nil, c)
	}
	checkNothing(t, diamond(), 4)
}

func TestAllFunctionsAreTotal(t *testing.T) {
	r := source(5)
	for range 5000 {
		lists := wildLists(r)
		c := r.Intn(14) - 1
		if !impl.ValidBases(lists) {
			checkNothing(t, lists, c)
			longer, ok := impl.AddClass(lists, numbers(0))
			if longer != nil || ok || impl.AllOrders(lists) {
				t.Fatalf("AddClass(%v) = %v, %v", lists, longer, ok)
			}
		}
		merged, ok := impl.MergeLists(lists)
		if !ok && merged != nil {
			t.Fatalf("MergeLists(%v) = %v, %v", lists, merged, ok)
		}
		if count := impl.CountOrders(lists); count < -1 || count > 0 && !ok {
			t.Fatalf("CountOrders(%v) = %d", lists, count)
		}
		impl.StuckHeads(lists)
		for _, list := range lists {
			impl.KeepsOrder(list, lists[0])
			impl.AddClass(diamond(), list)
		}
	}
}

// TestLongListsAreRefusedAtOnce has lists that would take hours if each number was compared with all others.
func TestLongListsAreRefusedAtOnce(t *testing.T) {
	long := countTo(3_000_000)
	lists := [][]int{long}
	if _, ok := impl.MergeLists(lists); ok || impl.StuckHeads(lists) != nil || impl.CountOrders(lists) != -1 {
		t.Error("a long list was merged")
	}
	if impl.KeepsOrder(long, nil) || impl.KeepsOrder(nil, long) || impl.ValidBases([][]int{{}, long}) {
		t.Error("a long list was kept")
	}
	if _, ok := impl.AddClass(diamond(), long); ok {
		t.Error("a class was added with a long list")
	}
	if impl.ValidBases(make([][]int, 3_000_000)) {
		t.Error("bases of too many classes are valid")
	}
}
