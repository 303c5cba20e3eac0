package tests

import (
	"slices"
	"testing"

	"loop.example/objectmodel/impl"
)

func TestValidOps(t *testing.T) {
	for _, c := range []struct {
		list []impl.Op
		want bool
	}{
		{nil, true},
		{changes(), true},
		{changes(impl.Op{}), true},
		{changes(set(0, 0, 0), gone(3, 9), set(3, 9, 99)), true},
		{changes(gone(0, 5)), true},
		{changes(set(4, 0, 0)), false},
		{changes(set(-1, 0, 0)), false},
		{changes(set(0, 10, 0)), false},
		{changes(set(0, -1, 0)), false},
		{changes(set(0, 0, 100)), false},
		{changes(set(0, 0, -1)), false},
		{changes(gone(4, 0)), false},
		{changes(gone(0, 10)), false},
		{changes(impl.Op{Value: 99, Gone: true}), true},
		{changes(impl.Op{Value: 100, Gone: true}), false},
		{changes(impl.Op{Value: -1, Gone: true}), false},
		{changes(set(0, 0, 0), set(1, 1, 1), set(0, 10, 0)), false},
		{changes(set(0, 10, 0), set(1, 1, 1)), false},
		{make([]impl.Op, 40), true},
		{make([]impl.Op, 41), false},
	} {
		if got := impl.ValidOps(c.list); got != c.want {
			t.Errorf("ValidOps(%v) = %v", c.list, got)
		}
	}
}

func TestPlainPairs(t *testing.T) {
	for _, c := range []struct {
		list []impl.Op
		who  int
		want []impl.Pair
	}{
		{nil, 0, nil},
		{changes(set(0, 5, 7)), 0, pairs(5, 7)},
		{changes(set(0, 5, 7)), 1, nil},
		{changes(set(3, 9, 99)), 3, pairs(9, 99)},
		{changes(set(0, 5, 7), set(0, 4, 8)), 0, pairs(5, 7, 4, 8)},
		{changes(set(0, 5, 7), set(0, 4, 8), set(0, 5, 0)), 0, pairs(5, 0, 4, 8)},
		{changes(set(0, 5, 7), set(0, 4, 8), gone(0, 5)), 0, pairs(4, 8)},
		{changes(set(0, 5, 7), set(0, 4, 8), gone(0, 5), set(0, 5, 7)), 0, pairs(4, 8, 5, 7)},
		{changes(set(0, 5, 7), set(0, 4, 8), gone(0, 4), set(0, 4, 8)), 0, pairs(5, 7, 4, 8)},
		{changes(set(0, 5, 7), gone(0, 5)), 0, nil},
		{changes(set(0, 5, 7), gone(0, 5), gone(0, 5)), 0, nil},
		{changes(gone(0, 5)), 0, nil},
		{changes(gone(0, 5), set(0, 5, 7)), 0, pairs(5, 7)},
		{changes(set(0, 5, 7), gone(1, 5), set(1, 5, 8)), 0, pairs(5, 7)},
		{changes(set(0, 5, 7), gone(1, 5), set(1, 5, 8)), 1, pairs(5, 8)},
		{changes(set(0, 1, 1), set(0, 2, 2), set(0, 3, 3), gone(0, 1), set(0, 3, 4), set(0, 2, 5)), 0, pairs(2, 5, 3, 4)},
		{changes(set(0, 1, 1), set(0, 2, 2), set(0, 3, 3), gone(0, 2), gone(0, 1), set(0, 2, 6), set(0, 3, 7)), 0, pairs(3, 7, 2, 6)},
		{changes(set(0, 5, 7)), 4, nil},
		{changes(set(0, 5, 7)), -1, nil},
		{changes(set(0, 5, 7), set(1, 10, 0)), 0, nil},
		{changes(set(0, 5, 7), impl.Op{Who: 1, Value: 100, Gone: true}), 0, nil},
		{make([]impl.Op, 40), 0, pairs(0, 0)},
		{make([]impl.Op, 41), 0, nil},
	} {
		if got := impl.PlainPairs(c.list, c.who); !slices.Equal(got, c.want) {
			t.Errorf("PlainPairs(%v, %d) = %v", c.list, c.who, got)
		}
	}
}

func TestPlainPairsOfAllNames(t *testing.T) {
	var list []impl.Op
	var want []impl.Pair
	for name := 9; name >= 0; name-- {
		list = append(list, set(2, name, 10*name))
		want = append(want, impl.Pair{Name: name, Value: 10 * name})
	}
	if got := impl.PlainPairs(list, 2); !slices.Equal(got, want) {
		t.Errorf("PlainPairs = %v", got)
	}
}

func TestValidHeapsThatShare(t *testing.T) {
	for _, c := range []struct {
		keys, values, order []int
		want                bool
	}{
		{nil, nil, nil, true},
		{numbers(0, 9), nil, nil, true},
		{numbers(9, 7, 5, 3, 1), nil, nil, true},
		{numbers(9, 7, 5, 3, 1, 0), nil, nil, false},
		{numbers(10), nil, nil, false},
		{numbers(-1), nil, nil, false},
		{numbers(4, 4), nil, nil, false},
		{numbers(4, 5, 4), nil, nil, false},
		{numbers(4), numbers(0), numbers(0), true},
		{numbers(4), numbers(99), numbers(0), true},
		{numbers(4), numbers(100), numbers(0), false},
		{numbers(4), numbers(-2), numbers(0), false},
		{numbers(4), numbers(-2), nil, false},
		{numbers(4), numbers(-1), nil, false},
		{numbers(4), numbers(-1), numbers(0), false},
		{numbers(4), numbers(1, 2), numbers(0, 1), false},
		{nil, numbers(1), numbers(0), false},
		{numbers(4, 5), numbers(1), numbers(0), true},
		{numbers(4, 5), numbers(1, -1), numbers(0), false},
		{numbers(4, 5), numbers(-1, 1), numbers(1), true},
		{numbers(4, 5), numbers(-1, 1), numbers(0), false},
		{numbers(4, 5), numbers(-1, 1), numbers(0, 1), false},
		{numbers(4, 5), numbers(-1, 1), numbers(1, 0), false},
		{numbers(4, 5), numbers(-1, 1), nil, false},
		{numbers(4, 5), numbers(-2, 1), numbers(1), false},
		{numbers(4, 5), numbers(-2, 1), numbers(0, 1), false},
		{numbers(4, 5), numbers(1, 2), numbers(0, 1), true},
		{numbers(4, 5), numbers(1, 2), numbers(1, 0), true},
		{numbers(4, 5), numbers(1, 2), numbers(0), false},
		{numbers(4, 5), numbers(1, 2), numbers(1), false},
		{numbers(4, 5), numbers(1, 2), numbers(0, 0), false},
		{numbers(4, 5), numbers(1, 2), numbers(1, 1), false},
		{numbers(4, 5), numbers(1, 2), numbers(0, 1, 0), false},
		{numbers(4, 5), numbers(1, 2), numbers(0, 2), false},
		{numbers(4, 5), numbers(1, 2), numbers(-1, 0), false},
		{numbers(4, 5), numbers(1, 2), numbers(4, 5), false},
		{numbers(4, 5, 6), numbers(1, 2), numbers(0, 1, 2), false},
		{numbers(4, 5), nil, numbers(0), false},
		{numbers(9, 7, 5, 3, 1), numbers(-1, 8, -1, -1, 0), numbers(4, 1), true},
		{numbers(9, 7, 5, 3, 1), numbers(1, 2, 3, 4, 5), numbers(4, 2, 0, 1, 3), true},
		{numbers(9, 7, 5, 3, 1), numbers(1, 2, 3, 4, 5), numbers(4, 2, 0, 1, 4), false},
		{numbers(9, 7, 5, 3, 1), numbers(1, 2, 3, 4, 5, 6), numbers(4, 2, 0, 1, 3, 5), false},
	} {
		for who := range impl.MaxInsts {
			h := heapOf(c.keys)
			h.Insts[who] = sharing(c.values, c.order)
			if got := impl.ValidHeap(h); got != c.want {
				t.Errorf("ValidHeap(%v) = %v", h, got)
			}
			h.Insts[who].Own = pairs(2, 2)
			if impl.ValidHeap(h) {
				t.Errorf("ValidHeap(%v)", h)
			}
		}
	}
}

func TestValidHeapsThatDoNotShare(t *testing.T) {
	all := pairs(9, 1, 8, 2, 7, 3, 6, 4, 5, 5, 4, 6, 3, 7, 2, 8, 1, 9, 0, 0)
	for _, c := range []struct {
		own  []impl.Pair
		want bool
	}{
		{nil, true},
		{pairs(0, 0), true},
		{pairs(9, 99), true},
		{pairs(10, 0), false},
		{pairs(-1, 0), false},
		{pairs(0, 100), false},
		{pairs(0, -1), false},
		{pairs(3, 1, 2, 1), true},
		{pairs(3, 1, 3, 1), false},
		{pairs(3, 1, 4, 1, 3, 2), false},
		{pairs(3, 1, 4, -1), false},
		{all, true},
		{append(all, impl.Pair{}), false},
		{append(all, impl.Pair{Name: 10}), false},
	} {
		for who := range impl.MaxInsts {
			h := heapOf(numbers(3, 4))
			h.Insts[who] = impl.Inst{Own: c.own}
			if got := impl.ValidHeap(h); got != c.want {
				t.Errorf("ValidHeap(%v) = %v", h, got)
			}
			h.Insts[who] = impl.Inst{Own: c.own, Values: numbers(1), Order: numbers(0)}
			if impl.ValidHeap(h) {
				t.Errorf("ValidHeap(%v)", h)
			}
			h.Insts[who] = impl.Inst{Own: c.own, Values: numbers(-1)}
			if impl.ValidHeap(h) {
				t.Errorf("ValidHeap(%v)", h)
			}
			h.Insts[who] = impl.Inst{Own: c.own, Order: numbers(0)}
			if impl.ValidHeap(h) {
				t.Errorf("ValidHeap(%v)", h)
			}
		}
	}
}

func TestValidHeapsHaveAllInstances(t *testing.T) {
	for n := range 8 {
		for _, inst := range []impl.Inst{bare(), {}} {
			h := impl.Heap{Insts: slices.Repeat([]impl.Inst{inst}, n)}
			if got := impl.ValidHeap(h); got != (n == impl.MaxInsts) {
				t.Errorf("ValidHeap(%v) = %v", h, got)
			}
		}
	}
	if impl.ValidHeap(impl.Heap{}) || impl.ValidHeap(impl.Heap{Keys: numbers(1)}) {
		t.Error("a heap without instances is valid")
	}
}

// steps is a heap after changes, as they are made one after the other.
type steps struct {
	list []impl.Op
	want impl.Heap
}

// checkSteps checks what is made by all changes at once, and by the last one, from what the others made.
func checkSteps(t *testing.T, s steps) {
	t.Helper()
	if got := impl.RunHeap(s.list); !equalHeaps(got, s.want) {
		t.Errorf("RunHeap(%v) = %v", s.list, got)
	}
	if len(s.list) == 0 {
		return
	}
	last := len(s.list) - 1
	if got := impl.StepHeap(impl.RunHeap(s.list[:last]), s.list[last]); !equalHeaps(got, s.want) {
		t.Errorf("StepHeap by the last one of %v = %v", s.list, got)
	}
}

func TestHeapsThatShare(t *testing.T) {
	for _, s := range []steps{
		{nil, heapOf(nil)},
		{changes(set(0, 5, 7)), heapOf(numbers(5), sharing(numbers(7), numbers(0)))},
		{changes(set(3, 5, 7)), heapOf(numbers(5), bare(), bare(), bare(), sharing(numbers(7), numbers(0)))},
		{changes(set(0, 5, 0)), heapOf(numbers(5), sharing(numbers(0), numbers(0)))},
		{changes(gone(0, 5)), heapOf(nil)},
		{changes(set(0, 5, 7), set(0, 5, 8)), heapOf(numbers(5), sharing(numbers(8), numbers(0)))},
		{changes(set(0, 5, 7), gone(0, 5)), heapOf(numbers(5))},
		{changes(set(0, 5, 7), gone(0, 5), gone(0, 5)), heapOf(numbers(5))},
		{changes(set(0, 5, 7), gone(0, 4)), heapOf(numbers(5), sharing(numbers(7), numbers(0)))},
		{changes(set(0, 5, 7), gone(1, 5)), heapOf(numbers(5), sharing(numbers(7), numbers(0)))},
		{changes(set(0, 5, 7), gone(0, 5), set(0, 5, 8)), heapOf(numbers(5), sharing(numbers(8), numbers(0)))},
		{changes(set(0, 5, 7), set(1, 4, 8)), heapOf(numbers(5, 4), sharing(numbers(7), numbers(0)), sharing(numbers(-1, 8), numbers(1)))},
		{changes(set(0, 5, 7), set(1, 4, 8), gone(1, 5)), heapOf(numbers(5, 4), sharing(numbers(7), numbers(0)), sharing(numbers(-1, 8), numbers(1)))},
		{changes(set(0, 5, 7), set(1, 4, 8), gone(0, 4)), heapOf(numbers(5, 4), sharing(numbers(7), numbers(0)), sharing(numbers(-1, 8), numbers(1)))},
		{changes(set(0, 5, 7), set(1, 4, 8), set(1, 5, 9)), heapOf(numbers(5, 4), sharing(numbers(7), numbers(0)), sharing(numbers(9, 8), numbers(1, 0)))},
		{changes(set(0, 5, 7), set(1, 4, 8), gone(1, 4)), heapOf(numbers(5, 4), sharing(numbers(7), numbers(0)))},
	} {
		checkSteps(t, s)
	}
}

func TestNamesThatAreTakenAwayAndSetAgain(t *testing.T) {
	three := changes(set(2, 1, 10), set(2, 2, 20), set(2, 3, 30))
	for _, s := range []struct {
		list          []impl.Op
		values, order []int
	}{
		{nil, numbers(10, 20, 30), numbers(0, 1, 2)},
		{changes(gone(2, 1)), numbers(-1, 20, 30), numbers(1, 2)},
		{changes(gone(2, 2)), numbers(10, -1, 30), numbers(0, 2)},
		{changes(gone(2, 3)), numbers(10, 20), numbers(0, 1)},
		{changes(gone(2, 2), gone(2, 3)), numbers(10), numbers(0)},
		{changes(gone(2, 1), gone(2, 2)), numbers(-1, -1, 30), numbers(2)},
		{changes(gone(2, 1), gone(2, 2), gone(2, 3)), nil, nil},
		{changes(gone(2, 1), gone(2, 2), gone(2, 3), set(2, 3, 31)), numbers(-1, -1, 31), numbers(2)},
		{changes(gone(2, 2), gone(2, 3), set(2, 3, 31)), numbers(10, -1, 31), numbers(0, 2)},
		{changes(gone(2, 1), set(2, 1, 11)), numbers(11, 20, 30), numbers(1, 2, 0)},
		{changes(gone(2, 2), set(2, 2, 21), set(2, 1, 11)), numbers(11, 21, 30), numbers(0, 2, 1)},
		{changes(gone(2, 3), set(2, 1, 11), set(2, 3, 31)), numbers(11, 20, 31), numbers(0, 1, 2)},
		{changes(gone(2, 1), gone(2, 2), set(2, 2, 21), set(2, 1, 11)), numbers(11, 21, 30), numbers(2, 1, 0)},
		{changes(set(2, 1, 12), set(2, 3, 32)), numbers(12, 20, 32), numbers(0, 1, 2)},
	} {
		checkSteps(t, steps{slices.Concat(three, s.list), heapOf(numbers(1, 2, 3), bare(), bare(), sharing(s.values, s.order))})
	}
}

func TestKeysThatAreFull(t *testing.T) {
	keys := numbers(9, 8, 7, 6, 5)
	five := changes(set(0, 9, 1), set(1, 8, 2), set(0, 7, 3), set(0, 6, 4), set(1, 5, 5))
	first, second := sharing(numbers(1, -1, 3, 4), numbers(0, 2, 3)), sharing(numbers(-1, 2, -1, -1, 5), numbers(1, 4))
	for _, s := range []struct {
		list                 []impl.Op
		first, second, third impl.Inst
	}{
		{nil, first, second, bare()},
		{changes(set(0, 5, 6)), sharing(numbers(1, -1, 3, 4, 6), numbers(0, 2, 3, 4)), second, bare()},
		{changes(set(0, 4, 6)), owning(9, 1, 7, 3, 6, 4, 4, 6), second, bare()},
		{changes(set(1, 4, 6)), first, owning(8, 2, 5, 5, 4, 6), bare()},
		{changes(set(2, 4, 6)), first, second, owning(4, 6)},
		{changes(gone(2, 4)), first, second, bare()},
		{changes(gone(0, 4)), first, second, bare()},
		{changes(gone(0, 9), set(0, 4, 6)), owning(7, 3, 6, 4, 4, 6), second, bare()},
		{changes(gone(0, 9), set(0, 9, 2), set(0, 4, 6)), owning(7, 3, 6, 4, 9, 2, 4, 6), second, bare()},
		{changes(gone(1, 8), gone(1, 5), set(2, 4, 6)), first, bare(), owning(4, 6)},
		{changes(gone(1, 8), gone(1, 5), set(1, 4, 6)), first, owning(4, 6), bare()},
		{changes(set(2, 4, 6), gone(2, 4)), first, second, impl.Inst{}},
		{changes(set(2, 4, 6), gone(2, 4), set(2, 9, 7)), first, second, owning(9, 7)},
		{changes(set(2, 4, 6), set(2, 9, 7)), first, second, owning(4, 6, 9, 7)},
		{changes(set(2, 4, 6), set(2, 9, 7), set(2, 4, 8)), first, second, owning(4, 8, 9, 7)},
		{changes(set(2, 4, 6), set(2, 9, 7), gone(2, 4), set(2, 4, 8)), first, second, owning(9, 7, 4, 8)},
		{changes(set(2, 4, 6), set(2, 9, 7), gone(2, 3)), first, second, owning(4, 6, 9, 7)},
		{changes(set(0, 4, 6), set(0, 7, 0), gone(0, 9), set(0, 4, 1), set(0, 3, 2)), owning(7, 0, 6, 4, 4, 1, 3, 2), second, bare()},
		{changes(set(0, 4, 6), set(1, 3, 7), set(2, 2, 8)), owning(9, 1, 7, 3, 6, 4, 4, 6), owning(8, 2, 5, 5, 3, 7), owning(2, 8)},
	} {
		checkSteps(t, steps{slices.Concat(five, s.list), heapOf(keys, s.first, s.second, s.third)})
	}
}

// TestStepsOfHeapsThatChangesDoNotMake has instances that do not share though there is room for keys.
func TestStepsOfHeapsThatChangesDoNotMake(t *testing.T) {
	h := heapOf(numbers(3), owning(5, 1, 3, 2), sharing(numbers(4), numbers(0)), impl.Inst{})
	all := owning(9, 1, 8, 2, 7, 3, 6, 4, 5, 5, 4, 6, 3, 7, 2, 8, 1, 9, 0, 0)
	for _, c := range []struct {
		h    impl.Heap
		o    impl.Op
		want impl.Heap
	}{
		{h, set(0, 6, 7), heapOf(numbers(3), owning(5, 1, 3, 2, 6, 7), h.Insts[1], impl.Inst{})},
		{h, set(0, 5, 7), heapOf(numbers(3), owning(5, 7, 3, 2), h.Insts[1], impl.Inst{})},
		{h, gone(0, 5), heapOf(numbers(3), owning(3, 2), h.Insts[1], impl.Inst{})},
		{h, gone(0, 3), heapOf(numbers(3), owning(5, 1), h.Insts[1], impl.Inst{})},
		{h, gone(0, 0), h},
		{h, set(2, 3, 9), heapOf(numbers(3), h.Insts[0], h.Insts[1], owning(3, 9))},
		{h, gone(2, 3), h},
		{h, set(1, 5, 9), heapOf(numbers(3, 5), h.Insts[0], sharing(numbers(4, 9), numbers(0, 1)), impl.Inst{})},
		{h, set(3, 5, 9), heapOf(numbers(3, 5), h.Insts[0], h.Insts[1], impl.Inst{}, sharing(numbers(-1, 9), numbers(1)))},
		{heapOf(nil, all), set(0, 0, 50), heapOf(nil, owning(9, 1, 8, 2, 7, 3, 6, 4, 5, 5, 4, 6, 3, 7, 2, 8, 1, 9, 0, 50))},
		{heapOf(nil, all), gone(0, 9), heapOf(nil, owning(8, 2, 7, 3, 6, 4, 5, 5, 4, 6, 3, 7, 2, 8, 1, 9, 0, 0))},
		{heapOf(numbers(1, 2, 3, 4, 5), bare()), set(0, 0, 50), heapOf(numbers(1, 2, 3, 4, 5), owning(0, 50))},
		{heapOf(numbers(1, 2, 3, 4), bare()), set(0, 0, 50), heapOf(numbers(1, 2, 3, 4, 0), sharing(numbers(-1, -1, -1, -1, 50), numbers(4)))},
	} {
		if got := impl.StepHeap(c.h, c.o); !equalHeaps(got, c.want) {
			t.Errorf("StepHeap(%v, %v) = %v", c.h, c.o, got)
		}
	}
}

func TestRunHeapAtLimits(t *testing.T) {
	list := make([]impl.Op, 40)
	if got := impl.RunHeap(list); !equalHeaps(got, heapOf(numbers(0), sharing(numbers(0), numbers(0)))) {
		t.Errorf("RunHeap of 40 changes = %v", got)
	}
	if got := impl.RunHeap(append(list, impl.Op{})); !isZeroHeap(got) {
		t.Errorf("RunHeap of 41 changes = %v", got)
	}
}

func TestOneInstanceOfAHeap(t *testing.T) {
	h := heapOf(numbers(8, 0, 3), sharing(numbers(5, -1, 0), numbers(2, 0)), owning(9, 99, 0, 7), impl.Inst{})
	for _, c := range []struct {
		who   int
		pairs []impl.Pair
		apart impl.Inst
		cells int
	}{
		{0, pairs(3, 0, 8, 5), owning(3, 0, 8, 5), 15},
		{1, pairs(9, 99, 0, 7), owning(9, 99, 0, 7), 14},
		{2, nil, impl.Inst{}, 14},
		{3, nil, impl.Inst{}, 14},
	} {
		if got := impl.PairsOf(h, c.who); !slices.Equal(got, c.pairs) {
			t.Errorf("PairsOf(%v, %d) = %v", h, c.who, got)
		}
		for name := range impl.MaxName + 1 {
			want := -1
			if i := slices.Index(nameList(c.pairs), name); i >= 0 {
				want = c.pairs[i].Value
			}
			if got := impl.ValueIn(h, c.who, name); got != want {
				t.Errorf("ValueIn(%v, %d, %d) = %d", h, c.who, name, got)
			}
		}
		want := cloneHeap(h)
		want.Insts[c.who] = c.apart
		got := impl.ApartHeap(h, c.who)
		if !equalHeaps(got, want) || impl.CellsOf(got) != c.cells {
			t.Errorf("ApartHeap(%v, %d) = %v of %d cells", h, c.who, got, impl.CellsOf(got))
		}
	}
}

func TestCellsOf(t *testing.T) {
	for _, c := range []struct {
		h    impl.Heap
		want int
	}{
		{heapOf(nil), 0},
		{heapOf(nil, impl.Inst{}, impl.Inst{}, impl.Inst{}, impl.Inst{}), 0},
		{heapOf(numbers(1, 2, 3, 4, 5)), 5},
		{heapOf(numbers(1, 2), sharing(numbers(0), numbers(0))), 4},
		{heapOf(numbers(1, 2), sharing(numbers(-1, 0), numbers(1))), 5},
		{heapOf(numbers(1, 2), sharing(numbers(3, 0), numbers(1, 0))), 6},
		{heapOf(numbers(1, 2), owning(7, 0)), 5},
		{heapOf(nil, bare(), owning(7, 0, 8, 0), bare(), owning(9, 1)), 9},
		{heapOf(numbers(1, 2, 3), sharing(numbers(-1, -1, 9), numbers(2)), owning(7, 0, 8, 0), sharing(numbers(1, 1), numbers(0, 1)), owning(9, 1)), 20},
		{impl.Heap{}, -1},
		{impl.Heap{Insts: make([]impl.Inst, 3)}, -1},
		{heapOf(numbers(1, 1)), -1},
		{heapOf(numbers(1), sharing(numbers(-1), nil)), -1},
	} {
		if got := impl.CellsOf(c.h); got != c.want {
			t.Errorf("CellsOf(%v) = %d", c.h, got)
		}
	}
}

func TestSamePairs(t *testing.T) {
	var many, turned []impl.Pair
	for i := range 41 {
		many = append(many, impl.Pair{Name: i, Value: -i})
		turned = append([]impl.Pair{{Name: i, Value: -i}}, turned...)
	}
	for _, c := range []struct {
		a, b []impl.Pair
		want bool
	}{
		{nil, nil, true},
		{nil, []impl.Pair{}, true},
		{pairs(0, 0), nil, false},
		{nil, pairs(0, 0), false},
		{pairs(1, 2), pairs(1, 2), true},
		{pairs(1, 2), pairs(1, 3), false},
		{pairs(1, 2), pairs(2, 1), false},
		{pairs(1, 2), pairs(2, 2), false},
		{pairs(1, 2, 3, 4), pairs(3, 4, 1, 2), true},
		{pairs(1, 2, 3, 4), pairs(1, 4, 3, 2), false},
		{pairs(1, 2, 3, 4), pairs(1, 2), false},
		{pairs(1, 2), pairs(1, 2, 3, 4), false},
		{pairs(1, 2, 3, 4), pairs(1, 2, 5, 4), false},
		{pairs(1, 2, 3, 4, 5, 6), pairs(5, 6, 1, 2, 3, 4), true},
		{pairs(-7, 1<<40, 1<<50, -8), pairs(1<<50, -8, -7, 1<<40), true},
		{pairs(1, 2, 1, 2), pairs(1, 2, 1, 2), false},
		{pairs(1, 2, 1, 2), pairs(1, 2, 3, 4), false},
		{pairs(1, 2, 3, 4), pairs(1, 2, 1, 2), false},
		{pairs(1, 2, 1, 3), pairs(1, 3, 1, 2), false},
		{pairs(1, 2, 1, 2), pairs(1, 2), false},
		{many[:40], turned[1:], true},
		{many[:40], many[:40], true},
		{many, turned, false},
		{many, many, false},
		{many[:40], many, false},
	} {
		if got := impl.SamePairs(c.a, c.b); got != c.want {
			t.Errorf("SamePairs(%v, %v) = %v", c.a, c.b, got)
		}
	}
}
