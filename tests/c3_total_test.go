package tests

import (
	"math/rand"
	"slices"
	"testing"

	"loop.example/objectmodel/impl"
)

// checkNoInst checks that each function that takes an instance of a heap returns what it does for arguments that are not valid.
func checkNoInst(t *testing.T, h impl.Heap, who int) {
	t.Helper()
	if got := impl.PairsOf(h, who); got != nil {
		t.Errorf("PairsOf(%v, %d) = %v", h, who, got)
	}
	for name := range impl.MaxName + 1 {
		if got := impl.ValueIn(h, who, name); got != -1 {
			t.Errorf("ValueIn(%v, %d, %d) = %d", h, who, name, got)
		}
	}
	if got := impl.ApartHeap(h, who); !isZeroHeap(got) {
		t.Errorf("ApartHeap(%v, %d) = %v", h, who, got)
	}
	for _, o := range changes(set(who, 1, 2), gone(who, 1)) {
		if got := impl.StepHeap(h, o); !isZeroHeap(got) {
			t.Errorf("StepHeap(%v, %v) = %v", h, o, got)
		}
	}
}

// checkNoHeap checks that all functions that take a heap refuse it.
func checkNoHeap(t *testing.T, h impl.Heap) {
	t.Helper()
	if impl.ValidHeap(h) || impl.CellsOf(h) != -1 {
		t.Errorf("CellsOf(%v) = %d", h, impl.CellsOf(h))
	}
	for who := range impl.MaxInsts {
		checkNoInst(t, h, who)
	}
}

func TestInstancesThatAreNotThere(t *testing.T) {
	list := changes(set(0, 1, 2), set(3, 4, 5))
	for _, who := range append(odd(), 4) {
		checkNoInst(t, heapOf(numbers(1, 2), sharing(numbers(3), numbers(0)), owning(1, 5)), who)
		checkNoInst(t, heapOf(nil), who)
		if got := impl.PlainPairs(list, who); got != nil {
			t.Errorf("PlainPairs(%v, %d) = %v", list, who, got)
		}
	}
}

func TestChangesThatAreNotValid(t *testing.T) {
	h := heapOf(numbers(1, 2), sharing(numbers(3), numbers(0)), owning(1, 5))
	for _, n := range append(odd(), 100) {
		for _, o := range changes(set(n, 1, 2), set(0, n, 2), set(1, n, 2), impl.Op{Name: 1, Value: 1 << 20}, gone(n, 1), gone(0, n), gone(1, n)) {
			if got := impl.StepHeap(h, o); !isZeroHeap(got) {
				t.Errorf("StepHeap(%v, %v) = %v", h, o, got)
			}
			list := changes(set(0, 1, 2), o)
			if got := impl.RunHeap(list); impl.ValidOps(list) || !isZeroHeap(got) {
				t.Errorf("RunHeap(%v) = %v", list, got)
			}
			if got := impl.PlainPairs(list, 0); got != nil {
				t.Errorf("PlainPairs(%v, 0) = %v", list, got)
			}
		}
	}
	for _, value := range numbers(-1, 100) {
		for _, o := range changes(set(0, 1, value), impl.Op{Name: 1, Value: value, Gone: true}) {
			if got := impl.StepHeap(h, o); !isZeroHeap(got) {
				t.Errorf("StepHeap(%v, %v) = %v", h, o, got)
			}
		}
	}
}

func TestNamesThatAreNotThereHaveNoValue(t *testing.T) {
	h := heapOf(numbers(1, 2), sharing(numbers(-1, 3), numbers(1)), owning(1, 5))
	for _, name := range append(odd(), 10, 0) {
		for who := range impl.MaxInsts {
			if got := impl.ValueIn(h, who, name); got != -1 {
				t.Errorf("ValueIn(%v, %d, %d) = %d", h, who, name, got)
			}
		}
	}
}

func TestHeapsThatAreNotValid(t *testing.T) {
	for _, h := range []impl.Heap{
		{},
		{Keys: numbers(1)},
		{Insts: make([]impl.Inst, 3)},
		{Insts: make([]impl.Inst, 5)},
		heapOf(numbers(1, 1)),
		heapOf(numbers(10)),
		heapOf(numbers(0, 1, 2, 3, 4, 5)),
		heapOf(nil, sharing(numbers(1), numbers(0))),
		heapOf(numbers(1), sharing(numbers(1), nil)),
		heapOf(numbers(1), sharing(numbers(1), numbers(1))),
		heapOf(numbers(1), sharing(numbers(-1), nil)),
		heapOf(numbers(1), bare(), bare(), bare(), sharing(nil, numbers(0))),
		heapOf(nil, owning(1, 2, 1, 2)),
		heapOf(nil, bare(), bare(), bare(), owning(1, 100)),
		heapOf(nil, impl.Inst{Shares: true, Own: pairs(1, 2)}),
		heapOf(numbers(1), impl.Inst{Values: numbers(1), Order: numbers(0)}),
	} {
		checkNoHeap(t, h)
	}
}

// brokenHeap returns a valid heap of which one number, or one place of a list, was made another one.
func brokenHeap(r *rand.Rand) impl.Heap {
	h := cloneHeap(randomHeap(r))
	inst := &h.Insts[r.Intn(impl.MaxInsts)]
	n := append(odd(), countTo(10)...)[r.Intn(16)]
	switch r.Intn(8) {
	case 0:
		h.Keys = append(h.Keys, n)
	case 1:
		inst.Order = append(inst.Order, n)
	case 2:
		inst.Values = append(inst.Values, n)
	case 3:
		inst.Own = append(inst.Own, impl.Pair{Name: n, Value: n})
	case 4:
		inst.Shares = !inst.Shares
	case 5:
		h.Insts = append(h.Insts, *inst)
	case 6:
		for i := range inst.Order {
			inst.Order[i] = n
		}
	case 7:
		for i := range inst.Values {
			inst.Values[i] = n
		}
	}
	return h
}

// isHeapByRule reports whether a heap is valid: each instance is the one that its keys and its pairs make, in all lists.
func isHeapByRule(h impl.Heap) bool {
	if len(h.Keys) > 5 || len(union([][]int{h.Keys})) != len(h.Keys) || len(h.Insts) != 4 {
		return false
	}
	allowed := func(names, values []int) bool {
		for _, n := range slices.Concat(names, values) {
			if n < 0 || n > 99 {
				return false
			}
		}
		return len(names) == 0 || slices.Max(names) <= 9
	}
	for _, inst := range h.Insts {
		for _, place := range inst.Order {
			if place < 0 || place >= len(h.Keys) || place >= len(inst.Values) {
				return false
			}
		}
		list := slices.Clone(inst.Own)
		for _, place := range inst.Order {
			list = append(list, impl.Pair{Name: h.Keys[place], Value: inst.Values[place]})
		}
		var values []int
		for _, p := range list {
			values = append(values, p.Value)
		}
		whole := impl.Inst{Own: list}
		if inst.Shares {
			whole = shared(h.Keys, list)
		}
		names := nameList(list)
		if !equalInsts(inst, whole) || len(union([][]int{names})) != len(names) || !allowed(names, values) {
			return false
		}
	}
	return allowed(h.Keys, nil)
}

func TestAllHeapsAreTotal(t *testing.T) {
	r := source(32)
	valid, broken := 0, 0
	for range 5000 {
		h := brokenHeap(r)
		if impl.ValidHeap(h) != isHeapByRule(h) {
			t.Fatalf("ValidHeap(%v) = %v", h, impl.ValidHeap(h))
		}
		if isHeapByRule(h) {
			valid++
			continue
		}
		broken++
		checkNoHeap(t, h)
	}
	if valid < 100 || broken < 1000 {
		t.Fatalf("only %d valid heaps, and %d others", valid, broken)
	}
}

// wildChanges returns changes of which one may be not valid.
func wildChanges(r *rand.Rand) []impl.Op {
	list := append(randomChanges(r), impl.Op{})
	o := &list[r.Intn(len(list))]
	n := append(odd(), 3, 9, 10, 99, 100)[r.Intn(11)]
	switch r.Intn(3) {
	case 0:
		o.Who = n
	case 1:
		o.Name = n
	case 2:
		o.Value = n
	}
	return list
}

func TestAllChangesAreTotal(t *testing.T) {
	r := source(33)
	for range 5000 {
		list := wildChanges(r)
		want := len(list) <= 40
		for _, o := range list {
			want = want && o.Who >= 0 && o.Who <= 3 && o.Name >= 0 && o.Name <= 9 && o.Value >= 0 && o.Value <= 99
		}
		if impl.ValidOps(list) != want {
			t.Fatalf("ValidOps(%v) = %v", list, !want)
		}
		if h := impl.RunHeap(list); isZeroHeap(h) == want {
			t.Fatalf("RunHeap(%v) = %v", list, h)
		}
		for who := range impl.MaxInsts {
			if got := impl.PlainPairs(list, who); !want && got != nil {
				t.Fatalf("PlainPairs(%v, %d) = %v", list, who, got)
			}
		}
	}
}

func TestLongHeapsAreRefusedAtOnce(t *testing.T) {
	long := countTo(1_000_000)
	var own []impl.Pair
	for _, n := range long {
		own = append(own, impl.Pair{Name: n})
	}
	for _, h := range []impl.Heap{
		heapOf(long),
		heapOf(numbers(1), sharing(long, nil)),
		heapOf(numbers(1), sharing(nil, long)),
		heapOf(numbers(1), sharing(long, long)),
		heapOf(numbers(1), sharing(numbers(1), long)),
		heapOf(numbers(1), impl.Inst{Own: own}),
		{Insts: make([]impl.Inst, 1_000_000)},
	} {
		if impl.ValidHeap(h) || impl.CellsOf(h) != -1 || impl.PairsOf(h, 0) != nil || impl.ValueIn(h, 0, 1) != -1 {
			t.Error("a long heap is valid")
		}
	}
	if impl.SamePairs(own, own) || impl.SamePairs(own, nil) || impl.SamePairs(nil, own) {
		t.Error("long pairs are the same")
	}
	if impl.ValidOps(make([]impl.Op, 1_000_000)) {
		t.Error("many changes are valid")
	}
}

// spareList returns a list with the same things, with room behind it that holds others.
func spareList[T any](list []T, other T) []T {
	return append(slices.Clone(list), other, other, other)[:len(list)]
}

// spareHeap returns a heap with the same numbers, with room behind each of its lists that holds others.
func spareHeap(h impl.Heap) impl.Heap {
	var insts []impl.Inst
	for _, inst := range h.Insts {
		insts = append(insts, impl.Inst{
			Shares: inst.Shares,
			Order:  spareList(inst.Order, 77),
			Values: spareList(inst.Values, 77),
			Own:    spareList(inst.Own, impl.Pair{Name: 77, Value: 77}),
		})
	}
	return impl.Heap{Keys: spareList(h.Keys, 77), Insts: spareList(insts, owning(77, 77))}
}

// isIntactList reports whether a list made by spareList is still the given one, and the room behind it is as it was.
func isIntactList[T comparable](list, want []T, other T) bool {
	return slices.Equal(list[:len(list)+3], append(slices.Clone(want), other, other, other))
}

// isIntactHeap reports whether a heap made by spareHeap is still the given one, and the room behind its lists is as it was.
func isIntactHeap(h, want impl.Heap) bool {
	intact := isIntactList(h.Keys, want.Keys, 77)
	for i, inst := range h.Insts {
		was := want.Insts[i]
		intact = intact && inst.Shares == was.Shares && isIntactList(inst.Order, was.Order, 77) &&
			isIntactList(inst.Values, was.Values, 77) && isIntactList(inst.Own, was.Own, impl.Pair{Name: 77, Value: 77})
	}
	for _, inst := range h.Insts[:len(h.Insts)+3][len(h.Insts):] {
		intact = intact && equalInsts(inst, owning(77, 77))
	}
	return intact
}

// spoilPairs overwrites pairs and the room behind them.
func spoilPairs(list []impl.Pair) {
	list = list[:cap(list)]
	for i := range list {
		list[i] = impl.Pair{Name: -99, Value: -99}
	}
}

// spoilers returns functions each of which overwrites one list of a heap, and the room behind it.
func spoilers(h impl.Heap) []func() {
	out := []func(){func() { spoil(h.Keys) }}
	for _, inst := range h.Insts {
		out = append(out, func() { spoil(inst.Order) }, func() { spoil(inst.Values) }, func() { spoilPairs(inst.Own) })
	}
	return append(out, func() {
		rest := h.Insts[:cap(h.Insts)]
		for i := range rest {
			rest[i] = owning(-99, -99)
		}
	})
}

// listsApart reports whether to overwrite each list of a heap in turn leaves all lists that are not overwritten yet.
func listsApart(h impl.Heap) bool {
	want := cloneHeap(h)
	for i, spoilOne := range spoilers(h) {
		spoilOne()
		switch {
		case i == 0:
			want.Keys = h.Keys
		case i <= 3*impl.MaxInsts:
			who := (i - 1) / 3
			switch (i - 1) % 3 {
			case 0:
				want.Insts[who].Order = h.Insts[who].Order
			case 1:
				want.Insts[who].Values = h.Insts[who].Values
			case 2:
				want.Insts[who].Own = h.Insts[who].Own
			}
		default:
			want.Insts = h.Insts
		}
		if !equalHeaps(h, want) {
			return false
		}
	}
	return true
}

func TestHeapsShareNoMemory(t *testing.T) {
	r := source(34)
	for range 1500 {
		h := randomHeap(r)
		given := spareHeap(h)
		who := r.Intn(impl.MaxInsts)
		o := randomOp(r, impl.MaxInsts, impl.MaxName+1, 3)
		spoilPairs(impl.PairsOf(given, who))
		impl.ValidHeap(given)
		impl.CellsOf(given)
		impl.ValueIn(given, who, o.Name)
		for _, got := range []impl.Heap{impl.StepHeap(given, o), impl.ApartHeap(given, who)} {
			if !listsApart(got) {
				t.Fatalf("lists of a heap made of %v share memory", h)
			}
		}
		if !isIntactHeap(given, h) {
			t.Fatalf("%v was changed: %v", h, given)
		}
	}
}

func TestChangesShareNoMemory(t *testing.T) {
	r := source(35)
	other := set(77, 77, 77)
	for range 1500 {
		list := randomChanges(r)
		given := spareList(list, other)
		impl.ValidOps(given)
		for who := range impl.MaxInsts {
			spoilPairs(impl.PlainPairs(given, who))
		}
		if !listsApart(impl.RunHeap(given)) {
			t.Fatalf("lists of a heap made by %v share memory", list)
		}
		if !isIntactList(given, list, other) {
			t.Fatalf("%v was changed: %v", list, given)
		}
	}
	a, b := spareList(pairs(1, 2, 3, 4), impl.Pair{Name: 77}), spareList(pairs(3, 4, 1, 2), impl.Pair{Name: 77})
	if !impl.SamePairs(a, b) || !isIntactList(a, pairs(1, 2, 3, 4), impl.Pair{Name: 77}) || !isIntactList(b, pairs(3, 4, 1, 2), impl.Pair{Name: 77}) {
		t.Fatalf("pairs were changed: %v, %v", a, b)
	}
}
