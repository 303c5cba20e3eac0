package tests

import (
	"slices"
	"testing"

	"loop.example/objectmodel/impl"
)

func TestPromise30ChangesCanBeLeftOut(t *testing.T) {
	forChanges(t, func(list []impl.Op) {
		if !impl.ValidOps(list) {
			t.Fatalf("ValidOps(%v)", list)
		}
		for i := range list {
			if fewer := without(list, i); !impl.ValidOps(fewer) {
				t.Fatalf("ValidOps(%v)", fewer)
			}
		}
	})
}

func TestPromise31TheLastChangeCounts(t *testing.T) {
	there, taken := 0, 0
	forChanges(t, func(list []impl.Op) {
		for who := range impl.MaxInsts {
			got := impl.PlainPairs(list, who)
			if want := plainByLooking(list, who); !slices.Equal(got, want) {
				t.Fatalf("PlainPairs(%v, %d) = %v, not %v", list, who, got, want)
			}
			names := nameList(got)
			if len(union([][]int{names})) != len(names) {
				t.Fatalf("PlainPairs(%v, %d) = %v", list, who, got)
			}
			last := map[int]impl.Op{}
			for _, o := range list {
				if o.Who == who {
					last[o.Name] = o
				}
			}
			for name, o := range last {
				if o.Gone {
					taken++
				} else {
					there++
				}
				if o.Gone && slices.Contains(names, name) || !o.Gone && !slices.Contains(got, impl.Pair{Name: name, Value: o.Value}) {
					t.Fatalf("PlainPairs(%v, %d) = %v, and the last change is %v", list, who, got, o)
				}
			}
		}
	})
	if there < 1000 || taken < 1000 {
		t.Fatalf("only %d names are there, and %d are gone", there, taken)
	}
}

func TestPromise32HeapsStayValid(t *testing.T) {
	forInsts(t, func(h impl.Heap, who int) {
		if !impl.ValidHeap(h) {
			t.Fatalf("ValidHeap(%v)", h)
		}
		if got := impl.ApartHeap(h, who); !impl.ValidHeap(got) {
			t.Fatalf("ApartHeap(%v, %d) = %v", h, who, got)
		}
		all := h
		for i := range impl.MaxInsts {
			all = impl.ApartHeap(all, (who+i)%impl.MaxInsts)
		}
		if !impl.ValidHeap(all) || !slices.Equal(all.Keys, h.Keys) {
			t.Fatalf("%v after all are apart: %v", h, all)
		}
	})
}

func TestPromise33SharingIsNotSeen(t *testing.T) {
	forInsts(t, func(h impl.Heap, who int) {
		got := impl.PairsOf(h, who)
		if want := pairsByReading(h, who); !slices.Equal(got, want) {
			t.Fatalf("PairsOf(%v, %d) = %v", h, who, got)
		}
		for other := range impl.MaxInsts {
			if again := impl.PairsOf(impl.ApartHeap(h, other), who); !slices.Equal(again, got) {
				t.Fatalf("PairsOf(%v, %d) = %v, and %v after %d shares no more", h, who, got, again, other)
			}
		}
	})
}

func TestPromise34ChangesAreSeenByOneInstanceAlone(t *testing.T) {
	split, grown, taken := 0, 0, 0
	forSteps(t, func(h impl.Heap, o impl.Op) {
		got := impl.StepHeap(h, o)
		if want := stepByRule(h, o); !impl.ValidHeap(got) || !equalHeaps(got, want) {
			t.Fatalf("StepHeap(%v, %v) = %v, not %v", h, o, got, want)
		}
		for who := range impl.MaxInsts {
			want := impl.PairsOf(h, who)
			if who == o.Who {
				want = pairsAfter(want, o)
			}
			if after := impl.PairsOf(got, who); !slices.Equal(after, want) {
				t.Fatalf("PairsOf(%v, %d) = %v after %v of %v", got, who, after, o, h)
			}
		}
		switch {
		case got.Insts[o.Who].Shares != h.Insts[o.Who].Shares:
			split++
		case len(got.Keys) > len(h.Keys):
			grown++
		case len(impl.PairsOf(got, o.Who)) < len(impl.PairsOf(h, o.Who)):
			taken++
		}
	})
	if split < 500 || grown < 500 || taken < 500 {
		t.Fatalf("only %d heaps with an instance that shares no more, %d with a new key, %d with a name less", split, grown, taken)
	}
}

func TestPromise35SharedMemoryIsAsPlainMemory(t *testing.T) {
	split := 0
	forChanges(t, func(list []impl.Op) {
		h := impl.RunHeap(list)
		if want := heapByRule(list); !equalHeaps(h, want) {
			t.Fatalf("RunHeap(%v) = %v, not %v", list, h, want)
		}
		for who := range impl.MaxInsts {
			if !h.Insts[who].Shares {
				split++
			}
			got, want := impl.PairsOf(h, who), impl.PlainPairs(list, who)
			if !slices.Equal(got, want) {
				t.Fatalf("PairsOf(%v, %d) = %v, not %v, after %v", h, who, got, want, list)
			}
		}
	})
	if split < 500 {
		t.Fatalf("only %d instances that share no more", split)
	}
}

func TestPromise36HeapsAreMadeStepByStep(t *testing.T) {
	forChanges(t, func(list []impl.Op) {
		h := impl.RunHeap(nil)
		for i, o := range list {
			h = impl.StepHeap(h, o)
			if got := impl.RunHeap(list[:i+1]); !equalHeaps(got, h) {
				t.Fatalf("RunHeap(%v) = %v, not %v", list[:i+1], got, h)
			}
		}
		if got := impl.RunHeap(list); !equalHeaps(got, h) {
			t.Fatalf("RunHeap(%v) = %v, not %v", list, got, h)
		}
	})
}

func TestPromise37InstancesWithEqualNamesInOrderShare(t *testing.T) {
	few, many := 0, 0
	forChanges(t, func(list []impl.Op) {
		var names []int
		for _, o := range list {
			if !o.Gone {
				names = append(names, o.Name)
			}
		}
		h := impl.RunHeap(list)
		share := true
		for _, inst := range h.Insts {
			share = share && inst.Shares
		}
		if len(union([][]int{names})) > impl.MaxShared {
			many++
		} else {
			few++
		}
		if share != (len(union([][]int{names})) <= impl.MaxShared) {
			t.Fatalf("RunHeap(%v) = %v", list, h)
		}
	})
	if few < 1000 || many < 1000 {
		t.Fatalf("only %d changes of few names, and %d of many", few, many)
	}
}

func TestPromise38ValuesAreThoseOfPairs(t *testing.T) {
	forInsts(t, func(h impl.Heap, who int) {
		list := impl.PairsOf(h, who)
		for name := range impl.MaxName + 1 {
			want := -1
			for _, p := range list {
				if p.Name == name {
					want = p.Value
				}
			}
			if got := impl.ValueIn(h, who, name); got != want {
				t.Fatalf("ValueIn(%v, %d, %d) = %d, of %v", h, who, name, got, list)
			}
		}
	})
	forSteps(t, func(h impl.Heap, o impl.Op) {
		want := o.Value
		if o.Gone {
			want = -1
		}
		if got := impl.ValueIn(impl.StepHeap(h, o), o.Who, o.Name); got != want {
			t.Fatalf("ValueIn after %v of %v = %d", o, h, got)
		}
	})
}

func TestPromise39SharingIsSmall(t *testing.T) {
	forInsts(t, func(h impl.Heap, who int) {
		inst := h.Insts[who]
		needs := 3 * len(inst.Own)
		if inst.Shares {
			needs = len(inst.Values) + len(inst.Order)
		}
		before, after := impl.CellsOf(h), impl.CellsOf(impl.ApartHeap(h, who))
		if after-before != 3*len(impl.PairsOf(h, who))-needs {
			t.Fatalf("CellsOf(%v) = %d, and %d after %d shares no more", h, before, after, who)
		}
	})
	forHeaps(t, func(h impl.Heap) {
		want := len(h.Keys)
		all := h
		for who := range impl.MaxInsts {
			want += 3 * len(impl.PairsOf(h, who))
			all = impl.ApartHeap(all, who)
		}
		if got := impl.CellsOf(all); got != want {
			t.Fatalf("CellsOf(%v) = %d", all, got)
		}
	})
}

func TestPromise40ApartIsApart(t *testing.T) {
	forInsts(t, func(h impl.Heap, who int) {
		got := impl.ApartHeap(h, who)
		if again := impl.ApartHeap(got, who); !equalHeaps(again, got) {
			t.Fatalf("ApartHeap(%v, %d) = %v", got, who, again)
		}
		want := cloneHeap(h)
		want.Insts[who] = impl.Inst{Own: pairsByReading(h, who)}
		if !equalHeaps(got, want) {
			t.Fatalf("ApartHeap(%v, %d) = %v", h, who, got)
		}
	})
}

func TestPromise41PairsAreTheSameInAnyOrder(t *testing.T) {
	r := source(41)
	same, other := 0, 0
	for range 3000 {
		a := randomPairs(r, r.Perm(impl.MaxOps)[:r.Intn(impl.MaxOps+1)])
		b := slices.Clone(a)
		slices.Reverse(b)
		if !impl.SamePairs(a, a) || !impl.SamePairs(a, b) || !impl.SamePairs(b, a) {
			t.Fatalf("SamePairs(%v, %v)", a, b)
		}
		r.Shuffle(len(b), func(i, k int) { b[i], b[k] = b[k], b[i] })
		if len(b) > 0 && r.Intn(2) == 0 {
			b[r.Intn(len(b))].Value = r.Intn(3)
		}
		if r.Intn(4) == 0 {
			b = randomPairs(r, nameList(a))
		}
		want := len(a) == len(b)
		for _, p := range b {
			want = want && slices.Contains(a, p)
		}
		if want {
			same++
		} else {
			other++
		}
		if impl.SamePairs(a, b) != want || impl.SamePairs(b, a) != want {
			t.Fatalf("SamePairs(%v, %v) = %v, and %v the other way round", a, b, impl.SamePairs(a, b), impl.SamePairs(b, a))
		}
	}
	if same < 500 || other < 500 {
		t.Fatalf("only %d lists are the same, and %d are others", same, other)
	}
}
