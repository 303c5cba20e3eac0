package tests

import (
	"math/rand"
	"slices"
	"testing"

	"loop.example/objectmodel/impl"
)

// set returns the change that sets a name of an instance.
func set(who, name, value int) impl.Op {
	return impl.Op{Who: who, Name: name, Value: value}
}

// gone returns the change that takes a name from an instance.
func gone(who, name int) impl.Op {
	return impl.Op{Who: who, Name: name, Gone: true}
}

// changes returns a list of changes.
func changes(list ...impl.Op) []impl.Op {
	return list
}

// pairs returns pairs by names and values in turn.
func pairs(n ...int) []impl.Pair {
	var list []impl.Pair
	for i := 0; i+1 < len(n); i += 2 {
		list = append(list, impl.Pair{Name: n[i], Value: n[i+1]})
	}
	return list
}

// nameList returns the names of pairs.
func nameList(list []impl.Pair) []int {
	var names []int
	for _, p := range list {
		names = append(names, p.Name)
	}
	return names
}

// sharing returns an instance that shares and has values and an order.
func sharing(values, order []int) impl.Inst {
	return impl.Inst{Shares: true, Values: values, Order: order}
}

// owning returns an instance that does not share, with pairs by names and values in turn.
func owning(n ...int) impl.Inst {
	return impl.Inst{Own: pairs(n...)}
}

// bare returns an instance that shares and has nothing.
func bare() impl.Inst {
	return impl.Inst{Shares: true}
}

// heapOf returns a heap of the instances, and of as many behind them that share and have nothing as it needs.
func heapOf(keys []int, insts ...impl.Inst) impl.Heap {
	for len(insts) < impl.MaxInsts {
		insts = append(insts, bare())
	}
	return impl.Heap{Keys: keys, Insts: insts}
}

// equalInsts reports whether two instances are equal; nil and empty lists are.
func equalInsts(a, b impl.Inst) bool {
	return a.Shares == b.Shares && slices.Equal(a.Order, b.Order) && slices.Equal(a.Values, b.Values) && slices.Equal(a.Own, b.Own)
}

// equalHeaps reports whether two heaps are equal; nil and empty lists are.
func equalHeaps(a, b impl.Heap) bool {
	return slices.Equal(a.Keys, b.Keys) && slices.EqualFunc(a.Insts, b.Insts, equalInsts)
}

// isZeroHeap reports whether a heap is the zero value, of which all lists are nil.
func isZeroHeap(h impl.Heap) bool {
	return h.Keys == nil && h.Insts == nil
}

// cloneHeap returns a heap that shares nothing with the given one.
func cloneHeap(h impl.Heap) impl.Heap {
	out := impl.Heap{Keys: append([]int{}, h.Keys...)}
	for _, inst := range h.Insts {
		out.Insts = append(out.Insts, impl.Inst{
			Shares: inst.Shares,
			Order:  append([]int{}, inst.Order...),
			Values: append([]int{}, inst.Values...),
			Own:    append([]impl.Pair{}, inst.Own...),
		})
	}
	return out
}

// shared returns the instance that shares keys and has pairs, whose names are all among the keys.
func shared(keys []int, list []impl.Pair) impl.Inst {
	inst := bare()
	for place, key := range keys {
		for _, p := range list {
			if p.Name == key {
				for len(inst.Values) < place {
					inst.Values = append(inst.Values, -1)
				}
				inst.Values = append(inst.Values, p.Value)
			}
		}
	}
	for _, p := range list {
		inst.Order = append(inst.Order, slices.Index(keys, p.Name))
	}
	return inst
}

// plainByLooking returns the pairs of an instance after changes by looking each name up among all of them, unlike the program, which goes through them.
// A name is there if its last change sets it, and stands where it was set first since it was taken away last.
func plainByLooking(list []impl.Op, who int) []impl.Pair {
	var out []impl.Pair
	for i, o := range list {
		if o.Who != who || o.Gone {
			continue
		}
		first, last := true, o.Value
		for k := i - 1; k >= 0; k-- {
			if list[k].Who == who && list[k].Name == o.Name {
				first = list[k].Gone
				break
			}
		}
		there := first
		for _, later := range list[i+1:] {
			if later.Who == who && later.Name == o.Name {
				there = there && !later.Gone
				last = later.Value
			}
		}
		if there {
			out = append(out, impl.Pair{Name: o.Name, Value: last})
		}
	}
	return out
}

// pairsAfter returns pairs after a change, by those before the name and behind it.
func pairsAfter(list []impl.Pair, o impl.Op) []impl.Pair {
	i := slices.Index(nameList(list), o.Name)
	one := pairs(o.Name, o.Value)
	switch {
	case i < 0 && o.Gone:
		return slices.Clone(list)
	case i < 0:
		return slices.Concat(list, one)
	case o.Gone:
		return without(list, i)
	}
	return slices.Concat(list[:i], one, list[i+1:])
}

// pairsByReading returns the pairs of an instance of a heap by what its memory says.
func pairsByReading(h impl.Heap, who int) []impl.Pair {
	inst := h.Insts[who]
	out := slices.Clone(inst.Own)
	for _, place := range inst.Order {
		out = append(out, impl.Pair{Name: h.Keys[place], Value: inst.Values[place]})
	}
	return out
}

// stepByRule returns a heap after a change: the keys first, then all pairs of the instance, and then its memory by these.
func stepByRule(h impl.Heap, o impl.Op) impl.Heap {
	out := cloneHeap(h)
	inst := h.Insts[o.Who]
	shares := inst.Shares
	if shares && !o.Gone && !slices.Contains(h.Keys, o.Name) {
		if len(h.Keys) < impl.MaxShared {
			out.Keys = append(out.Keys, o.Name)
		} else {
			shares = false
		}
	}
	after := pairsAfter(pairsByReading(h, o.Who), o)
	if shares {
		out.Insts[o.Who] = shared(out.Keys, after)
	} else {
		out.Insts[o.Who] = impl.Inst{Own: after}
	}
	return out
}

// heapByRule returns the heap after changes, without steps: the keys are the first names that are set at all,
// and an instance shares if all names that were ever set of it are among them.
func heapByRule(list []impl.Op) impl.Heap {
	var keys []int
	for _, o := range list {
		if !o.Gone && !slices.Contains(keys, o.Name) && len(keys) < impl.MaxShared {
			keys = append(keys, o.Name)
		}
	}
	out := impl.Heap{Keys: keys}
	for who := range impl.MaxInsts {
		inst := shared(keys, plainByLooking(list, who))
		for _, o := range list {
			if o.Who == who && !o.Gone && !slices.Contains(keys, o.Name) {
				inst = impl.Inst{Own: plainByLooking(list, who)}
			}
		}
		out.Insts = append(out.Insts, inst)
	}
	return out
}

// randomOp returns a valid change of one of some instances, of one of some names; about one of some takes a name away.
func randomOp(r *rand.Rand, insts, names, one int) impl.Op {
	o := set(r.Intn(insts), r.Intn(names), r.Intn(impl.MaxValue+1))
	o.Gone = r.Intn(one) == 0
	return o
}

// randomChanges returns valid changes: of few or many instances and names, with few or many names that are taken away.
func randomChanges(r *rand.Rand) []impl.Op {
	var list []impl.Op
	insts, names, one := 1+r.Intn(impl.MaxInsts), 1+r.Intn(impl.MaxName+1), 2+r.Intn(5)
	for range r.Intn(impl.MaxOps + 1) {
		list = append(list, randomOp(r, insts, names, one))
	}
	return list
}

// forChanges calls a function for many valid changes: all short lists of a few, those same behind full keys, and longer ones made by a fixed rule.
func forChanges(t *testing.T, visit func([]impl.Op)) {
	t.Helper()
	kinds := changes(set(0, 4, 11), set(0, 4, 12), set(0, 7, 13), set(1, 7, 14), gone(0, 4), gone(0, 7), gone(1, 7))
	shortLists(kinds, nil, 4, visit)
	full := changes(set(0, 0, 1), set(1, 1, 2), set(0, 2, 3), set(0, 7, 0), set(2, 3, 99))
	shortLists(kinds, full, len(full)+3, visit)
	r := source(30)
	for range 3000 {
		visit(randomChanges(r))
	}
}

// arranged returns all orders of some of the names, each with different values.
func arranged(names []int) [][]impl.Pair {
	var out [][]impl.Pair
	for _, list := range choices(names, 0, len(names)) {
		var some []impl.Pair
		for i, name := range list {
			some = append(some, impl.Pair{Name: name, Value: 10*name + i})
		}
		out = append(out, some)
	}
	return out
}

// randomPairs returns pairs of some of the names.
func randomPairs(r *rand.Rand, names []int) []impl.Pair {
	var list []impl.Pair
	for _, i := range r.Perm(len(names))[:r.Intn(len(names)+1)] {
		list = append(list, impl.Pair{Name: names[i], Value: r.Intn(impl.MaxValue + 1)})
	}
	return list
}

// randomHeap returns a valid heap, which need not be one that changes make.
func randomHeap(r *rand.Rand) impl.Heap {
	h := impl.Heap{Keys: r.Perm(impl.MaxName + 1)[:r.Intn(impl.MaxShared+1)]}
	for range impl.MaxInsts {
		if r.Intn(3) == 0 {
			h.Insts = append(h.Insts, impl.Inst{Own: randomPairs(r, countTo(impl.MaxName+1))})
		} else {
			h.Insts = append(h.Insts, shared(h.Keys, randomPairs(r, h.Keys)))
		}
	}
	return h
}

// forHeaps calls a function for many valid heaps: all small ones of one instance, with others beside it, and larger ones made by a fixed rule.
func forHeaps(t *testing.T, visit func(impl.Heap)) {
	t.Helper()
	r := source(31)
	for _, keys := range [][]int{nil, {6}, {6, 0}, {0, 6, 2}, {9, 6, 2, 0}, {2, 9, 0, 6, 5}} {
		for _, list := range arranged(keys) {
			visit(heapOf(keys, shared(keys, list)))
			visit(heapOf(keys, bare(), shared(keys, list), impl.Inst{Own: list}, shared(keys, randomPairs(r, keys))))
		}
		for _, list := range arranged(numbers(6, 2, 8)) {
			visit(heapOf(keys, impl.Inst{Own: list}, shared(keys, randomPairs(r, keys))))
		}
	}
	for range 1500 {
		visit(randomHeap(r))
	}
	for range 500 {
		visit(heapByRule(randomChanges(r)))
	}
}

// forInsts calls a function for each instance of the heaps of forHeaps.
func forInsts(t *testing.T, visit func(h impl.Heap, who int)) {
	t.Helper()
	forHeaps(t, func(h impl.Heap) {
		for who := range impl.MaxInsts {
			visit(h, who)
		}
	})
}

// forSteps calls a function for each of the heaps of forHeaps with all changes of one instance, each with one value.
func forSteps(t *testing.T, visit func(h impl.Heap, o impl.Op)) {
	t.Helper()
	i := 0
	forHeaps(t, func(h impl.Heap) {
		i++
		for name := range impl.MaxName + 1 {
			visit(h, set(i%impl.MaxInsts, name, (i*name)%(impl.MaxValue+1)))
			visit(h, gone(i%impl.MaxInsts, name))
		}
	})
}
