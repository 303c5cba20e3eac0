package tests

import (
	"math/rand"
	"slices"
	"testing"

	"loop.example/objectmodel/impl"
)

// checkNoClass checks that each function that takes a class of a world returns what it does for arguments that are not valid.
func checkNoClass(t *testing.T, w impl.World, c, name int) {
	t.Helper()
	if owner, a := impl.FindIn(w, c, name); owner != -1 || a != (impl.Attr{}) {
		t.Errorf("FindIn(%v, %d, %d) = %d, %v", w, c, name, owner, a)
	}
	if got := impl.GetClassAttr(w, c, name); got != nothing() {
		t.Errorf("GetClassAttr(%v, %d, %d) = %v", w, c, name, got)
	}
	if got := impl.OwnersOf(w, c, name); got != nil {
		t.Errorf("OwnersOf(%v, %d, %d) = %v", w, c, name, got)
	}
	afterwards(impl.SetClassAttr(w, c, attr(name, 0, 0))).check(t, "SetClassAttr", w, false)
	afterwards(impl.DelClassAttr(w, c, name)).check(t, "DelClassAttr", w, false)
}

// checkNoObject checks that each function that takes an object of a world returns what it does for arguments that are not valid.
func checkNoObject(t *testing.T, w impl.World, x, name int) {
	t.Helper()
	if got := impl.GetAttr(w, x, name); got != nothing() {
		t.Errorf("GetAttr(%v, %d, %d) = %v", w, x, name, got)
	}
	if got := impl.NamesOf(w, x); got != nil {
		t.Errorf("NamesOf(%v, %d) = %v", w, x, got)
	}
	afterwards(impl.SetAttr(w, x, name, 0)).check(t, "SetAttr", w, false)
	afterwards(impl.DelAttr(w, x, name)).check(t, "DelAttr", w, false)
}

// checkNoWorld checks that all functions that take a world refuse it.
func checkNoWorld(t *testing.T, w impl.World) {
	t.Helper()
	for i := range 4 {
		for _, name := range numbers(1, 2, 5) {
			checkNoClass(t, w, i, name)
			checkNoObject(t, w, i, name)
		}
	}
}

func TestClassesAndObjectsThatAreNotThere(t *testing.T) {
	for _, w := range []impl.World{sixKinds(), fullWorld()} {
		for _, n := range append(odd(), 4) {
			for name := range impl.MaxName + 1 {
				checkNoClass(t, w, n, name)
				checkNoObject(t, w, n, name)
			}
		}
	}
}

func TestFunctionsOfWorldsThatAreNotValid(t *testing.T) {
	for _, w := range brokenWorlds() {
		checkNoWorld(t, w)
	}
}

func TestNamesThatAreNotValid(t *testing.T) {
	w := sixKinds()
	for _, name := range append(odd(), 10) {
		for i := range 3 {
			checkNoClass(t, w, i, name)
			if got := impl.GetAttr(w, i, name); got != nothing() {
				t.Errorf("GetAttr(%d, %d) = %v", i, name, got)
			}
			afterwards(impl.SetAttr(w, i, name, 0)).check(t, "SetAttr", w, false)
			afterwards(impl.DelAttr(w, i, name)).check(t, "DelAttr", w, false)
		}
	}
}

// brokenWorld returns a valid world of which one number, or one place of a list, was made another one.
func brokenWorld(r *rand.Rand) impl.World {
	w := cloneWorld(randomWorld(r))
	c := r.Intn(len(w.Bases))
	n := append(odd(), countTo(10)...)[r.Intn(16)]
	list := &w.Attrs[c]
	*list = append(*list, attr(n, r.Intn(6), r.Intn(100)))
	one := &(*list)[r.Intn(len(*list))]
	w.Objects = append(w.Objects, object(r.Intn(len(w.Bases)), n%10, 1))
	o := &w.Objects[r.Intn(len(w.Objects))]
	switch r.Intn(10) {
	case 0:
		one.Name = n
	case 1:
		one.Kind = n
	case 2:
		one.Value = n
	case 3:
		o.Class = n
	case 4:
		o.Pairs = append(o.Pairs, impl.Pair{Name: n, Value: 1})
	case 5:
		o.Pairs = append(o.Pairs, impl.Pair{Name: r.Intn(10), Value: n})
	case 6:
		w.Attrs = append(w.Attrs, nil)
	case 7:
		w.Attrs = w.Attrs[:len(w.Attrs)-1]
	case 8:
		w.Bases[c] = append(w.Bases[c], n)
	}
	return w
}

// isWorldByRule reports whether a world is valid, by counting what it has and what is allowed.
func isWorldByRule(w impl.World) bool {
	if !impl.AllOrders(w.Bases) || len(w.Attrs) != len(w.Bases) || len(w.Objects) > 6 {
		return false
	}
	fits := func(name, value int) bool { return name >= 0 && name <= 9 && value >= 0 && value <= 99 }
	for _, list := range w.Attrs {
		names := map[int]bool{}
		for _, a := range list {
			names[a.Name] = true
			if !fits(a.Name, a.Value) || !slices.Contains(kinds(), a.Kind) {
				return false
			}
		}
		if len(list) > 8 || len(names) != len(list) {
			return false
		}
	}
	for _, o := range w.Objects {
		names := map[int]bool{}
		for _, p := range o.Pairs {
			names[p.Name] = true
			if !fits(p.Name, p.Value) {
				return false
			}
		}
		if len(o.Pairs) > 8 || len(names) != len(o.Pairs) || o.Class < 0 || o.Class >= len(w.Bases) {
			return false
		}
	}
	return true
}

func TestAllWorldsAreTotal(t *testing.T) {
	r := source(42)
	n := tally{}
	for range 3000 {
		w := brokenWorld(r)
		if impl.ValidWorld(w) != isWorldByRule(w) {
			t.Fatalf("ValidWorld(%v) = %v", w, impl.ValidWorld(w))
		}
		if isWorldByRule(w) {
			n["valid"]++
			continue
		}
		n["broken"]++
		checkNoWorld(t, w)
	}
	n.need(t, 300, "valid", "broken")
}

// TestLongWorldsAreRefusedAtOnce has lists that would take hours if each name was compared with all others.
func TestLongWorldsAreRefusedAtOnce(t *testing.T) {
	manyAttrs, manyPairs := make([]impl.Attr, 1_000_000), make([]impl.Pair, 1_000_000)
	for i := range manyAttrs {
		manyAttrs[i].Name, manyPairs[i].Name = i, i
	}
	for _, w := range []impl.World{
		{Bases: line(2), Attrs: [][]impl.Attr{nil, manyAttrs}, Objects: []impl.Object{object(1)}},
		{Bases: line(2), Attrs: make([][]impl.Attr, 1_000_000)},
		{Bases: make([][]int, 1_000_000), Attrs: make([][]impl.Attr, 1_000_000)},
		worldOf(line(2), impl.Object{Class: 1, Pairs: manyPairs}),
		worldOf(line(2), make([]impl.Object, 1_000_000)...),
	} {
		owner, _ := impl.FindIn(w, 1, 1)
		_, ok := impl.SetAttr(w, 0, 1, 1)
		if impl.ValidWorld(w) || owner != -1 || ok || impl.GetAttr(w, 0, 1) != nothing() || impl.NamesOf(w, 0) != nil {
			t.Error("a long world is valid")
		}
	}
}

// part is a list of a value: what overwrites it, and the room behind it, and what tells whether both are as they were.
type part struct {
	spoil    func()
	isIntact func() bool
}

// partOf returns a list as a part, with what it is overwritten by.
func partOf[T any](list []T, other T, same func(a, b T) bool) part {
	full := list[:cap(list)]
	was := slices.Clone(full)
	return part{
		spoil: func() {
			for i := range full {
				full[i] = other
			}
		},
		isIntact: func() bool { return slices.EqualFunc(full, was, same) },
	}
}

// equal reports whether two values are equal.
func equal[T comparable](a, b T) bool {
	return a == b
}

// startsAt reports whether two lists are the same memory, whatever it holds.
func startsAt[T any](a, b []T) bool {
	return len(a) == len(b) && (len(a) == 0 || &a[0] == &b[0])
}

// worldParts returns all lists of a world, those that hold others last.
func worldParts(w impl.World) []part {
	var parts []part
	for _, list := range w.Bases {
		parts = append(parts, partOf(list, -99, equal))
	}
	for _, list := range w.Attrs {
		parts = append(parts, partOf(list, attr(-99, -99, -99), equal))
	}
	for _, o := range w.Objects {
		parts = append(parts, partOf(o.Pairs, impl.Pair{Name: -99, Value: -99}, equal))
	}
	sameObject := func(a, b impl.Object) bool { return a.Class == b.Class && startsAt(a.Pairs, b.Pairs) }
	return append(parts,
		partOf(w.Bases, numbers(-99), startsAt),
		partOf(w.Attrs, attrs(attr(-99, -99, -99)), startsAt),
		partOf(w.Objects, object(-99, -99, -99), sameObject))
}

// areIntact reports whether all parts are as they were.
func areIntact(parts []part) bool {
	for _, p := range parts {
		if !p.isIntact() {
			return false
		}
	}
	return true
}

// spoilAll overwrites all parts in turn, and reports whether each time those that were not overwritten yet stayed as they were.
func spoilAll(parts []part) bool {
	for i, p := range parts {
		p.spoil()
		if !areIntact(parts[i+1:]) {
			return false
		}
	}
	return true
}

// spareWorld returns a world with the same numbers, with room behind each of its lists that holds others.
func spareWorld(w impl.World) impl.World {
	out := impl.World{Bases: spare(w.Bases)}
	for _, list := range w.Attrs {
		out.Attrs = append(out.Attrs, spareList(list, attr(77, 77, 77)))
	}
	for _, o := range w.Objects {
		out.Objects = append(out.Objects, impl.Object{Class: o.Class, Pairs: spareList(o.Pairs, impl.Pair{Name: 77, Value: 77})})
	}
	out.Attrs = spareList(out.Attrs, attrs(attr(77, 77, 77)))
	out.Objects = spareList(out.Objects, object(77, 77, 77))
	return out
}

// changesOf returns all worlds that are made from a world by changes of an object and of a class, as far as they are possible.
func changesOf(w impl.World, x, c, name int) []impl.World {
	var out []impl.World
	for _, next := range []changed{
		afterwards(impl.SetAttr(w, x, name, 1)), afterwards(impl.DelAttr(w, x, name)),
		afterwards(impl.SetClassAttr(w, c, attr(name, impl.AtData, 1))), afterwards(impl.DelClassAttr(w, c, name)),
	} {
		if next.ok {
			out = append(out, next.w)
		}
	}
	return out
}

func TestWorldsShareNoMemory(t *testing.T) {
	r := source(43)
	n := tally{}
	for range 1500 {
		w := randomWorld(r)
		given := spareWorld(w)
		parts := worldParts(given)
		x, c, name := r.Intn(impl.MaxObjects), r.Intn(len(w.Bases)), r.Intn(impl.MaxName+1)
		impl.ValidWorld(given)
		impl.FindIn(given, c, name)
		impl.GetAttr(given, x, name)
		impl.GetClassAttr(given, c, name)
		spoil(impl.NamesOf(given, x))
		spoil(impl.OwnersOf(given, c, name))
		for _, next := range changesOf(given, x, c, name) {
			n["changes"]++
			if !spoilAll(worldParts(next)) {
				t.Fatalf("lists of a world made of %v share memory", w)
			}
		}
		if !areIntact(parts) || !equalWorlds(given, w) {
			t.Fatalf("%v was changed: %v", w, given)
		}
	}
	n.need(t, 1500, "changes")
}

// TestWorldsWithSharedListsShareNoMemory has a world whose lists are the same memory, which its results are not.
func TestWorldsWithSharedListsShareNoMemory(t *testing.T) {
	bases, list, own := numbers(0), attrs(attr(5, impl.AtMethod, 1), attr(6, impl.AtData, 2)), pairs(5, 6, 7, 8)
	w := impl.World{
		Bases:   [][]int{nil, bases, bases},
		Attrs:   [][]impl.Attr{list, list, list},
		Objects: []impl.Object{{Class: 1, Pairs: own}, {Class: 2, Pairs: own}},
	}
	for _, name := range numbers(5, 6, 7, 8) {
		for x, c := range numbers(1, 2) {
			for _, next := range changesOf(w, x, c, name) {
				if !spoilAll(worldParts(next)) {
					t.Fatalf("lists of a world made of %v share memory", w)
				}
			}
		}
	}
	if !slices.Equal(bases, numbers(0)) || !slices.Equal(list, attrs(attr(5, impl.AtMethod, 1), attr(6, impl.AtData, 2))) || !slices.Equal(own, pairs(5, 6, 7, 8)) {
		t.Fatalf("the lists of a world were changed: %v", w)
	}
}

// TestWorldsOfSharedListsChangeOnce has a descriptor of two classes whose lists are the same memory: it is set in one of them.
func TestWorldsOfSharedListsChangeOnce(t *testing.T) {
	list := attrs(attr(6, impl.AtData, 2))
	w := impl.World{Bases: [][]int{nil, {0}, {0}}, Attrs: [][]impl.Attr{nil, list, list}, Objects: []impl.Object{object(1), object(2)}}
	next, ok := impl.SetAttr(w, 0, 6, 9)
	if !ok || impl.GetAttr(next, 0, 6) != found(impl.FoData, 1, 9, 0) || impl.GetAttr(next, 1, 6) != found(impl.FoData, 2, 2, 1) {
		t.Fatalf("SetAttr = %v, %v", next, ok)
	}
}
