package tests

import (
	"math/rand"
	"slices"
	"testing"

	"loop.example/objectmodel/impl"
)

// attr is short for an attribute, so that expected ones are short to write.
func attr(name, kind, value int) impl.Attr {
	return impl.Attr{Name: name, Kind: kind, Value: value}
}

// attrs returns a list of attributes.
func attrs(list ...impl.Attr) []impl.Attr {
	return list
}

// object returns an object of a class, with pairs by names and values in turn.
func object(class int, n ...int) impl.Object {
	return impl.Object{Class: class, Pairs: pairs(n...)}
}

// found is short for what is found.
func found(how, owner, value, self int) impl.Found {
	return impl.Found{How: how, Owner: owner, Value: value, Self: self}
}

// nothing returns what is found where there is no attribute.
func nothing() impl.Found {
	return found(impl.FoNone, -1, -1, -1)
}

// kinds returns all kinds of attributes.
func kinds() []int {
	return numbers(impl.AtPlain, impl.AtMethod, impl.AtData, impl.AtFixed, impl.AtOfClass, impl.AtStatic)
}

// isFirst reports whether attributes of a kind come before the pairs of an object.
func isFirst(kind int) bool {
	return kind == impl.AtData || kind == impl.AtFixed
}

// worldOf returns a world of bases, without attributes, and of objects.
func worldOf(bases [][]int, objects ...impl.Object) impl.World {
	return impl.World{Bases: bases, Attrs: make([][]impl.Attr, len(bases)), Objects: objects}
}

// equalWorlds reports whether two worlds are equal; nil and empty lists are.
func equalWorlds(a, b impl.World) bool {
	sameAttrs := func(x, y []impl.Attr) bool { return slices.Equal(x, y) }
	sameObject := func(x, y impl.Object) bool { return x.Class == y.Class && slices.Equal(x.Pairs, y.Pairs) }
	return equalLists(a.Bases, b.Bases) && slices.EqualFunc(a.Attrs, b.Attrs, sameAttrs) && slices.EqualFunc(a.Objects, b.Objects, sameObject)
}

// isZeroWorld reports whether a world is the zero value, of which all lists are nil.
func isZeroWorld(w impl.World) bool {
	return w.Bases == nil && w.Attrs == nil && w.Objects == nil
}

// cloneWorld returns a world that shares nothing with the given one.
func cloneWorld(w impl.World) impl.World {
	out := impl.World{Bases: cloneLists(w.Bases)}
	for _, list := range w.Attrs {
		out.Attrs = append(out.Attrs, append([]impl.Attr{}, list...))
	}
	for _, o := range w.Objects {
		out.Objects = append(out.Objects, impl.Object{Class: o.Class, Pairs: append([]impl.Pair{}, o.Pairs...)})
	}
	return out
}

// withAttrs returns a world in which a class has other attributes of its own.
func withAttrs(w impl.World, c int, list []impl.Attr) impl.World {
	out := cloneWorld(w)
	out.Attrs[c] = list
	return out
}

// withPairs returns a world in which an object has other pairs.
func withPairs(w impl.World, x int, list []impl.Pair) impl.World {
	out := cloneWorld(w)
	out.Objects[x].Pairs = list
	return out
}

// ownAt returns the place of the attribute of a class itself with a name, -1 if there is none.
func ownAt(w impl.World, c, name int) int {
	return slices.IndexFunc(w.Attrs[c], func(a impl.Attr) bool { return a.Name == name })
}

// pairAt returns the place of the pair of an object with a name, -1 if there is none.
func pairAt(w impl.World, x, name int) int {
	return slices.Index(nameList(w.Objects[x].Pairs), name)
}

// orderIn returns the order of a class of a valid world.
func orderIn(w impl.World, c int) []int {
	order, _ := impl.OrderOf(w.Bases, c)
	return order
}

// findByRule returns the class in which an attribute is found, and the attribute: from the end of the order, the last one that is met.
func findByRule(w impl.World, c, name int) (int, impl.Attr) {
	owner, a := -1, impl.Attr{}
	for _, o := range slices.Backward(orderIn(w, c)) {
		if i := ownAt(w, o, name); i >= 0 {
			owner, a = o, w.Attrs[o][i]
		}
	}
	return owner, a
}

// getByRule returns what an attribute of an object is, by a table of all kinds.
func getByRule(w impl.World, x, name int) impl.Found {
	class := w.Objects[x].Class
	owner, a := findByRule(w, class, name)
	i := pairAt(w, x, name)
	if i >= 0 && (owner < 0 || !isFirst(a.Kind)) {
		return found(impl.FoOwn, -1, w.Objects[x].Pairs[i].Value, x)
	}
	if owner < 0 {
		return nothing()
	}
	return map[int]impl.Found{
		impl.AtPlain:   found(impl.FoClass, owner, a.Value, -1),
		impl.AtMethod:  found(impl.FoBound, owner, a.Value, x),
		impl.AtData:    found(impl.FoData, owner, a.Value, x),
		impl.AtFixed:   found(impl.FoData, owner, a.Value, x),
		impl.AtOfClass: found(impl.FoBound, owner, a.Value, class),
		impl.AtStatic:  found(impl.FoClass, owner, a.Value, -1),
	}[a.Kind]
}

// setByRule returns a world after an attribute of an object was set, and whether it can be.
func setByRule(w impl.World, x, name, value int) (impl.World, bool) {
	owner, a := findByRule(w, w.Objects[x].Class, name)
	switch {
	case owner >= 0 && a.Kind == impl.AtFixed:
		return impl.World{}, false
	case owner >= 0 && a.Kind == impl.AtData:
		out := cloneWorld(w)
		out.Attrs[owner][ownAt(w, owner, name)].Value = value
		return out, true
	}
	after := pairsAfter(w.Objects[x].Pairs, set(0, name, value))
	if len(after) > impl.MaxAttrs {
		return impl.World{}, false
	}
	return withPairs(w, x, after), true
}

// delByRule returns a world after an attribute of an object was taken away, and whether it can be.
func delByRule(w impl.World, x, name int) (impl.World, bool) {
	_, a := findByRule(w, w.Objects[x].Class, name)
	i := pairAt(w, x, name)
	if isFirst(a.Kind) || i < 0 {
		return impl.World{}, false
	}
	return withPairs(w, x, without(w.Objects[x].Pairs, i)), true
}

// giveByRule returns a world after a class got a valid attribute, and whether it can get it.
func giveByRule(w impl.World, c int, a impl.Attr) (impl.World, bool) {
	i := ownAt(w, c, a.Name)
	if i < 0 {
		return withAttrs(w, c, slices.Concat(w.Attrs[c], attrs(a))), len(w.Attrs[c]) < impl.MaxAttrs
	}
	out := cloneWorld(w)
	out.Attrs[c][i] = a
	return out, true
}

// giveIn returns a world after a class got an attribute, which it must be able to get.
func giveIn(t *testing.T, w impl.World, c int, a impl.Attr) impl.World {
	t.Helper()
	next, ok := impl.SetClassAttr(w, c, a)
	if !ok || !impl.ValidWorld(next) {
		t.Fatalf("SetClassAttr(%v, %d, %v) = %v, %v", w, c, a, next, ok)
	}
	return next
}

// takeFrom returns a world after an attribute of a class was taken away, which it must have.
func takeFrom(t *testing.T, w impl.World, c, name int) impl.World {
	t.Helper()
	next, ok := impl.DelClassAttr(w, c, name)
	if !ok || !impl.ValidWorld(next) {
		t.Fatalf("DelClassAttr(%v, %d, %d) = %v, %v", w, c, name, next, ok)
	}
	return next
}

// patternWorlds calls a function for all worlds of bases in which each class has no attribute, or one of any kind, of the same name,
// and which have for each class an object without pairs and one with a pair of this name, as far as there may be as many.
func patternWorlds(bases [][]int, name int, visit func(impl.World)) {
	var objects []impl.Object
	for c := range min(len(bases), impl.MaxObjects/2) {
		last := len(bases) - 1 - c
		objects = append(objects, object(last), object(last, 1, 60, name, 70+last))
	}
	patternsFrom(worldOf(bases, objects...), 0, name, visit)
}

// patternsFrom calls a function for all worlds of patternWorlds that have the attributes of classes before c from the given one.
func patternsFrom(w impl.World, c, name int, visit func(impl.World)) {
	if c == len(w.Bases) {
		visit(w)
		return
	}
	patternsFrom(w, c+1, name, visit)
	for _, kind := range kinds() {
		patternsFrom(withAttrs(w, c, attrs(attr(name, kind, 10+c))), c+1, name, visit)
	}
}

// randomAttrs returns valid attributes of a class, of at most some names.
func randomAttrs(r *rand.Rand, names int) []impl.Attr {
	var list []impl.Attr
	for _, name := range r.Perm(names)[:r.Intn(min(names, impl.MaxAttrs)+1)] {
		list = append(list, attr(name, r.Intn(len(kinds())), r.Intn(impl.MaxValue+1)))
	}
	return list
}

// randomWorld returns a valid world: of few or many classes and names, with few or many attributes.
func randomWorld(r *rand.Rand) impl.World {
	w := worldOf(randomOrdered(r, impl.MaxClasses))
	names, one := 1+r.Intn(impl.MaxName+1), 1+r.Intn(3)
	for c := range w.Bases {
		if r.Intn(one) == 0 {
			w.Attrs[c] = randomAttrs(r, names)
		}
	}
	for range r.Intn(impl.MaxObjects + 1) {
		some := r.Perm(names)[:min(names, impl.MaxAttrs)]
		w.Objects = append(w.Objects, impl.Object{Class: r.Intn(len(w.Bases)), Pairs: randomPairs(r, some)})
	}
	return w
}

// fullWorld returns a valid world of a diamond in which the last class, and an object of it, have as much as they may have.
func fullWorld() impl.World {
	w := worldOf(diamond(), object(3, 9, 1, 8, 2, 7, 3, 6, 4, 5, 5, 4, 6, 3, 7, 2, 8), object(3), object(1, 0, 1))
	for i, kind := range append(kinds(), impl.AtData, impl.AtMethod) {
		w.Attrs[3] = append(w.Attrs[3], attr(i, kind, 20+i))
	}
	w.Attrs[1] = attrs(attr(9, impl.AtOfClass, 40), attr(8, impl.AtData, 41))
	return w
}

// forWorlds calls a function for many valid worlds, each with names that matter in it: all patterns of one name of small bases,
// and larger ones made by a fixed rule.
func forWorlds(t *testing.T, visit func(w impl.World, names []int)) {
	t.Helper()
	r := source(40)
	allBases([][]int{{}}, 4, func(bases [][]int) {
		if !impl.AllOrders(bases) {
			return
		}
		patternWorlds(bases, 5, func(w impl.World) {
			if len(bases) < 4 || r.Intn(200) == 0 {
				visit(w, numbers(5, 4))
			}
		})
	})
	all := countTo(impl.MaxName + 1)
	visit(fullWorld(), all)
	for range 250 {
		visit(randomWorld(r), all)
	}
}

// forFinds calls a function for each class of the worlds of forWorlds, with each name.
func forFinds(t *testing.T, visit func(w impl.World, c, name int)) {
	t.Helper()
	forWorlds(t, func(w impl.World, names []int) {
		for c := range w.Bases {
			for _, name := range names {
				visit(w, c, name)
			}
		}
	})
}

// forGets calls a function for each object of the worlds of forWorlds, with each name.
func forGets(t *testing.T, visit func(w impl.World, x, name int)) {
	t.Helper()
	forWorlds(t, func(w impl.World, names []int) {
		for x := range w.Objects {
			for _, name := range names {
				visit(w, x, name)
			}
		}
	})
}

// forGifts calls a function for each class of the worlds of forWorlds, each with an attribute that it can get.
func forGifts(t *testing.T, visit func(w impl.World, c int, a impl.Attr)) {
	t.Helper()
	i := 0
	forFinds(t, func(w impl.World, c, name int) {
		i++
		if ownAt(w, c, name) >= 0 || len(w.Attrs[c]) < impl.MaxAttrs {
			visit(w, c, attr(name, i%len(kinds()), i%(impl.MaxValue+1)))
		}
	})
}

// forSets calls a function for each object and name of the worlds of forWorlds, each with a value, and the world after it was set, if it can be.
func forSets(t *testing.T, visit func(w impl.World, x, name, value int, next impl.World)) {
	t.Helper()
	i := 0
	forGets(t, func(w impl.World, x, name int) {
		i++
		value := i % (impl.MaxValue + 1)
		if next, ok := impl.SetAttr(w, x, name, value); ok {
			visit(w, x, name, value, next)
		}
	})
}

// tally counts cases, so that a test can tell that it had enough of each.
type tally map[string]int

// need fails if there were fewer than some cases of one of the names.
func (n tally) need(t *testing.T, least int, names ...string) {
	t.Helper()
	for _, name := range names {
		if n[name] < least {
			t.Fatalf("only %d cases of %s: %v", n[name], name, n)
		}
	}
}
