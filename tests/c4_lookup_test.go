package tests

import (
	"slices"
	"testing"

	"loop.example/objectmodel/impl"
)

// sixKinds returns a diamond with an attribute of each kind, named as the kind: those of even kinds in class 1, the others in the root.
// An object of the class 3 has a pair for each of them, one of the class 2 has none, and one of the class 3 has none.
func sixKinds() impl.World {
	w := worldOf(diamond(), object(3, 5, 65, 4, 64, 3, 63, 2, 62, 1, 61, 0, 60), object(2), object(3))
	w.Attrs[0] = attrs(attr(1, impl.AtMethod, 11), attr(3, impl.AtFixed, 13), attr(5, impl.AtStatic, 15))
	w.Attrs[1] = attrs(attr(0, impl.AtPlain, 10), attr(2, impl.AtData, 12), attr(4, impl.AtOfClass, 14))
	return w
}

func TestValidWorlds(t *testing.T) {
	for i, w := range []impl.World{
		worldOf([][]int{{}}),
		worldOf(diamond()),
		worldOf(line(12)),
		worldOf(letters(), object(9), object(0)),
		sixKinds(),
		fullWorld(),
		{Bases: line(2), Attrs: [][]impl.Attr{nil, {}}, Objects: []impl.Object{}},
		{Bases: line(2), Attrs: [][]impl.Attr{attrs(attr(0, 0, 0), attr(9, 5, 99)), attrs(attr(9, 5, 99), attr(0, 0, 0))}},
		worldOf(line(2), object(1, 0, 0), object(1, 0, 0), object(1, 0, 0), object(0, 9, 99), object(0, 9, 99), object(1)),
	} {
		if !impl.ValidWorld(w) {
			t.Errorf("world %d: ValidWorld(%v)", i, w)
		}
	}
}

// brokenWorlds returns worlds that are not valid, each for one reason.
func brokenWorlds() []impl.World {
	ofAttrs := func(c int, list ...impl.Attr) impl.World { return withAttrs(sixKinds(), c, list) }
	ofPairs := func(n ...int) impl.World { return withPairs(sixKinds(), 1, pairs(n...)) }
	short, long := sixKinds(), sixKinds()
	short.Attrs, long.Attrs = short.Attrs[:3], append(long.Attrs, nil)
	many, crowd := fullWorld(), sixKinds()
	many.Attrs[3] = append(many.Attrs[3], attr(8, 0, 0))
	crowd.Objects = append(crowd.Objects, object(0), object(0), object(0), object(0))
	return []impl.World{
		{},
		{Bases: [][]int{{}}},
		{Attrs: make([][]impl.Attr, 1)},
		worldOf(line(13)),
		worldOf([][]int{{}, {}}),
		worldOf([][]int{{}, {1}}),
		worldOf([][]int{{0}}),
		worldOf([][]int{{}, {0, 0}}),
		worldOf(crossed()),
		short,
		long,
		ofAttrs(1, attr(-1, 0, 0)),
		ofAttrs(1, attr(10, 0, 0)),
		ofAttrs(0, attr(1, -1, 0)),
		ofAttrs(3, attr(1, 6, 0)),
		ofAttrs(1, attr(1, 0, -1)),
		ofAttrs(1, attr(1, 0, 100)),
		ofAttrs(2, attr(1, 0, 0), attr(1, 0, 0)),
		ofAttrs(2, attr(1, 0, 0), attr(2, 0, 0), attr(1, 3, 4)),
		ofAttrs(2, attr(1, 0, 0), attr(2, 0, 100)),
		many,
		ofPairs(-1, 0),
		ofPairs(10, 0),
		ofPairs(0, -1),
		ofPairs(0, 100),
		ofPairs(1, 1, 1, 1),
		ofPairs(1, 1, 2, 2, 1, 3),
		ofPairs(1, 1, 2, 100),
		ofPairs(0, 0, 1, 1, 2, 2, 3, 3, 4, 4, 5, 5, 6, 6, 7, 7, 8, 8),
		worldOf(diamond(), object(4)),
		worldOf(diamond(), object(-1)),
		worldOf(diamond(), object(0), object(4)),
		crowd,
	}
}

func TestWorldsThatAreNotValid(t *testing.T) {
	for i, w := range brokenWorlds() {
		if impl.ValidWorld(w) {
			t.Errorf("world %d: ValidWorld(%v)", i, w)
		}
	}
}

func TestFindsOfEachClass(t *testing.T) {
	w := worldOf(diamond())
	w.Attrs[0] = attrs(attr(7, impl.AtPlain, 1), attr(8, impl.AtData, 2))
	w.Attrs[1] = attrs(attr(6, impl.AtMethod, 3))
	w.Attrs[2] = attrs(attr(8, impl.AtFixed, 4), attr(6, impl.AtStatic, 5))
	w.Attrs[3] = attrs(attr(9, impl.AtOfClass, 6))
	for _, c := range []struct {
		class, name, owner int
		want               impl.Attr
		owners             []int
	}{
		{0, 7, 0, attr(7, impl.AtPlain, 1), numbers(0)},
		{1, 7, 0, attr(7, impl.AtPlain, 1), numbers(0)},
		{3, 7, 0, attr(7, impl.AtPlain, 1), numbers(0)},
		{0, 8, 0, attr(8, impl.AtData, 2), numbers(0)},
		{1, 8, 0, attr(8, impl.AtData, 2), numbers(0)},
		{2, 8, 2, attr(8, impl.AtFixed, 4), numbers(2, 0)},
		// A walk down the first base would find it in the root.
		{3, 8, 2, attr(8, impl.AtFixed, 4), numbers(2, 0)},
		{1, 6, 1, attr(6, impl.AtMethod, 3), numbers(1)},
		{2, 6, 2, attr(6, impl.AtStatic, 5), numbers(2)},
		{3, 6, 1, attr(6, impl.AtMethod, 3), numbers(1, 2)},
		{0, 6, -1, impl.Attr{}, nil},
		{3, 9, 3, attr(9, impl.AtOfClass, 6), numbers(3)},
		{2, 9, -1, impl.Attr{}, nil},
		{3, 5, -1, impl.Attr{}, nil},
		{3, 0, -1, impl.Attr{}, nil},
		{3, -1, -1, impl.Attr{}, nil},
		{3, 10, -1, impl.Attr{}, nil},
		{4, 7, -1, impl.Attr{}, nil},
		{-1, 7, -1, impl.Attr{}, nil},
	} {
		owner, a := impl.FindIn(w, c.class, c.name)
		owners := impl.OwnersOf(w, c.class, c.name)
		if owner != c.owner || a != c.want || !slices.Equal(owners, c.owners) {
			t.Errorf("FindIn(%d, %d) = %d, %v, and OwnersOf = %v", c.class, c.name, owner, a, owners)
		}
	}
}

func TestGetsOfEachKind(t *testing.T) {
	w := sixKinds()
	for _, c := range []struct {
		name            int
		own, bare, base impl.Found
	}{
		{impl.AtPlain, found(impl.FoOwn, -1, 60, 0), found(impl.FoClass, 1, 10, -1), nothing()},
		{impl.AtMethod, found(impl.FoOwn, -1, 61, 0), found(impl.FoBound, 0, 11, 2), found(impl.FoBound, 0, 11, 1)},
		{impl.AtData, found(impl.FoData, 1, 12, 0), found(impl.FoData, 1, 12, 2), nothing()},
		{impl.AtFixed, found(impl.FoData, 0, 13, 0), found(impl.FoData, 0, 13, 2), found(impl.FoData, 0, 13, 1)},
		{impl.AtOfClass, found(impl.FoOwn, -1, 64, 0), found(impl.FoBound, 1, 14, 3), nothing()},
		{impl.AtStatic, found(impl.FoOwn, -1, 65, 0), found(impl.FoClass, 0, 15, -1), found(impl.FoClass, 0, 15, -1)},
		{6, nothing(), nothing(), nothing()},
		{-1, nothing(), nothing(), nothing()},
		{10, nothing(), nothing(), nothing()},
	} {
		for x, want := range []impl.Found{c.own, c.base, c.bare, nothing()} {
			if got := impl.GetAttr(w, x, c.name); got != want {
				t.Errorf("GetAttr(%d, %d) = %v, not %v", x, c.name, got, want)
			}
		}
	}
}

func TestGetsOfClasses(t *testing.T) {
	w := sixKinds()
	for _, c := range []struct {
		name        int
		root, first impl.Found
	}{
		{impl.AtPlain, nothing(), found(impl.FoClass, 1, 10, -1)},
		{impl.AtMethod, found(impl.FoClass, 0, 11, -1), found(impl.FoClass, 0, 11, -1)},
		{impl.AtData, nothing(), found(impl.FoClass, 1, 12, -1)},
		{impl.AtFixed, found(impl.FoClass, 0, 13, -1), found(impl.FoClass, 0, 13, -1)},
		{impl.AtStatic, found(impl.FoClass, 0, 15, -1), found(impl.FoClass, 0, 15, -1)},
		{6, nothing(), nothing()},
		{-1, nothing(), nothing()},
		{10, nothing(), nothing()},
	} {
		for class, want := range []impl.Found{c.root, c.first, c.root, c.first, nothing()} {
			if got := impl.GetClassAttr(w, class, c.name); got != want {
				t.Errorf("GetClassAttr(%d, %d) = %v, not %v", class, c.name, got, want)
			}
		}
	}
}

// TestFunctionsOfClasses has that such a function is bound to the class that asks, and not to the one that has it.
func TestFunctionsOfClasses(t *testing.T) {
	w := worldOf(line(4), object(3), object(1), object(2, 4, 50))
	w.Attrs[1] = attrs(attr(4, impl.AtOfClass, 20))
	for class, want := range []impl.Found{nothing(), found(impl.FoBound, 1, 20, 1), found(impl.FoBound, 1, 20, 2), found(impl.FoBound, 1, 20, 3)} {
		if got := impl.GetClassAttr(w, class, 4); got != want {
			t.Errorf("GetClassAttr(%d, 4) = %v", class, got)
		}
	}
	for x, want := range []impl.Found{found(impl.FoBound, 1, 20, 3), found(impl.FoBound, 1, 20, 1), found(impl.FoOwn, -1, 50, 2)} {
		if got := impl.GetAttr(w, x, 4); got != want {
			t.Errorf("GetAttr(%d, 4) = %v", x, got)
		}
	}
}

// TestDescriptorsOfClassesFarAbove has a pair that a descriptor of the root comes before, until a class below the root has the name.
func TestDescriptorsOfClassesFarAbove(t *testing.T) {
	w := worldOf(diamond(), object(3, 5, 50))
	for _, kind := range numbers(impl.AtData, impl.AtFixed) {
		w.Attrs[0] = attrs(attr(5, kind, 10))
		w.Attrs[2] = nil
		if got := impl.GetAttr(w, 0, 5); got != found(impl.FoData, 0, 10, 0) {
			t.Errorf("GetAttr of a descriptor of kind %d = %v", kind, got)
		}
		w.Attrs[2] = attrs(attr(5, impl.AtMethod, 20))
		if got := impl.GetAttr(w, 0, 5); got != found(impl.FoOwn, -1, 50, 0) {
			t.Errorf("GetAttr of a pair before a descriptor of kind %d that is hidden = %v", kind, got)
		}
	}
}

// TestNamesOfNoClass has names that only pairs of objects have.
func TestNamesOfNoClass(t *testing.T) {
	w := worldOf(line(2), object(1, 7, 70), object(1))
	if got := impl.GetAttr(w, 0, 7); got != found(impl.FoOwn, -1, 70, 0) {
		t.Errorf("GetAttr = %v", got)
	}
	if impl.GetAttr(w, 1, 7) != nothing() || impl.GetClassAttr(w, 1, 7) != nothing() || len(impl.OwnersOf(w, 1, 7)) != 0 {
		t.Error("a pair of an object was found in a class")
	}
	set, ok := impl.SetAttr(w, 1, 8, 80)
	if want := worldOf(line(2), object(1, 7, 70), object(1, 8, 80)); !ok || !equalWorlds(set, want) {
		t.Errorf("SetAttr = %v, %v", set, ok)
	}
	del, ok := impl.DelAttr(w, 0, 7)
	if want := worldOf(line(2), object(1), object(1)); !ok || !equalWorlds(del, want) {
		t.Errorf("DelAttr = %v, %v", del, ok)
	}
}

// changed is what a function returns that changes a world: the world if it is possible.
type changed struct {
	w  impl.World
	ok bool
}

// afterwards returns what a function that changes a world returned.
func afterwards(w impl.World, ok bool) changed {
	return changed{w, ok}
}

// check checks what was returned against a world, or against the zero value if it is not possible.
func (c changed) check(t *testing.T, what string, want impl.World, ok bool) {
	t.Helper()
	switch {
	case !ok && (c.ok || !isZeroWorld(c.w)):
		t.Errorf("%s is possible: %v, %v", what, c.w, c.ok)
	case ok && (!c.ok || !equalWorlds(c.w, want)):
		t.Errorf("%s: %v, %v", what, c.w, c.ok)
	}
}

func TestSetsOfEachKind(t *testing.T) {
	w := sixKinds()
	for name := range 7 {
		after := withPairs(w, 2, pairs(name, 77))
		own := withPairs(w, 0, pairsAfter(w.Objects[0].Pairs, set(0, name, 77)))
		if name == impl.AtData {
			after = withAttrs(w, 1, attrs(attr(0, impl.AtPlain, 10), attr(2, impl.AtData, 77), attr(4, impl.AtOfClass, 14)))
			own = after
		}
		afterwards(impl.SetAttr(w, 2, name, 77)).check(t, "set of an object without pairs", after, name != impl.AtFixed)
		afterwards(impl.SetAttr(w, 0, name, 77)).check(t, "set of an object with pairs", own, name != impl.AtFixed)
	}
}

func TestSetsAtLimits(t *testing.T) {
	w := sixKinds()
	for _, c := range []struct {
		x, name, value int
		ok             bool
	}{
		{2, 0, 0, true}, {2, 9, 99, true}, {2, 9, 0, true}, {2, 9, 100, false}, {2, 9, -1, false}, {2, 10, 0, false}, {2, -1, 0, false}, {3, 9, 0, false}, {-1, 9, 0, false},
	} {
		want := cloneWorld(w)
		if c.ok {
			want = withPairs(w, c.x, pairs(c.name, c.value))
		}
		afterwards(impl.SetAttr(w, c.x, c.name, c.value)).check(t, "set at a limit", want, c.ok)
	}
	for _, value := range numbers(-1, 100) {
		afterwards(impl.SetAttr(w, 2, impl.AtData, value)).check(t, "set of a descriptor to a value that is not valid", w, false)
	}
}

func TestSetsOfFullObjects(t *testing.T) {
	w := fullWorld()
	own := w.Objects[0].Pairs
	afterwards(impl.SetAttr(w, 0, 0, 1)).check(t, "set of a pair too many", w, false)
	afterwards(impl.SetAttr(w, 0, 1, 1)).check(t, "set of a pair too many", w, false)
	afterwards(impl.SetAttr(w, 0, 9, 99)).check(t, "set of a pair that is there", withPairs(w, 0, slices.Concat(pairs(9, 99), own[1:])), true)
	afterwards(impl.SetAttr(w, 0, 4, 99)).check(t, "set of a pair that is there", withPairs(w, 0, slices.Concat(own[:5], pairs(4, 99), own[6:])), true)
	data := cloneWorld(w)
	data.Attrs[3][2].Value = 99
	afterwards(impl.SetAttr(w, 0, 2, 99)).check(t, "set of a descriptor", data, true)
	// An object that is full lets one go, and then it has room behind the others.
	fewer, _ := impl.DelAttr(w, 0, 9)
	afterwards(impl.SetAttr(fewer, 0, 0, 1)).check(t, "set of the last pair", withPairs(w, 0, slices.Concat(own[1:], pairs(0, 1))), true)
	afterwards(impl.SetAttr(fewer, 0, 9, 2)).check(t, "set of the last pair", withPairs(w, 0, slices.Concat(own[1:], pairs(9, 2))), true)
}

// TestValuesThatAreShared has a descriptor whose value all objects of the classes below it share.
func TestValuesThatAreShared(t *testing.T) {
	w := worldOf(diamond(), object(3), object(1), object(2), object(3, 5, 50))
	w.Attrs[1] = attrs(attr(5, impl.AtData, 10))
	next, ok := impl.SetAttr(w, 0, 5, 99)
	afterwards(next, ok).check(t, "set of a descriptor", withAttrs(w, 1, attrs(attr(5, impl.AtData, 99))), true)
	for x, want := range []impl.Found{found(impl.FoData, 1, 99, 0), found(impl.FoData, 1, 99, 1), nothing(), found(impl.FoData, 1, 99, 3)} {
		if got := impl.GetAttr(next, x, 5); got != want {
			t.Errorf("GetAttr(%d, 5) = %v", x, got)
		}
	}
}

func TestDelsOfEachKind(t *testing.T) {
	w := sixKinds()
	for name := range 7 {
		i := pairAt(w, 0, name)
		ok := i >= 0 && name != impl.AtData && name != impl.AtFixed
		want := w
		if ok {
			want = withPairs(w, 0, without(w.Objects[0].Pairs, i))
		}
		afterwards(impl.DelAttr(w, 0, name)).check(t, "del of a pair", want, ok)
		for _, x := range numbers(1, 2, 3, -1) {
			afterwards(impl.DelAttr(w, x, name)).check(t, "del of a pair that is not there", w, false)
		}
	}
	for _, name := range odd() {
		afterwards(impl.DelAttr(w, 0, name)).check(t, "del of a name that is not valid", w, false)
	}
}

func TestAttributesThatClassesGet(t *testing.T) {
	w := sixKinds()
	old := w.Attrs[1]
	for _, c := range []struct {
		class int
		a     impl.Attr
		want  []impl.Attr
	}{
		{1, attr(9, impl.AtStatic, 99), slices.Concat(old, attrs(attr(9, impl.AtStatic, 99)))},
		{1, attr(0, impl.AtPlain, 10), old},
		{1, attr(0, impl.AtFixed, 0), slices.Concat(attrs(attr(0, impl.AtFixed, 0)), old[1:])},
		{1, attr(2, impl.AtPlain, 5), attrs(old[0], attr(2, impl.AtPlain, 5), old[2])},
		{1, attr(4, impl.AtData, 5), attrs(old[0], old[1], attr(4, impl.AtData, 5))},
		{1, attr(1, impl.AtMethod, 5), slices.Concat(old, attrs(attr(1, impl.AtMethod, 5)))},
		{3, attr(0, impl.AtPlain, 0), attrs(attr(0, impl.AtPlain, 0))},
		{3, attr(2, impl.AtFixed, 7), attrs(attr(2, impl.AtFixed, 7))},
		{1, attr(10, impl.AtPlain, 5), nil},
		{1, attr(-1, impl.AtPlain, 5), nil},
		{1, attr(2, 6, 5), nil},
		{1, attr(2, -1, 5), nil},
		{1, attr(2, impl.AtPlain, 100), nil},
		{1, attr(9, impl.AtPlain, -1), nil},
		{4, attr(2, impl.AtPlain, 5), nil},
		{-1, attr(2, impl.AtPlain, 5), nil},
	} {
		want := w
		if c.want != nil {
			want = withAttrs(w, c.class, c.want)
		}
		afterwards(impl.SetClassAttr(w, c.class, c.a)).check(t, "a class gets an attribute", want, c.want != nil)
	}
}

func TestAttributesOfFullClasses(t *testing.T) {
	w := fullWorld()
	old := w.Attrs[3]
	for _, name := range numbers(8, 9) {
		afterwards(impl.SetClassAttr(w, 3, attr(name, impl.AtPlain, 1))).check(t, "an attribute too many", w, false)
	}
	afterwards(impl.SetClassAttr(w, 3, attr(7, impl.AtFixed, 1))).check(t, "an attribute that is there", withAttrs(w, 3, slices.Concat(old[:7], attrs(attr(7, impl.AtFixed, 1)))), true)
	fewer, ok := impl.DelClassAttr(w, 3, 0)
	afterwards(fewer, ok).check(t, "an attribute is taken away", withAttrs(w, 3, old[1:]), true)
	afterwards(impl.SetClassAttr(fewer, 3, attr(8, impl.AtPlain, 1))).check(t, "the last attribute", withAttrs(w, 3, slices.Concat(old[1:], attrs(attr(8, impl.AtPlain, 1)))), true)
}

func TestAttributesTakenFromClasses(t *testing.T) {
	w := sixKinds()
	for class := range w.Bases {
		for name := range 11 {
			i := ownAt(w, class, name)
			want := w
			if i >= 0 {
				want = withAttrs(w, class, without(w.Attrs[class], i))
			}
			afterwards(impl.DelClassAttr(w, class, name)).check(t, "an attribute is taken away", want, i >= 0)
		}
	}
	for _, n := range odd() {
		afterwards(impl.DelClassAttr(w, n, 1)).check(t, "an attribute of no class is taken away", w, false)
		afterwards(impl.DelClassAttr(w, 1, n)).check(t, "a name that is not valid is taken away", w, false)
	}
}

func TestNamesOfObjects(t *testing.T) {
	for _, c := range []struct {
		w    impl.World
		want [][]int
	}{
		{sixKinds(), [][]int{countTo(6), {1, 3, 5}, countTo(6), nil}},
		{fullWorld(), [][]int{countTo(10), countTo(10), {0, 8, 9}, nil}},
		{worldOf(line(2), object(1), object(0, 9, 0), object(1, 3, 0, 0, 0)), [][]int{nil, {9}, {0, 3}, nil}},
		{impl.World{}, [][]int{nil}},
	} {
		for x, want := range c.want {
			if got := impl.NamesOf(c.w, x); !slices.Equal(got, want) {
				t.Errorf("NamesOf(%v, %d) = %v", c.w, x, got)
			}
		}
	}
}
