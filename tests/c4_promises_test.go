package tests

import (
	"slices"
	"testing"

	"loop.example/objectmodel/impl"
)

func TestPromise42ObjectsCanGo(t *testing.T) {
	n := tally{}
	forWorlds(t, func(w impl.World, _ []int) {
		bare := worldOf(w.Bases)
		for _, some := range []impl.World{w, {Bases: w.Bases, Attrs: w.Attrs}, {Bases: w.Bases, Attrs: bare.Attrs, Objects: w.Objects}, bare} {
			if !impl.ValidWorld(some) {
				t.Fatalf("ValidWorld(%v), a part of %v", some, w)
			}
		}
		for c := range w.Bases {
			if some := withAttrs(w, c, nil); !impl.ValidWorld(some) {
				t.Fatalf("ValidWorld(%v), a part of %v", some, w)
			}
		}
		for x := range w.Objects {
			n["objects"]++
			some := w
			some.Objects = without(w.Objects, x)
			if !impl.ValidWorld(some) || !impl.ValidWorld(withPairs(w, x, nil)) {
				t.Fatalf("ValidWorld(%v), a part of %v", some, w)
			}
		}
	})
	n.need(t, 1000, "objects")
}

func TestPromise43TheFirstClassThatHasItIsFound(t *testing.T) {
	n := tally{}
	forFinds(t, func(w impl.World, c, name int) {
		owner, a := impl.FindIn(w, c, name)
		if wantOwner, want := findByRule(w, c, name); owner != wantOwner || a != want {
			t.Fatalf("FindIn(%v, %d, %d) = %d, %v", w, c, name, owner, a)
		}
		owners := impl.OwnersOf(w, c, name)
		if len(owners) == 0 {
			n["none"]++
			if owner != -1 || a != (impl.Attr{}) {
				t.Fatalf("FindIn(%v, %d, %d) = %d, %v", w, c, name, owner, a)
			}
			return
		}
		n["some"]++
		if len(owners) > 1 {
			n["several"]++
		}
		if owner != owners[0] || a.Name != name || !slices.Contains(w.Attrs[owner], a) {
			t.Fatalf("FindIn(%v, %d, %d) = %d, %v, and OwnersOf = %v", w, c, name, owner, a, owners)
		}
	})
	n.need(t, 1000, "none", "some", "several")
}

func TestPromise44WhatAClassFindsOneOfItsBasesFinds(t *testing.T) {
	n := tally{}
	forFinds(t, func(w impl.World, c, name int) {
		owner, a := impl.FindIn(w, c, name)
		if i := ownAt(w, c, name); i >= 0 {
			n["own"]++
			if owner != c || a != w.Attrs[c][i] {
				t.Fatalf("FindIn(%v, %d, %d) = %d, %v", w, c, name, owner, a)
			}
			return
		}
		// The root, which has no bases, finds nothing but its own.
		same := c == 0 && owner == -1 && a == impl.Attr{}
		for i, b := range w.Bases[c] {
			baseOwner, baseAttr := impl.FindIn(w, b, name)
			if baseOwner == owner && baseAttr == a {
				same = true
			} else if i == 0 {
				n["not the first base"]++
			}
		}
		if !same {
			t.Fatalf("FindIn(%v, %d, %d) = %d, %v", w, c, name, owner, a)
		}
	})
	n.need(t, 100, "own", "not the first base")
}

func TestPromise45DataComesFirstThenWhatIsOwnThenTheRest(t *testing.T) {
	n := tally{}
	forGets(t, func(w impl.World, x, name int) {
		got := impl.GetAttr(w, x, name)
		if want := getByRule(w, x, name); got != want {
			t.Fatalf("GetAttr(%v, %d, %d) = %v, not %v", w, x, name, got, want)
		}
		class := w.Objects[x].Class
		owner, a := impl.FindIn(w, class, name)
		has := pairAt(w, x, name) >= 0
		first := owner >= 0 && isFirst(a.Kind)
		switch {
		case first && has:
			n["hidden pairs"]++
		case has && owner >= 0:
			n["hiding pairs"]++
		case !has && owner < 0:
			n["none"]++
		}
		if (got.How == impl.FoData) != first || (got.How == impl.FoOwn) != (has && !first) || (got.How == impl.FoNone) != (!has && owner < 0) {
			t.Fatalf("GetAttr(%v, %d, %d) = %v", w, x, name, got)
		}
		// All that FindIn does not find can be left out.
		alone := cloneWorld(w)
		alone.Attrs = worldOf(w.Bases).Attrs
		if owner >= 0 {
			alone.Attrs[owner] = attrs(a)
		}
		if again := impl.GetAttr(alone, x, name); again != got {
			t.Fatalf("GetAttr(%v, %d, %d) = %v, and %v of %v", w, x, name, got, again, alone)
		}
	})
	n.need(t, 500, "hidden pairs", "hiding pairs", "none")
}

func TestPromise46WithoutOwnPairsObjectsAreAsTheirClasses(t *testing.T) {
	n := tally{}
	forGets(t, func(w impl.World, x, name int) {
		plain := withPairs(w, x, nil)
		got, class := impl.GetAttr(plain, x, name), impl.GetClassAttr(plain, w.Objects[x].Class, name)
		if got.Owner != class.Owner || got.Value != class.Value || (got.How == impl.FoNone) != (class.How == impl.FoNone) {
			t.Fatalf("GetAttr(%v, %d, %d) = %v, and %v of its class", plain, x, name, got, class)
		}
		if got.How != impl.FoNone {
			n["some"]++
		}
	})
	n.need(t, 1000, "some")
}

func TestPromise47ClassesBindFunctionsOfClassesAlone(t *testing.T) {
	n := tally{}
	forFinds(t, func(w impl.World, c, name int) {
		owner, a := impl.FindIn(w, c, name)
		want := nothing()
		switch {
		case owner >= 0 && a.Kind == impl.AtOfClass:
			want = found(impl.FoBound, owner, a.Value, c)
			if owner != c {
				n["of a class above"]++
			}
		case owner >= 0:
			n["of other kinds"]++
			want = found(impl.FoClass, owner, a.Value, -1)
		}
		if got := impl.GetClassAttr(w, c, name); got != want {
			t.Fatalf("GetClassAttr(%v, %d, %d) = %v", w, c, name, got)
		}
	})
	n.need(t, 200, "of a class above", "of other kinds")
}

func TestPromise48WhatIsSetIsGot(t *testing.T) {
	n := tally{}
	i := 0
	forGets(t, func(w impl.World, x, name int) {
		next, ok := impl.SetAttr(w, x, name, 33)
		want, can := setByRule(w, x, name, 33)
		if ok != can || ok && !equalWorlds(next, want) || !ok && !isZeroWorld(next) {
			t.Fatalf("SetAttr(%v, %d, %d, 33) = %v, %v, not %v, %v", w, x, name, next, ok, want, can)
		}
		if !ok {
			n["refused"]++
			return
		}
		got := impl.GetAttr(next, x, name)
		if got.Value != 33 || got.Self != x || got.How != impl.FoOwn && got.How != impl.FoData {
			t.Fatalf("GetAttr(%v, %d, %d) = %v", next, x, name, got)
		}
		i++
		for other := range w.Objects {
			// The name itself, and one other name at a time.
			for _, some := range numbers(name, (name+1+i%impl.MaxName)%(impl.MaxName+1)) {
				before, after := impl.GetAttr(w, other, some), impl.GetAttr(next, other, some)
				if some == name && got.How == impl.FoData && other != x && before != after {
					n["shared values"]++
				}
				if some != name && before != after || other != x && got.How == impl.FoOwn && before != after {
					t.Fatalf("GetAttr(%v, %d, %d) = %v, and was %v", next, other, some, after, before)
				}
			}
		}
		n["set"]++
	})
	n.need(t, 200, "refused", "shared values", "set")
}

// TestPromise48DescriptorsSetOneValueForAll has that each object which finds the same attribute of a class gets the value that was set for one.
func TestPromise48DescriptorsSetOneValueForAll(t *testing.T) {
	n := tally{}
	forSets(t, func(w impl.World, x, name, value int, next impl.World) {
		owner, a := impl.FindIn(w, w.Objects[x].Class, name)
		if a.Kind != impl.AtData {
			return
		}
		for other, o := range w.Objects {
			want := impl.GetAttr(w, other, name)
			if same, _ := impl.FindIn(w, o.Class, name); same == owner {
				n["same"]++
				want = found(impl.FoData, owner, value, other)
			} else {
				n["another"]++
			}
			if got := impl.GetAttr(next, other, name); got != want || !slices.Equal(next.Objects[other].Pairs, o.Pairs) {
				t.Fatalf("GetAttr(%v, %d, %d) = %v, not %v", next, other, name, got, want)
			}
		}
	})
	n.need(t, 200, "same", "another")
}

func TestPromise49TheLastValueCounts(t *testing.T) {
	n := tally{}
	forSets(t, func(w impl.World, x, name, value int, next impl.World) {
		second := (value + 7) % (impl.MaxValue + 1)
		once, ok := impl.SetAttr(w, x, name, second)
		twice, okTwice := impl.SetAttr(next, x, name, second)
		if !ok || !okTwice || !equalWorlds(once, twice) {
			t.Fatalf("SetAttr(%v, %d, %d, %d) = %v, and %v after %d", w, x, name, second, once, twice, value)
		}
		was := impl.GetAttr(w, x, name)
		if was.How != impl.FoOwn && was.How != impl.FoData {
			n["new"]++
			return
		}
		n["set back"]++
		if back, ok := impl.SetAttr(twice, x, name, was.Value); !ok || !equalWorlds(back, w) {
			t.Fatalf("SetAttr(%v, %d, %d, %d) = %v, not %v", twice, x, name, was.Value, back, w)
		}
	})
	n.need(t, 200, "new", "set back")
}

func TestPromise50WhatIsTakenAwayLetsTheClassBeSeen(t *testing.T) {
	n := tally{}
	forGets(t, func(w impl.World, x, name int) {
		next, ok := impl.DelAttr(w, x, name)
		want, can := delByRule(w, x, name)
		if ok != can || ok && !equalWorlds(next, want) || !ok && !isZeroWorld(next) {
			t.Fatalf("DelAttr(%v, %d, %d) = %v, %v, not %v, %v", w, x, name, next, ok, want, can)
		}
		if !ok {
			n["refused"]++
			return
		}
		got, class := impl.GetAttr(next, x, name), impl.GetClassAttr(w, w.Objects[x].Class, name)
		if got.Owner != class.Owner || got.Value != class.Value {
			t.Fatalf("GetAttr(%v, %d, %d) = %v, and %v of its class", next, x, name, got, class)
		}
		n["taken"]++
		if class.How != impl.FoNone {
			n["seen"]++
		}
		if again, ok := impl.DelAttr(next, x, name); ok || !isZeroWorld(again) {
			t.Fatalf("DelAttr(%v, %d, %d) = %v", next, x, name, again)
		}
	})
	n.need(t, 200, "refused", "taken", "seen")
}

func TestPromise50DelAfterSetIsAsBefore(t *testing.T) {
	n := tally{}
	forSets(t, func(w impl.World, x, name, value int, next impl.World) {
		_, a := impl.FindIn(w, w.Objects[x].Class, name)
		back, ok := impl.DelAttr(next, x, name)
		switch {
		case a.Kind == impl.AtData:
			n["data"]++
			if ok || !isZeroWorld(back) {
				t.Fatalf("DelAttr(%v, %d, %d) = %v", next, x, name, back)
			}
		case pairAt(w, x, name) < 0:
			n["new"]++
			if !ok || !equalWorlds(back, w) {
				t.Fatalf("DelAttr(%v, %d, %d) = %v, not %v", next, x, name, back, w)
			}
		}
	})
	n.need(t, 200, "data", "new")
}

func TestPromise51ClassesChangeAllBelowThemThatDoNotHideIt(t *testing.T) {
	n := tally{}
	forGifts(t, func(w impl.World, c int, a impl.Attr) {
		next := giveIn(t, w, c, a)
		for d := range w.Bases {
			before := -1
			order := orderIn(w, d)
			for _, o := range order[:max(slices.Index(order, c), 0)] {
				if ownAt(w, o, a.Name) >= 0 {
					before = o
				}
			}
			reached := isAboveClass(w.Bases, d, c) && before < 0
			owner, got := impl.FindIn(next, d, a.Name)
			if (owner == c) != reached || reached && got != a {
				t.Fatalf("FindIn(%v, %d, %d) = %d, %v after %d got %v", next, d, a.Name, owner, got, c, a)
			}
			if was, attrWas := impl.FindIn(w, d, a.Name); !reached && (owner != was || got != attrWas) {
				t.Fatalf("FindIn(%v, %d, %d) = %d, %v, and was %d, %v", next, d, a.Name, owner, got, was, attrWas)
			}
			switch {
			case reached && c != d:
				n["below"]++
			case before >= 0:
				n["hidden"]++
			case !reached:
				n["beside"]++
			}
		}
	})
	n.need(t, 500, "below", "hidden", "beside")
}

func TestPromise52DescriptorsHideWhatIsOwn(t *testing.T) {
	n := tally{}
	forGets(t, func(w impl.World, x, name int) {
		c := w.Objects[x].Class
		if ownAt(w, c, name) < 0 && len(w.Attrs[c]) == impl.MaxAttrs {
			return
		}
		// Of a kind that hides nothing first, so that only the new one can hide a pair.
		open := giveIn(t, w, c, attr(name, impl.AtPlain, 3))
		fixed := giveIn(t, open, c, attr(name, impl.AtFixed, 4))
		if got := impl.GetAttr(fixed, x, name); got != found(impl.FoData, c, 4, x) {
			t.Fatalf("GetAttr(%v, %d, %d) = %v", fixed, x, name, got)
		}
		set, okSet := impl.SetAttr(fixed, x, name, 5)
		del, okDel := impl.DelAttr(fixed, x, name)
		if okSet || okDel || !isZeroWorld(set) || !isZeroWorld(del) {
			t.Fatalf("SetAttr and DelAttr of %v, %d, %d = %v, %v", fixed, x, name, set, del)
		}
		bare := takeFrom(t, fixed, c, name)
		_, a := impl.FindIn(bare, c, name)
		own := pairAt(w, x, name) >= 0
		if got := impl.GetAttr(bare, x, name); (got.How == impl.FoOwn) != (own && !isFirst(a.Kind)) {
			t.Fatalf("GetAttr(%v, %d, %d) = %v", bare, x, name, got)
		}
		if own {
			n["hidden"]++
		}
		if own && !isFirst(a.Kind) {
			n["seen again"]++
		}
	})
	n.need(t, 200, "hidden", "seen again")
}

func TestPromise53WhatIsTakenFromAClassWasThere(t *testing.T) {
	n := tally{}
	forGifts(t, func(w impl.World, c int, a impl.Attr) {
		if ownAt(w, c, a.Name) >= 0 {
			return
		}
		n["new"]++
		if back := takeFrom(t, giveIn(t, w, c, a), c, a.Name); !equalWorlds(back, w) {
			t.Fatalf("%v after %v of %d came and went: %v", w, a, c, back)
		}
	})
	forFinds(t, func(w impl.World, c, name int) {
		i := ownAt(w, c, name)
		next, ok := impl.DelClassAttr(w, c, name)
		if i < 0 {
			n["not its own"]++
			if ok || !isZeroWorld(next) {
				t.Fatalf("DelClassAttr(%v, %d, %d) = %v", w, c, name, next)
			}
			return
		}
		n["own"]++
		if want := withAttrs(w, c, without(w.Attrs[c], i)); !ok || !equalWorlds(next, want) {
			t.Fatalf("DelClassAttr(%v, %d, %d) = %v, %v", w, c, name, next, ok)
		}
		rest := append(impl.OwnersOf(w, c, name)[1:], -1)
		if owner, _ := impl.FindIn(next, c, name); owner != rest[0] {
			t.Fatalf("FindIn(%v, %d, %d) = %d, of %v", next, c, name, owner, rest)
		}
		if len(rest) > 1 {
			n["found next"]++
		}
	})
	n.need(t, 500, "new", "own", "not its own", "found next")
}

// TestPromise53ClassesGetWhatTheyAreGiven has all kinds, in the place of an attribute and behind all.
func TestPromise53ClassesGetWhatTheyAreGiven(t *testing.T) {
	n := tally{}
	i := 0
	forFinds(t, func(w impl.World, c, name int) {
		i++
		a := attr(name, i%len(kinds()), i%(impl.MaxValue+1))
		next, ok := impl.SetClassAttr(w, c, a)
		want, can := giveByRule(w, c, a)
		if ok != can || ok && !equalWorlds(next, want) || !ok && !isZeroWorld(next) {
			t.Fatalf("SetClassAttr(%v, %d, %v) = %v, %v", w, c, a, next, ok)
		}
		switch {
		case !ok:
			n["refused"]++
		case len(next.Attrs[c]) > len(w.Attrs[c]):
			n["behind"]++
		case len(w.Attrs[c]) > 1:
			n["among others"]++
		}
	})
	n.need(t, 500, "behind", "among others")
	n.need(t, 2, "refused")
}

func TestPromise54AllNamesCanBeGot(t *testing.T) {
	n := tally{}
	forWorlds(t, func(w impl.World, _ []int) {
		for x, o := range w.Objects {
			lists := [][]int{nameList(o.Pairs)}
			for _, c := range orderIn(w, o.Class) {
				for _, a := range w.Attrs[c] {
					lists = append(lists, numbers(a.Name))
				}
			}
			want := union(lists)
			if got := impl.NamesOf(w, x); !slices.Equal(got, want) {
				t.Fatalf("NamesOf(%v, %d) = %v, not %v", w, x, got, want)
			}
			if len(want) > len(o.Pairs) && len(o.Pairs) > 0 {
				n["names of both"]++
			}
		}
	})
	n.need(t, 200, "names of both")
}

func TestPromise55OwnersKeepTheOrder(t *testing.T) {
	n := tally{}
	forFinds(t, func(w impl.World, c, name int) {
		got := impl.OwnersOf(w, c, name)
		if !isSubsequence(orderIn(w, c), got) || len(union([][]int{got})) != len(got) {
			t.Fatalf("OwnersOf(%v, %d, %d) = %v", w, c, name, got)
		}
		for o := range w.Bases {
			if slices.Contains(got, o) != (isAboveClass(w.Bases, c, o) && ownAt(w, o, name) >= 0) {
				t.Fatalf("OwnersOf(%v, %d, %d) = %v", w, c, name, got)
			}
		}
		for _, b := range w.Bases[c] {
			of := impl.OwnersOf(w, b, name)
			if !isSubsequence(got, of) {
				t.Fatalf("OwnersOf(%v, %d, %d) = %v, and of the base %d %v", w, c, name, got, b, of)
			}
			if len(of) > 1 && len(got) > len(of) {
				n["several"]++
			}
		}
	})
	n.need(t, 500, "several")
}
