package tests

import (
	"math/rand"
	"slices"
	"testing"

	"loop.example/objectmodel/impl"
)

// checkNoCall checks that each function that takes a class of a script returns what it does for arguments that are not valid.
func checkNoCall(t *testing.T, s impl.Script, c, name int) {
	t.Helper()
	if got := impl.ChainOf(s, c, name); got != nil {
		t.Errorf("ChainOf(%v, %d, %d) = %v", s, c, name, got)
	}
	for behind := range 3 {
		if got := impl.OwnerAfter(s, c, behind, name); got != -1 {
			t.Errorf("OwnerAfter(%v, %d, %d, %d) = %d", s, c, behind, name, got)
		}
	}
	for _, fuel := range numbers(0, 1, impl.MaxFuel) {
		if got := impl.RunCall(s, c, name, fuel); !isZeroRun(got) {
			t.Errorf("RunCall(%v, %d, %d, %d) = %v", s, c, name, fuel, got)
		}
	}
	if got := impl.LeastFuel(s, c, name); got != -1 {
		t.Errorf("LeastFuel(%v, %d, %d) = %d", s, c, name, got)
	}
	if impl.IsPolite(s, c, name) || impl.PoliteSays(s, c, name) != nil {
		t.Errorf("IsPolite(%v, %d, %d)", s, c, name)
	}
	if got := impl.DropBody(s, c, name); !isZeroScript(got) {
		t.Errorf("DropBody(%v, %d, %d) = %v", s, c, name, got)
	}
}

func TestCallsOfClassesThatAreNotThere(t *testing.T) {
	for _, s := range []impl.Script{polite(), fullScript()} {
		for _, c := range append(odd(), 4) {
			for name := range impl.MaxName + 1 {
				checkNoCall(t, s, c, name)
			}
		}
	}
}

func TestCallsOfScriptsThatAreNotValid(t *testing.T) {
	for _, s := range brokenScripts() {
		for c := range 4 {
			for name := range 3 {
				checkNoCall(t, s, c, name)
			}
		}
	}
}

func TestFuelThatIsNotValid(t *testing.T) {
	for _, fuel := range numbers(-1, -200, 201, 1<<32, 1<<62, -1<<63) {
		for name := range 3 {
			if got := impl.RunCall(polite(), 3, name, fuel); !isZeroRun(got) {
				t.Errorf("RunCall(3, %d, %d) = %v", name, fuel, got)
			}
		}
	}
}

// TestCallsOfNamesThatAreNotValid has names that no body can have, so that each call is one of a name without a body.
func TestCallsOfNamesThatAreNotValid(t *testing.T) {
	for _, name := range append(odd(), 10) {
		for c := range 4 {
			if impl.ChainOf(polite(), c, name) != nil || impl.OwnerAfter(polite(), c, c, name) != -1 || impl.IsPolite(polite(), c, name) || impl.PoliteSays(polite(), c, name) != nil || !isZeroScript(impl.DropBody(polite(), c, name)) {
				t.Errorf("class %d has a body of the name %d", c, name)
			}
			if got := impl.RunCall(polite(), c, name, 5); !equalRuns(got, impl.Run{End: impl.RuNone, Left: 5}) {
				t.Errorf("RunCall(%d, %d, 5) = %v", c, name, got)
			}
		}
	}
}

func TestClassesThatAreNotInTheOrder(t *testing.T) {
	for _, n := range append(odd(), 4) {
		for c := range 4 {
			if impl.OwnerAfter(polite(), c, n, 0) != -1 || impl.NextAfter(diamond(), c, n) != -1 || impl.NextAfter(diamond(), n, c) != -1 {
				t.Errorf("%d is a class", n)
			}
		}
	}
}

func TestSuperOfArgumentsThatAreNotValid(t *testing.T) {
	for _, w := range brokenWorlds() {
		for x := range 3 {
			for behind := range 4 {
				if got := impl.SuperAttr(w, x, behind, 1); got != nothing() {
					t.Errorf("SuperAttr(%v, %d, %d, 1) = %v", w, x, behind, got)
				}
			}
		}
	}
	for _, n := range append(odd(), 10) {
		for i := range 4 {
			for _, got := range []impl.Found{impl.SuperAttr(sixKinds(), n, 3, i), impl.SuperAttr(sixKinds(), 0, n, i), impl.SuperAttr(sixKinds(), 0, i, n)} {
				if got != nothing() {
					t.Errorf("SuperAttr finds %v with %d and %d", got, n, i)
				}
			}
		}
	}
}

// brokenScript returns a valid script of which one number, or one place of a list, was made another one.
func brokenScript(r *rand.Rand) impl.Script {
	s := cloneScript(randomScript(r))
	c := r.Intn(len(s.Bases))
	n := append(odd(), countTo(10)...)[r.Intn(16)]
	list := &s.Bodies[c]
	*list = append(*list, body(r.Intn(10), say(1)))
	one := &(*list)[r.Intn(len(*list))]
	one.Acts = append(one.Acts, acts(say(2), up(), call(3))[r.Intn(3)])
	act := &one.Acts[r.Intn(len(one.Acts))]
	switch r.Intn(8) {
	case 0:
		one.Name = n
	case 1:
		act.Kind = n
	case 2, 3:
		act.Arg = n
	case 4:
		s.Bodies = append(s.Bodies, nil)
	case 5:
		s.Bodies = s.Bodies[:len(s.Bodies)-1]
	case 6:
		s.Bases[c] = append(s.Bases[c], n)
	}
	return s
}

// isScriptByRule reports whether a script is valid, by counting what it has and what is allowed.
func isScriptByRule(s impl.Script) bool {
	if !impl.AllOrders(s.Bases) || len(s.Bodies) != len(s.Bases) {
		return false
	}
	most := map[int]int{impl.AcSay: 99, impl.AcCall: 9}
	for _, list := range s.Bodies {
		names := map[int]bool{}
		for _, b := range list {
			names[b.Name] = true
			if b.Name < 0 || b.Name > 9 || len(b.Acts) > 6 {
				return false
			}
			for _, a := range b.Acts {
				if last, ok := most[a.Kind]; a.Kind != impl.AcSuper && (!ok || a.Arg < 0 || a.Arg > last) {
					return false
				}
			}
		}
		if len(list) > 4 || len(names) != len(list) {
			return false
		}
	}
	return true
}

func TestAllCallsAreTotal(t *testing.T) {
	r := source(53)
	n := tally{}
	for range 3000 {
		s := brokenScript(r)
		if impl.ValidScript(s) != isScriptByRule(s) {
			t.Fatalf("ValidScript(%v) = %v", s, impl.ValidScript(s))
		}
		if isScriptByRule(s) {
			n["valid"]++
			continue
		}
		n["broken"]++
		for c := range 3 {
			checkNoCall(t, s, c, r.Intn(10))
		}
	}
	n.need(t, 300, "valid", "broken")
}

// TestLongScriptsAreRefusedAtOnce has lists that would take hours if each name was compared with all others.
func TestLongScriptsAreRefusedAtOnce(t *testing.T) {
	manyBodies, manyActs := make([]impl.Body, 1_000_000), make([]impl.Act, 1_000_000)
	for i := range manyBodies {
		manyBodies[i].Name = i
	}
	for _, s := range []impl.Script{
		{Bases: line(2), Bodies: [][]impl.Body{nil, manyBodies}},
		{Bases: line(2), Bodies: [][]impl.Body{bodies(body(1, manyActs...)), nil}},
		{Bases: line(2), Bodies: make([][]impl.Body, 1_000_000)},
		{Bases: make([][]int, 1_000_000), Bodies: make([][]impl.Body, 1_000_000)},
	} {
		if impl.ValidScript(s) {
			t.Error("a long script is valid")
		}
		checkNoScript(t, s)
	}
}

// checkNoScript checks that no function takes a script. It prints nothing of the script, which may be long.
func checkNoScript(t *testing.T, s impl.Script) {
	t.Helper()
	if impl.ChainOf(s, 1, 1) != nil || impl.OwnerAfter(s, 1, 1, 1) != -1 || !isZeroRun(impl.RunCall(s, 1, 1, 1)) || impl.LeastFuel(s, 1, 1) != -1 || impl.IsPolite(s, 1, 1) || impl.PoliteSays(s, 1, 1) != nil || !isZeroScript(impl.DropBody(s, 1, 1)) {
		t.Error("a long script is run")
	}
}

// scriptParts returns all lists of a script, those that hold others last.
func scriptParts(s impl.Script) []part {
	sameBody := func(a, b impl.Body) bool { return a.Name == b.Name && startsAt(a.Acts, b.Acts) }
	var parts []part
	for _, list := range s.Bases {
		parts = append(parts, partOf(list, -99, equal))
	}
	for _, list := range s.Bodies {
		for _, b := range list {
			parts = append(parts, partOf(b.Acts, say(-99), equal))
		}
	}
	for _, list := range s.Bodies {
		parts = append(parts, partOf(list, body(-99, say(-99)), sameBody))
	}
	return append(parts, partOf(s.Bases, numbers(-99), startsAt), partOf(s.Bodies, bodies(body(-99)), startsAt))
}

// spareScript returns a script with the same numbers, with room behind each of its lists.
func spareScript(s impl.Script) impl.Script {
	out := impl.Script{Bases: spare(s.Bases)}
	for _, list := range s.Bodies {
		var copies []impl.Body
		for _, b := range list {
			copies = append(copies, body(b.Name, spareList(b.Acts, say(77))...))
		}
		out.Bodies = append(out.Bodies, spareList(copies, body(77, say(77))))
	}
	out.Bodies = spareList(out.Bodies, bodies(body(77, say(77))))
	return out
}

func TestScriptsShareNoMemory(t *testing.T) {
	r := source(54)
	n := tally{}
	for range 1500 {
		s := randomScript(r)
		given := spareScript(s)
		parts := scriptParts(given)
		c, name := r.Intn(len(s.Bases)), r.Intn(impl.MaxName+1)
		impl.ValidScript(given)
		impl.OwnerAfter(given, c, r.Intn(len(s.Bases)), name)
		impl.LeastFuel(given, c, name)
		impl.IsPolite(given, c, name)
		impl.NextAfter(given.Bases, c, c)
		spoil(impl.ChainOf(given, c, name))
		for _, list := range [][]impl.Said{impl.RunCall(given, c, name, impl.MaxFuel).Said, impl.PoliteSays(given, c, name)} {
			partOf(list, impl.Said{Class: -99, Value: -99}, equal).spoil()
		}
		if next := impl.DropBody(given, c, name); !isZeroScript(next) {
			n["dropped"]++
			if !spoilAll(scriptParts(next)) {
				t.Fatalf("lists of DropBody(%v, %d, %d) share memory", s, c, name)
			}
		}
		if !areIntact(parts) || !equalScripts(given, s) {
			t.Fatalf("%v was changed: %v", s, given)
		}
	}
	n.need(t, 200, "dropped")
}

// TestScriptsWithSharedListsShareNoMemory has a script whose lists are the same memory, which its results are not.
func TestScriptsWithSharedListsShareNoMemory(t *testing.T) {
	bases, list := numbers(0), acts(say(1), up(), say(2))
	own := bodies(body(5, list...), body(6, list...))
	s := impl.Script{Bases: [][]int{nil, bases, bases}, Bodies: [][]impl.Body{own, own, own}}
	for c := range 3 {
		for _, name := range numbers(5, 6) {
			next := impl.DropBody(s, c, name)
			if want := withBodies(s, c, bodies(own[6-name])); !equalScripts(next, want) {
				t.Fatalf("DropBody(%v, %d, %d) = %v", s, c, name, next)
			}
			if !spoilAll(scriptParts(next)) {
				t.Fatalf("lists of DropBody(%v, %d, %d) share memory", s, c, name)
			}
		}
	}
	if !slices.Equal(bases, numbers(0)) || !slices.Equal(list, acts(say(1), up(), say(2))) || len(own) != 2 || own[0].Name != 5 || own[1].Name != 6 {
		t.Fatalf("the lists of a script were changed: %v", s)
	}
}

// TestSuperDoesNotChangeItsWorld has a world with room behind its lists.
func TestSuperDoesNotChangeItsWorld(t *testing.T) {
	r := source(55)
	for range 300 {
		w := randomWorld(r)
		given := spareWorld(w)
		parts := worldParts(given)
		impl.SuperAttr(given, r.Intn(impl.MaxObjects), r.Intn(len(w.Bases)), r.Intn(impl.MaxName+1))
		if !areIntact(parts) || !equalWorlds(given, w) {
			t.Fatalf("%v was changed: %v", w, given)
		}
	}
}
