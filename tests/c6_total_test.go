package tests

import (
	"math/rand"
	"slices"
	"testing"

	"loop.example/objectmodel/impl"
)

// checkNoWorks checks that each function that takes a class of works returns what it does for arguments that are not valid.
func checkNoWorks(t *testing.T, x impl.Works, c int) {
	t.Helper()
	if got := impl.AbstractOf(x, c); got != nil {
		t.Errorf("AbstractOf(%v, %d) = %v", x, c, got)
	}
	if got := impl.AbstractByBases(x, c); got != nil {
		t.Errorf("AbstractByBases(%v, %d) = %v", x, c, got)
	}
	if impl.CanMake(x, c) {
		t.Errorf("CanMake(%v, %d)", x, c)
	}
}

func TestWorksOfClassesThatAreNotThere(t *testing.T) {
	for _, c := range append(odd(), 4) {
		checkNoWorks(t, halfReal(), c)
		checkNoWorks(t, worksOf(diamond()), c)
	}
}

func TestAbstractNamesOfWorksThatAreNotValid(t *testing.T) {
	for _, x := range brokenWorks() {
		for c := range 4 {
			checkNoWorks(t, x, c)
		}
	}
}

// checkNoRegs checks that each function that takes registrations returns what it does for arguments that are not valid.
func checkNoRegs(t *testing.T, bases [][]int, regs []impl.Reg, a, b int) {
	t.Helper()
	if impl.IsSub(bases, regs, a, b) {
		t.Errorf("IsSub(%v, %v, %d, %d)", bases, regs, a, b)
	}
	if got, ok := impl.Register(bases, regs, a, b); got != nil || ok {
		t.Errorf("Register(%v, %v, %d, %d) = %v, %v", bases, regs, a, b, got, ok)
	}
}

func TestRegsOfClassesThatAreNotThere(t *testing.T) {
	for _, n := range append(odd(), 4) {
		for _, regs := range [][]impl.Reg{nil, regsOf(reg(1, 2))} {
			if got := impl.SupersOf(diamond(), regs, n); got != nil {
				t.Errorf("SupersOf(%v, %d) = %v", regs, n, got)
			}
			checkNoRegs(t, diamond(), regs, n, n)
			for c := range 4 {
				checkNoRegs(t, diamond(), regs, n, c)
				checkNoRegs(t, diamond(), regs, c, n)
			}
		}
	}
}

func TestSubclassesOfRegsThatAreNotValid(t *testing.T) {
	for _, regs := range brokenRegs() {
		for a := range 4 {
			if got := impl.SupersOf(diamond(), regs, a); got != nil {
				t.Errorf("SupersOf(%v, %d) = %v", regs, a, got)
			}
			for b := range 4 {
				checkNoRegs(t, diamond(), regs, a, b)
			}
		}
	}
	for _, bases := range noBases() {
		for c := range 3 {
			if got := impl.SupersOf(bases, nil, c); got != nil {
				t.Errorf("SupersOf(%v, nil, %d) = %v", bases, c, got)
			}
			checkNoRegs(t, bases, nil, c, 0)
			checkNoRegs(t, bases, nil, c, c)
		}
	}
}

func TestHooksOfArgumentsThatAreNotValid(t *testing.T) {
	for _, w := range brokenWorlds() {
		for c := range 4 {
			for hook := range 3 {
				if names, owner := impl.HooksOf(w, c, hook); names != nil || owner != -1 {
					t.Errorf("HooksOf(%v, %d, %d) = %v, %d", w, c, hook, names, owner)
				}
			}
		}
	}
	for _, c := range append(odd(), 4) {
		for hook := range impl.MaxName + 1 {
			if names, owner := impl.HooksOf(hooked(), c, hook); names != nil || owner != -1 {
				t.Errorf("HooksOf(%d, %d) = %v, %d", c, hook, names, owner)
			}
		}
	}
}

// brokenWork returns valid works of which one name, or one list, was made another one, or none.
func brokenWork(r *rand.Rand) impl.Works {
	x := cloneWorks(randomWorks(r))
	c := r.Intn(len(x.Bases))
	n := append(odd(), countTo(10)...)[r.Intn(16)]
	list := [][][]int{x.Abstract, x.Real, x.Bases}[r.Intn(3)]
	switch r.Intn(5) {
	case 0:
		list[c] = append(list[c], n)
	case 1:
		if len(list[c]) > 0 {
			list[c][r.Intn(len(list[c]))] = n
		}
	case 2:
		x.Abstract = [][][]int{append(x.Abstract, nil), x.Abstract[1:], x.Abstract}[r.Intn(3)]
	case 3:
		x.Real = [][][]int{append(x.Real, nil), x.Real[1:], x.Real}[r.Intn(3)]
	}
	return x
}

// areWorksByRule reports whether works are valid, by counting how often a class has each name.
func areWorksByRule(x impl.Works) bool {
	if !impl.AllOrders(x.Bases) || len(x.Abstract) != len(x.Bases) || len(x.Real) != len(x.Bases) {
		return false
	}
	for c := range x.Bases {
		var times [impl.MaxName + 1]int
		for _, list := range [][]int{x.Abstract[c], x.Real[c]} {
			for _, name := range list {
				if name < 0 || name > 9 {
					return false
				}
				times[name]++
			}
		}
		if slices.Max(times[:]) > 1 {
			return false
		}
	}
	return true
}

func TestAllWorksAreTotal(t *testing.T) {
	r := source(66)
	n := tally{}
	for range 4000 {
		x := brokenWork(r)
		if got := impl.ValidWorks(x); got != areWorksByRule(x) {
			t.Fatalf("ValidWorks(%v) = %v", x, got)
		}
		if areWorksByRule(x) {
			n["valid"]++
			continue
		}
		n["broken"]++
		for c := range 3 {
			checkNoWorks(t, x, c)
		}
	}
	n.need(t, 500, "valid", "broken")
}

func TestAllRegsAreTotal(t *testing.T) {
	r := source(67)
	n := tally{}
	for range 4000 {
		bases := randomBases(r, impl.MaxClasses)
		regs := append(randomRegs(r, len(bases)), reg(r.Intn(len(bases)), r.Intn(len(bases))))
		one := &regs[r.Intn(len(regs))]
		other := append(odd(), countTo(13)...)[r.Intn(19)]
		switch r.Intn(3) {
		case 0:
			one.Sub = other
		case 1:
			one.Of = other
		}
		isValid := len(regs) <= 8
		for _, r := range regs {
			isValid = isValid && r.Sub >= 0 && r.Sub < len(bases) && r.Of >= 0 && r.Of < len(bases)
		}
		if got := impl.ValidRegs(bases, regs); got != isValid {
			t.Fatalf("ValidRegs(%v, %v) = %v", bases, regs, got)
		}
		if isValid {
			n["valid"]++
			continue
		}
		n["broken"]++
		if got := impl.SupersOf(bases, regs, 0); got != nil {
			t.Fatalf("SupersOf(%v, %v, 0) = %v", bases, regs, got)
		}
		checkNoRegs(t, bases, regs, len(bases)-1, 0)
	}
	n.need(t, 500, "valid", "broken")
}

// TestLongMetasAreRefusedAtOnce has lists that would take hours if each number was compared with all others.
func TestLongMetasAreRefusedAtOnce(t *testing.T) {
	long, lists, regs := make([]int, 3_000_000), make([][]int, 1_000_000), make([]impl.Reg, 3_000_000)
	many := countTo(1_000_000)
	if impl.MetaWinner(line(2), long) != -1 || impl.MetaWinner(lists, numbers(0)) != -1 {
		t.Error("MetaWinner takes a long list")
	}
	if impl.MetasOf(line(2), line(2), long) != nil || impl.MetasOf(lists, line(2), long) != nil || impl.MetasOf(line(1), lists, numbers(0)) != nil {
		t.Error("MetasOf takes a long list")
	}
	for i, x := range []impl.Works{
		withNames(worksOf(line(2)), 1, many, nil),
		withNames(worksOf(line(2)), 1, nil, many),
		withNames(worksOf(line(2)), 0, many, many),
		{Bases: line(2), Abstract: lists, Real: make([][]int, 2)},
		{Bases: line(2), Abstract: make([][]int, 2), Real: lists},
		{Bases: lists, Abstract: lists, Real: lists},
	} {
		if impl.ValidWorks(x) || impl.AbstractOf(x, 1) != nil || impl.AbstractByBases(x, 1) != nil || impl.CanMake(x, 1) {
			t.Errorf("works %d are long and valid", i)
		}
	}
	next, ok := impl.Register(line(2), regs, 1, 0)
	if impl.ValidRegs(line(2), regs) || impl.SupersOf(line(2), regs, 1) != nil || impl.IsSub(line(2), regs, 1, 0) || next != nil || ok {
		t.Error("long registrations are valid")
	}
}

// spareWorks returns works with the same numbers, with room behind each of their lists.
func spareWorks(x impl.Works) impl.Works {
	return impl.Works{Bases: spare(x.Bases), Abstract: spare(x.Abstract), Real: spare(x.Real)}
}

func TestWorksShareNoMemory(t *testing.T) {
	r := source(68)
	n := tally{}
	for range 2000 {
		x := randomWorks(r)
		given := spareWorks(x)
		c := r.Intn(len(x.Bases))
		impl.ValidWorks(given)
		impl.CanMake(given, c)
		for _, list := range [][]int{impl.AbstractOf(given, c), impl.AbstractByBases(given, c)} {
			if len(list) > 0 {
				n["names"]++
			}
			spoil(list)
		}
		if !isIntact(given.Bases, x.Bases) || !isIntact(given.Abstract, x.Abstract) || !isIntact(given.Real, x.Real) || !equalWorks(given, x) {
			t.Fatalf("%v was changed: %v", x, given)
		}
	}
	n.need(t, 500, "names")
}

func TestMetasShareNoMemory(t *testing.T) {
	r := source(69)
	n := tally{}
	for range 2000 {
		bases, metas := randomBases(r, impl.MaxClasses), randomBases(r, impl.MaxClasses)
		given, list := randomFrom(r, len(metas), len(bases)), randomFrom(r, len(metas), 1+r.Intn(impl.MaxBases+1))
		lists := [][]int{given, list}
		spareBases, spareMetas, spareLists := spare(bases), spare(metas), spare(lists)
		impl.MetaWinner(spareMetas, spareLists[1])
		made := impl.MetasOf(spareBases, spareMetas, spareLists[0])
		if slices.Equal(made, given) {
			n["as given"]++
		}
		spoil(made)
		if !isIntact(spareBases, bases) || !isIntact(spareMetas, metas) || !isIntact(spareLists, lists) {
			t.Fatalf("%v, %v or %v was changed", bases, metas, lists)
		}
	}
	n.need(t, 100, "as given")
}

func TestRegsShareNoMemory(t *testing.T) {
	r := source(70)
	n := tally{}
	for range 4000 {
		bases := flat(r, 2+r.Intn(impl.MaxClasses-1))
		regs := registered(r, bases)
		given, room := spare(bases), spareList(regs, reg(77, 77))
		part := partOf(room, reg(-99, -99), equal)
		a, b := r.Intn(len(bases)), r.Intn(len(bases))
		impl.ValidRegs(given, room)
		impl.IsSub(given, room, a, b)
		spoil(impl.SupersOf(given, room, a))
		next, ok := impl.Register(given, room, a, b)
		switch {
		case ok && len(next) == len(regs) && len(regs) > 0:
			n["as they are"]++
		case ok && len(next) > len(regs):
			n["one more"]++
		}
		partOf(next, reg(-99, -99), equal).spoil()
		if !isIntact(given, bases) || !part.isIntact() {
			t.Fatalf("%v or %v was changed: %v", bases, regs, room)
		}
	}
	n.need(t, 500, "as they are", "one more")
}

// TestRegisterWithoutRegs has a list without registrations that has room, into which nothing is written.
func TestRegisterWithoutRegs(t *testing.T) {
	room := make([]impl.Reg, 0, 4)
	for _, c := range []struct{ sub, of, want int }{{3, 1, 0}, {1, 2, 1}} {
		next, ok := impl.Register(diamond(), room, c.sub, c.of)
		if !ok || len(next) != c.want {
			t.Errorf("Register(%d, %d) = %v, %v", c.sub, c.of, next, ok)
		}
		partOf(next, reg(-99, -99), equal).spoil()
		if !slices.Equal(room[:4], make([]impl.Reg, 4)) {
			t.Errorf("Register(%d, %d) has written %v", c.sub, c.of, room[:4])
		}
	}
}

// TestHooksDoNotChangeTheirWorld has a world with room behind its lists.
func TestHooksDoNotChangeTheirWorld(t *testing.T) {
	r := source(71)
	for range 400 {
		w := randomWorld(r)
		given := spareWorld(w)
		parts := worldParts(given)
		names, _ := impl.HooksOf(given, r.Intn(len(w.Bases)), r.Intn(impl.MaxName+1))
		spoil(names)
		if !areIntact(parts) || !equalWorlds(given, w) {
			t.Fatalf("%v was changed: %v", w, given)
		}
	}
}
