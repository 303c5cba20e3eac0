package tests

import (
	"slices"
	"testing"

	"loop.example/objectmodel/impl"
)

func TestPromise69WinnersAreBelowAll(t *testing.T) {
	n := tally{}
	forMetas(t, func(metas [][]int, list []int) {
		got := impl.MetaWinner(metas, list)
		if want := winnerByRule(metas, list); got != want {
			t.Fatalf("MetaWinner(%v, %v) = %d, not %d", metas, list, got, want)
		}
		reversed := slices.Clone(list)
		slices.Reverse(reversed)
		if again := impl.MetaWinner(metas, reversed); again != got {
			t.Fatalf("MetaWinner(%v, %v) = %d, not %d", metas, reversed, again, got)
		}
		if got < 0 {
			return
		}
		n["won"]++
		if got != list[0] && got != list[len(list)-1] {
			n["within"]++
		}
		if !slices.Contains(list, got) {
			t.Fatalf("MetaWinner(%v, %v) = %d", metas, list, got)
		}
		for _, m := range list {
			if !slices.Contains(impl.AboveOf(metas, got), m) {
				t.Fatalf("MetaWinner(%v, %v) = %d is not below %d", metas, list, got, m)
			}
		}
	})
	n.need(t, 1000, "won", "within")
}

// TestPromise69WinnersInAnyOrder has all orders of metaclasses of which some are apart, and one may be below all.
func TestPromise69WinnersInAnyOrder(t *testing.T) {
	for _, list := range [][]int{{0, 1, 2, 3}, {1, 2, 3, 4, 5}, {1, 2, 3, 4}, {2, 3, 5}, {0, 1, 2, 4, 5}, {3, 4}} {
		want := winnerByRule(apart(), list)
		for _, order := range arrangements(list) {
			if got := impl.MetaWinner(apart(), order); got != want {
				t.Errorf("MetaWinner(%v) = %d, not %d", order, got, want)
			}
		}
	}
}

func TestPromise70WithoutWinnerAllHaveOneThatIsApart(t *testing.T) {
	n := tally{}
	forMetas(t, func(metas [][]int, list []int) {
		allApart := true
		for _, m := range list {
			isBelowAll := true
			for _, other := range list {
				isBelowAll = isBelowAll && slices.Contains(impl.AboveOf(metas, m), other)
			}
			allApart = allApart && !isBelowAll
		}
		if got := impl.MetaWinner(metas, list); (got == -1) != allApart {
			t.Fatalf("MetaWinner(%v, %v) = %d", metas, list, got)
		}
		if allApart {
			n["apart"]++
			if len(list) > 2 {
				n["of more than two"]++
			}
		} else {
			n["won"]++
		}
	})
	n.need(t, 1000, "apart", "of more than two", "won")
}

func TestPromise71MetaclassesAreKeptBelow(t *testing.T) {
	n := tally{}
	forMakes(t, func(bases, metas [][]int, given []int) {
		got := impl.MetasOf(bases, metas, given)
		if len(got) != len(bases) {
			t.Fatalf("MetasOf(%v, %v, %v) = %v", bases, metas, given, got)
		}
		for c, m := range got {
			if m < 0 {
				n["without"]++
				continue
			}
			if m != given[c] {
				n["of a base"]++
			}
			above := impl.AboveOf(metas, m)
			if !slices.Contains(above, given[c]) {
				t.Fatalf("MetasOf(%v, %v, %v) = %v: that of %d is not below the one that is given", bases, metas, given, got, c)
			}
			for _, b := range bases[c] {
				if !slices.Contains(above, got[b]) {
					t.Fatalf("MetasOf(%v, %v, %v) = %v: that of %d is not below that of %d", bases, metas, given, got, c, b)
				}
			}
		}
		if slices.Contains(got, -1) {
			n["some without"]++
			return
		}
		n["all told"]++
		if again := impl.MetasOf(bases, metas, got); !slices.Equal(again, got) {
			t.Fatalf("MetasOf(%v, %v, %v) = %v, and then %v", bases, metas, given, got, again)
		}
	})
	n.need(t, 2000, "without", "of a base", "some without", "all told")
}

// TestPromise71MetaclassesAreWinners compares with metaclasses that are found for each class anew, also where there is none.
func TestPromise71MetaclassesAreWinners(t *testing.T) {
	n := tally{}
	forMakes(t, func(bases, metas [][]int, given []int) {
		got := impl.MetasOf(bases, metas, given)
		for c, m := range got {
			if len(bases) > 6 && c%3 > 0 {
				continue
			}
			if want := metaByRule(bases, metas, given, c); m != want {
				t.Fatalf("MetasOf(%v, %v, %v) = %v: that of %d is not %d", bases, metas, given, got, c, want)
			}
			if m < 0 {
				n["without"]++
				list := numbers(given[c])
				for _, b := range bases[c] {
					list = append(list, got[b])
				}
				if !slices.Contains(list, -1) {
					n["clash"]++
				}
			}
		}
	})
	n.need(t, 1000, "without", "clash")
}

func TestPromise72OnOneLineAllHaveMetaclasses(t *testing.T) {
	n := tally{}
	r := source(64)
	forBases(t, func(bases [][]int) {
		for _, length := range numbers(1, 3, impl.MaxClasses) {
			given := randomFrom(r, length, len(bases))
			got := impl.MetasOf(bases, line(length), given)
			for c := range bases {
				greatest := 0
				for _, a := range impl.AboveOf(bases, c) {
					greatest = max(greatest, given[a])
				}
				if len(got) != len(bases) || got[c] != greatest {
					t.Fatalf("MetasOf(%v, line(%d), %v) = %v: that of %d is not %d", bases, length, given, got, c, greatest)
				}
				if greatest != given[c] {
					n["given above"]++
				} else {
					n["given"]++
				}
			}
		}
	})
	n.need(t, 5000, "given above", "given")
}

func TestPromise73WorksCanBeMadeReal(t *testing.T) {
	n := tally{}
	forWorks(t, func(x impl.Works) {
		real := worksOf(x.Bases)
		for c, abstract := range x.Abstract {
			if len(abstract) > 0 {
				n["with abstract names"]++
			}
			if len(abstract)+len(x.Real[c]) == impl.MaxName+1 {
				n["with all names"]++
			}
			real.Real[c] = slices.Concat(x.Real[c], abstract)
		}
		if !impl.ValidWorks(x) || !impl.ValidWorks(real) {
			t.Fatalf("ValidWorks(%v) = %v, and when they are real %v", x, impl.ValidWorks(x), impl.ValidWorks(real))
		}
		for c := range x.Bases {
			if len(impl.AbstractOf(real, c)) > 0 || len(impl.AbstractByBases(real, c)) > 0 || !impl.CanMake(real, c) {
				t.Fatalf("class %d of %v has abstract names", c, real)
			}
		}
	})
	n.need(t, 100, "with abstract names", "with all names")
}

func TestPromise74BasesTellAll(t *testing.T) {
	n := tally{}
	forAbstract(t, func(x impl.Works, c int) {
		got := impl.AbstractOf(x, c)
		if want := abstractByRule(x, c); !slices.Equal(got, want) {
			t.Fatalf("AbstractOf(%v, %d) = %v, not %v", x, c, got, want)
		}
		if byBases := impl.AbstractByBases(x, c); !slices.Equal(byBases, got) {
			t.Fatalf("AbstractByBases(%v, %d) = %v, not %v", x, c, byBases, got)
		}
		if len(got) > 0 {
			n["abstract"]++
		}
		for _, b := range x.Bases[c] {
			for _, name := range impl.AbstractOf(x, b) {
				if !slices.Contains(got, name) && !slices.Contains(x.Real[c], name) {
					n["made real by another base"]++
				}
			}
		}
	})
	n.need(t, 1000, "abstract", "made real by another base")
}

func TestPromise75WhatIsMadeRealIsNotAbstract(t *testing.T) {
	n := tally{}
	forAbstract(t, func(x impl.Works, c int) {
		var above []int
		for _, a := range impl.AboveOf(x.Bases, c) {
			above = append(above, x.Abstract[a]...)
		}
		got := impl.AbstractOf(x, c)
		for _, name := range got {
			if slices.Contains(x.Real[c], name) || !slices.Contains(above, name) {
				t.Fatalf("AbstractOf(%v, %d) = %v", x, c, got)
			}
			if !slices.Contains(x.Abstract[c], name) {
				n["abstract above"]++
			}
		}
		for _, name := range x.Abstract[c] {
			if !slices.Contains(got, name) {
				t.Fatalf("AbstractOf(%v, %d) = %v has not %d", x, c, got, name)
			}
		}
		for _, name := range above {
			if slices.Contains(x.Real[c], name) {
				n["made real"]++
			}
		}
	})
	n.need(t, 1000, "abstract above", "made real")
}

func TestPromise76AbstractNamesComeFromSomewhere(t *testing.T) {
	n := tally{}
	forAbstract(t, func(x impl.Works, c int) {
		from := slices.Clone(x.Abstract[c])
		for _, b := range x.Bases[c] {
			from = append(from, impl.AbstractByBases(x, b)...)
		}
		got := impl.AbstractByBases(x, c)
		if !slices.IsSorted(got) || len(slices.Compact(slices.Clone(got))) != len(got) {
			t.Fatalf("AbstractByBases(%v, %d) = %v", x, c, got)
		}
		for _, name := range got {
			if !slices.Contains(from, name) {
				t.Fatalf("AbstractByBases(%v, %d) = %v has %d", x, c, got, name)
			}
			if slices.Contains(x.Abstract[c], name) {
				n["own"]++
			} else {
				n["of a base"]++
			}
		}
		if len(got) < len(union([][]int{from})) {
			n["not all of the bases"]++
		}
	})
	n.need(t, 1000, "own", "of a base", "not all of the bases")
}

func TestPromise77WhoCanBeMadeHasNothingAbstract(t *testing.T) {
	n := tally{}
	forAbstract(t, func(x impl.Works, c int) {
		can := impl.CanMake(x, c)
		if can != (len(impl.AbstractOf(x, c)) == 0) {
			t.Fatalf("CanMake(%v, %d) = %v", x, c, can)
		}
		isAbove := false
		for _, a := range impl.AboveOf(x.Bases, c) {
			isAbove = isAbove || len(x.Abstract[a]) > 0
		}
		switch {
		case !can && !isAbove:
			t.Fatalf("CanMake(%v, %d) = %v without abstract names", x, c, can)
		case !can:
			n["abstract"]++
		case isAbove:
			n["made real"]++
		default:
			n["without names"]++
		}
	})
	n.need(t, 500, "abstract", "made real", "without names")
}

func TestPromise78RegistrationsCanBeLeftOut(t *testing.T) {
	n := tally{}
	forRegs(t, func(bases [][]int, regs []impl.Reg) {
		if !impl.ValidRegs(bases, regs) {
			t.Fatalf("ValidRegs(%v, %v)", bases, regs)
		}
		if len(regs) == impl.MaxRegs {
			n["as many as can be"]++
		}
		for i := range regs {
			n["left out"]++
			if !impl.ValidRegs(bases, without(regs, i)) {
				t.Fatalf("ValidRegs(%v, %v)", bases, without(regs, i))
			}
		}
	})
	n.need(t, 100, "left out", "as many as can be")
}

func TestPromise79AboveIsAboveOn(t *testing.T) {
	n := tally{}
	forRegs(t, func(bases [][]int, regs []impl.Reg) {
		subs := subsByRule(bases, regs)
		for c := range bases {
			got := impl.SupersOf(bases, regs, c)
			var want []int
			for b := range bases {
				if subs[c][b] {
					want = append(want, b)
				}
			}
			if !slices.Equal(got, want) || !slices.Contains(got, c) {
				t.Fatalf("SupersOf(%v, %v, %d) = %v, not %v", bases, regs, c, got, want)
			}
			for _, a := range got {
				if on := impl.SupersOf(bases, regs, a); !isSubsequence(got, on) {
					t.Fatalf("SupersOf(%v, %v, %d) = %v, but of %d it is %v", bases, regs, c, got, a, on)
				}
			}
			above := impl.AboveOf(bases, c)
			if alone := impl.SupersOf(bases, nil, c); !slices.Equal(alone, above) {
				t.Fatalf("SupersOf(%v, nil, %d) = %v", bases, c, alone)
			}
			if len(got) > len(above) {
				n["more than above"]++
			}
		}
	})
	n.need(t, 1000, "more than above")
}

func TestPromise80AskingDownFindsWhatStepsUpFind(t *testing.T) {
	n := tally{}
	forSubs(t, func(bases [][]int, regs []impl.Reg, a, b int, isSub bool) {
		got := impl.IsSub(bases, regs, a, b)
		if got != isSub || got != slices.Contains(impl.SupersOf(bases, regs, a), b) {
			t.Fatalf("IsSub(%v, %v, %d, %d) = %v", bases, regs, a, b, got)
		}
		switch {
		case !got:
			n["no subclass"]++
		case slices.Contains(impl.AboveOf(bases, a), b):
			n["below"]++
		case slices.Contains(regs, reg(a, b)):
			n["registered"]++
		default:
			n["by several steps"]++
		}
	})
	n.need(t, 1000, "no subclass", "below", "registered", "by several steps")
}

// TestPromise80Rings has that asking ends where registrations are rings, and tells all of a ring the same.
func TestPromise80Rings(t *testing.T) {
	n := tally{}
	forSubs(t, func(bases [][]int, regs []impl.Reg, a, b int, isSub bool) {
		if a == b || !isSub || !impl.IsSub(bases, regs, b, a) {
			return
		}
		n["rings"]++
		if !slices.Equal(impl.SupersOf(bases, regs, a), impl.SupersOf(bases, regs, b)) {
			t.Fatalf("%d and %d of %v, %v are not subclasses of the same", a, b, bases, regs)
		}
	})
	n.need(t, 1000, "rings")
}

func TestPromise81RingsAreNotRegistered(t *testing.T) {
	n := tally{}
	forSubs(t, func(bases [][]int, regs []impl.Reg, sub, of int, isSub bool) {
		next, ok := impl.Register(bases, regs, sub, of)
		isRing := impl.IsSub(bases, regs, of, sub)
		switch {
		case isSub:
			n["held before"]++
			if !ok || !slices.Equal(next, regs) {
				t.Fatalf("Register(%v, %v, %d, %d) = %v, %v", bases, regs, sub, of, next, ok)
			}
		case isRing || len(regs) == impl.MaxRegs:
			if isRing {
				n["rings"]++
			} else {
				n["too many"]++
			}
			if ok || next != nil {
				t.Fatalf("Register(%v, %v, %d, %d) = %v, %v", bases, regs, sub, of, next, ok)
			}
		default:
			n["new"]++
			if want := slices.Concat(regs, regsOf(reg(sub, of))); !ok || !slices.Equal(next, want) {
				t.Fatalf("Register(%v, %v, %d, %d) = %v, %v", bases, regs, sub, of, next, ok)
			}
			if !impl.ValidRegs(bases, next) || impl.IsSub(bases, next, of, sub) {
				t.Fatalf("Register(%v, %v, %d, %d) = %v is not valid, or a ring", bases, regs, sub, of, next)
			}
		}
		if ok && !impl.IsSub(bases, next, sub, of) {
			t.Fatalf("Register(%v, %v, %d, %d) = %v is not registered", bases, regs, sub, of, next)
		}
	})
	n.need(t, 500, "held before", "rings", "too many", "new")
}

// TestPromise81WhatHeldBeforeHolds has that just those are new subclasses that are below the one that is registered, of those above the other one.
func TestPromise81WhatHeldBeforeHolds(t *testing.T) {
	n := tally{}
	r := source(65)
	forRegs(t, func(bases [][]int, regs []impl.Reg) {
		sub, of := r.Intn(len(bases)), r.Intn(len(bases))
		next, ok := impl.Register(bases, regs, sub, of)
		if !ok {
			return
		}
		was := subsByRule(bases, regs)
		for a := range bases {
			for b := range bases {
				want := was[a][b] || was[a][sub] && was[of][b]
				if got := impl.IsSub(bases, next, a, b); got != want {
					t.Fatalf("IsSub(%v, %v, %d, %d) = %v after Register(%d, %d)", bases, next, a, b, got, sub, of)
				}
				if want != was[a][b] {
					n["new"]++
				} else if want {
					n["held before"]++
				}
			}
		}
	})
	n.need(t, 500, "new", "held before")
}

func TestPromise82HooksAreFoundBySuper(t *testing.T) {
	n := tally{}
	forFinds(t, func(w impl.World, c, hook int) {
		names, owner := impl.HooksOf(w, c, hook)
		var want []int
		for _, a := range w.Attrs[c] {
			if isFirst(a.Kind) {
				want = append(want, a.Name)
			}
		}
		if !slices.Equal(names, want) {
			t.Fatalf("HooksOf(%v, %d, %d) = %v, not %v", w, c, hook, names, want)
		}
		made := cloneWorld(w)
		made.Objects = []impl.Object{object(c)}
		if by := impl.SuperAttr(made, 0, c, hook); by.Owner != owner {
			t.Fatalf("HooksOf(%v, %d, %d) tells the class %d, and super finds %v", w, c, hook, owner, by)
		}
		switch {
		case len(want) > 1:
			n["several names"]++
		case len(want) == 0:
			n["no names"]++
		}
		switch {
		case owner < 0:
			n["no hook"]++
		case ownAt(w, c, hook) >= 0:
			n["behind an own one"]++
		default:
			n["above"]++
		}
	})
	n.need(t, 500, "several names", "no names", "no hook", "behind an own one", "above")
}
