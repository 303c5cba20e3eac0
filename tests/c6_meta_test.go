package tests

import (
	"slices"
	"testing"

	"loop.example/objectmodel/impl"
)

func TestWinners(t *testing.T) {
	for _, c := range []struct {
		metas  [][]int
		list   []int
		winner int
	}{
		{line(1), numbers(0), 0},
		{line(1), numbers(0, 0, 0, 0, 0), 0},
		{line(3), numbers(0, 1, 2), 2},
		{line(3), numbers(2, 0, 1), 2},
		{line(3), numbers(1, 2, 0), 2},
		{line(12), numbers(3, 11, 0, 7, 5), 11},
		{line(12), numbers(11), 11},
		{diamond(), numbers(1, 2), -1},
		{diamond(), numbers(2, 1), -1},
		{diamond(), numbers(2, 2), 2},
		{diamond(), numbers(1, 0, 1), 1},
		// Two that are apart do not matter if another one is below both.
		{diamond(), numbers(1, 2, 3), 3},
		{diamond(), numbers(3, 1, 2), 3},
		{diamond(), numbers(1, 3, 2), 3},
		{diamond(), numbers(1, 2, 0), -1},
		{apart(), numbers(3, 4), -1},
		{apart(), numbers(1, 2, 3, 4), -1},
		{apart(), numbers(1, 2, 3, 4, 5), 5},
		{apart(), numbers(3, 2, 1, 0, 0), 3},
		// Metaclasses need no order.
		{crossed(), numbers(5, 6), 6},
		{crossed(), numbers(3, 4, 5), 5},
		{crossed(), numbers(3, 4), -1},
	} {
		if got := impl.MetaWinner(c.metas, c.list); got != c.winner {
			t.Errorf("MetaWinner(%v, %v) = %d, not %d", c.metas, c.list, got, c.winner)
		}
	}
}

func TestListsWithoutWinner(t *testing.T) {
	for _, list := range [][]int{nil, {}, {0, 0, 0, 0, 0, 0}, {0, 1, 2, 3, 3, 3}, {3, 3, 3, 3, 3, 3, 3}, {4}, {3, 4}, {4, 3}, {-1}, {3, -1}, {-1, 3}, {3, 3, 3, 3, -1}} {
		if got := impl.MetaWinner(diamond(), list); got != -1 {
			t.Errorf("MetaWinner(%v) = %d", list, got)
		}
	}
	for _, n := range odd() {
		for _, list := range [][]int{{n}, {n, n}, {3, n}, {n, 3}} {
			if got := impl.MetaWinner(diamond(), list); got != -1 {
				t.Errorf("MetaWinner(%v) = %d", list, got)
			}
		}
	}
	for _, metas := range noBases() {
		for _, list := range [][]int{{0}, {0, 0}, {1}, {0, 1}} {
			if got := impl.MetaWinner(metas, list); got != -1 {
				t.Errorf("MetaWinner(%v, %v) = %d", metas, list, got)
			}
		}
	}
}

func TestMetaclassesOfClasses(t *testing.T) {
	for _, c := range []struct {
		bases, metas [][]int
		given, want  []int
	}{
		{line(1), line(1), numbers(0), numbers(0)},
		{line(1), diamond(), numbers(3), numbers(3)},
		{line(4), line(4), numbers(0, 1, 2, 3), numbers(0, 1, 2, 3)},
		{line(4), line(4), numbers(1, 0, 3, 2), numbers(1, 1, 3, 3)},
		{line(4), line(1), numbers(0, 0, 0, 0), numbers(0, 0, 0, 0)},
		{line(4), diamond(), numbers(0, 1, 0, 3), numbers(0, 1, 1, 3)},
		// The one that is given goes together with those of the bases, not with those that were given for them.
		{line(4), diamond(), numbers(0, 3, 1, 2), numbers(0, 3, 3, 3)},
		// A class has none if one of its bases has none, even if the one that is given is below all.
		{line(4), diamond(), numbers(1, 2, 3, 3), numbers(1, -1, -1, -1)},
		{diamond(), diamond(), numbers(0, 1, 2, 0), numbers(0, 1, 2, -1)},
		{diamond(), diamond(), numbers(0, 1, 2, 1), numbers(0, 1, 2, -1)},
		{diamond(), diamond(), numbers(0, 1, 2, 3), numbers(0, 1, 2, 3)},
		{diamond(), diamond(), numbers(1, 2, 0, 3), numbers(1, -1, 1, -1)},
		{diamond(), diamond(), numbers(1, 0, 2, 3), numbers(1, 1, -1, -1)},
		// A class beside one that has none has its own.
		{[][]int{{}, {0}, {0}, {2}}, diamond(), numbers(1, 2, 3, 0), numbers(1, -1, 3, 3)},
		// Classes need no order.
		{crossed(), line(3), numbers(0, 1, 0, 0, 2, 0, 0), numbers(0, 1, 0, 1, 2, 2, 2)},
		{dense(5), apart(), numbers(0, 1, 3, 5, 2), numbers(0, 1, 3, 5, 5)},
		{[][]int{{}, {0}, {0}, {0}, {0}, {1, 2, 3, 4}}, apart(), numbers(0, 1, 2, 3, 4, 5), numbers(0, 1, 2, 3, 4, 5)},
		{[][]int{{}, {0}, {0}, {0}, {0}, {1, 2, 3, 4}}, apart(), numbers(0, 1, 2, 3, 4, 3), numbers(0, 1, 2, 3, 4, -1)},
	} {
		if got := impl.MetasOf(c.bases, c.metas, c.given); !slices.Equal(got, c.want) {
			t.Errorf("MetasOf(%v, %v, %v) = %v, not %v", c.bases, c.metas, c.given, got, c.want)
		}
	}
}

func TestClassesWithoutMetaclasses(t *testing.T) {
	for _, given := range [][]int{nil, {}, {0}, {0, 0, 0}, {0, 0, 0, 0, 0}, {-1, 0, 0, 0}, {0, 0, 0, -1}, {0, 4, 0, 0}} {
		if got := impl.MetasOf(diamond(), diamond(), given); got != nil {
			t.Errorf("MetasOf(%v) = %v", given, got)
		}
	}
	for _, n := range odd() {
		if got := impl.MetasOf(diamond(), diamond(), numbers(0, n, 0, 0)); got != nil {
			t.Errorf("MetasOf with %d = %v", n, got)
		}
	}
	for _, bases := range noBases() {
		given := make([]int, len(bases))
		if impl.MetasOf(bases, diamond(), given) != nil || impl.MetasOf(diamond(), bases, make([]int, 4)) != nil {
			t.Errorf("MetasOf takes %v", bases)
		}
	}
}

// halfReal returns works of a diamond in which the root has two abstract names, each of which is made real on one side.
func halfReal() impl.Works {
	x := withNames(worksOf(diamond()), 0, numbers(2, 1), nil)
	return withNames(withNames(x, 1, nil, numbers(1)), 2, nil, numbers(2))
}

func TestValidWorks(t *testing.T) {
	all := countTo(10)
	for i, x := range []impl.Works{
		worksOf(line(1)),
		worksOf(line(12)),
		worksOf(letters()),
		halfReal(),
		withNames(worksOf(line(1)), 0, all, nil),
		withNames(worksOf(line(1)), 0, nil, all),
		withNames(worksOf(line(1)), 0, all[5:], all[:5]),
		withNames(withNames(worksOf(line(2)), 0, all, nil), 1, all, nil),
		withNames(withNames(worksOf(line(2)), 0, all, nil), 1, nil, all),
		withNames(worksOf(diamond()), 3, numbers(9, 0, 4), numbers(5, 1)),
	} {
		if !impl.ValidWorks(x) {
			t.Errorf("works %d: ValidWorks(%v)", i, x)
		}
	}
}

// brokenWorks returns works that are not valid, each for one reason.
func brokenWorks() []impl.Works {
	of := func(c int, abstract, real []int) impl.Works { return withNames(halfReal(), c, abstract, real) }
	list := []impl.Works{
		{},
		{Bases: [][]int{{}}},
		{Bases: [][]int{{}}, Abstract: [][]int{{}}},
		{Bases: [][]int{{}}, Real: [][]int{{}}},
		{Abstract: [][]int{{}}, Real: [][]int{{}}},
		{Bases: line(2), Abstract: make([][]int, 1), Real: make([][]int, 2)},
		{Bases: line(2), Abstract: make([][]int, 2), Real: make([][]int, 1)},
		{Bases: line(2), Abstract: make([][]int, 3), Real: make([][]int, 2)},
		{Bases: line(2), Abstract: make([][]int, 2), Real: make([][]int, 3)},
		{Bases: line(2), Abstract: make([][]int, 3), Real: make([][]int, 1)},
		worksOf(crossed()),
		of(1, numbers(-1), nil),
		of(1, numbers(10), nil),
		of(1, nil, numbers(-1)),
		of(1, nil, numbers(10)),
		of(3, numbers(1, 2, 10), nil),
		of(0, numbers(3, 3), nil),
		of(0, nil, numbers(3, 3)),
		of(2, numbers(3, 4, 3), nil),
		of(2, nil, numbers(4, 3, 5, 3)),
		of(3, numbers(1), numbers(1)),
		of(3, numbers(1, 2), numbers(3, 2)),
		of(0, append(countTo(10), 0), nil),
		of(0, nil, append(countTo(10), 9)),
		of(0, countTo(10), numbers(5)),
		of(0, countTo(6), numbers(5, 6, 7, 8, 9)),
		of(0, countTo(11), nil),
	}
	for _, bases := range noBases() {
		list = append(list, worksOf(bases))
	}
	for _, n := range odd() {
		list = append(list, of(2, numbers(n), nil), of(2, nil, numbers(1, n)))
	}
	return list
}

func TestWorksThatAreNotValid(t *testing.T) {
	for i, x := range brokenWorks() {
		if impl.ValidWorks(x) {
			t.Errorf("works %d: ValidWorks(%v)", i, x)
		}
	}
}

// abstractCase is works with the names that are abstract in each class.
type abstractCase struct {
	works impl.Works
	want  [][]int
}

// check checks all functions that tell what is abstract in a class.
func (c abstractCase) check(t *testing.T) {
	t.Helper()
	for class, want := range c.want {
		if got := impl.AbstractOf(c.works, class); !slices.Equal(got, want) {
			t.Errorf("AbstractOf(%v, %d) = %v, not %v", c.works, class, got, want)
		}
		if got := impl.AbstractByBases(c.works, class); !slices.Equal(got, want) {
			t.Errorf("AbstractByBases(%v, %d) = %v, not %v", c.works, class, got, want)
		}
		if got := impl.CanMake(c.works, class); got != (len(want) == 0) {
			t.Errorf("CanMake(%v, %d) = %v", c.works, class, got)
		}
	}
}

func TestAbstractNames(t *testing.T) {
	crossing := func(list ...int) impl.Works {
		return withNames(withNames(withNames(worksOf([][]int{{}, {0}, {0}, list}), 0, numbers(5), nil), 1, nil, numbers(5)), 2, numbers(5), nil)
	}
	all := countTo(10)
	reversed := slices.Clone(all)
	slices.Reverse(reversed)
	deep := withNames(withNames(worksOf(line(12)), 0, reversed, nil), 6, nil, numbers(0, 9, 4))
	for _, c := range []abstractCase{
		{worksOf(line(2)), [][]int{{}, {}}},
		{withNames(worksOf(line(3)), 0, numbers(9, 0), nil), [][]int{{0, 9}, {0, 9}, {0, 9}}},
		{withNames(worksOf(line(3)), 1, numbers(3), nil), [][]int{{}, {3}, {3}}},
		{withNames(worksOf(line(3)), 0, nil, numbers(3)), [][]int{{}, {}, {}}},
		{withNames(withNames(worksOf(line(3)), 0, nil, numbers(3)), 1, numbers(3), nil), [][]int{{}, {3}, {3}}},
		{withNames(withNames(withNames(worksOf(line(3)), 0, numbers(3), nil), 1, nil, numbers(3)), 2, numbers(3), nil), [][]int{{3}, {}, {3}}},
		// What is made real on either side is real below both, in whatever order these are.
		{halfReal(), [][]int{{1, 2}, {2}, {1}, {}}},
		{withNames(halfReal(), 3, numbers(2, 1), nil), [][]int{{1, 2}, {2}, {1}, {1, 2}}},
		{withNames(halfReal(), 1, numbers(1), nil), [][]int{{1, 2}, {1, 2}, {1}, {1}}},
		{withNames(halfReal(), 2, nil, nil), [][]int{{1, 2}, {2}, {1, 2}, {2}}},
		// Where one side has it abstract again, the side that comes first counts.
		{crossing(1, 2), [][]int{{5}, {}, {5}, {}}},
		{crossing(2, 1), [][]int{{5}, {}, {5}, {5}}},
		{crossing(1), [][]int{{5}, {}, {5}, {}}},
		{crossing(2, 0), [][]int{{5}, {}, {5}, {5}}},
		{withNames(worksOf(line(1)), 0, reversed, nil), [][]int{all}},
		{deep, [][]int{all, all, all, all, all, all, {1, 2, 3, 5, 6, 7, 8}, {1, 2, 3, 5, 6, 7, 8}}},
	} {
		c.check(t)
	}
}

func TestAbstractNamesAreAscending(t *testing.T) {
	x := withNames(withNames(withNames(worksOf(diamond()), 0, numbers(6, 3), nil), 1, numbers(8, 0), nil), 2, numbers(9, 3, 1), nil)
	x = withNames(x, 3, numbers(7, 2, 8), numbers(0))
	abstractCase{x, [][]int{{3, 6}, {0, 3, 6, 8}, {1, 3, 6, 9}, {1, 2, 3, 6, 7, 8, 9}}}.check(t)
}

func TestValidRegs(t *testing.T) {
	for _, regs := range [][]impl.Reg{
		nil,
		{},
		regsOf(reg(0, 0)),
		regsOf(reg(3, 3), reg(3, 3)),
		regsOf(reg(0, 3), reg(3, 0)),
		regsOf(reg(1, 2), reg(2, 1)),
		slices.Repeat(regsOf(reg(1, 2)), 8),
	} {
		if !impl.ValidRegs(diamond(), regs) || !impl.ValidRegs(line(12), regs) || !impl.ValidRegs(crossed(), regs) {
			t.Errorf("ValidRegs(%v)", regs)
		}
	}
	if !impl.ValidRegs(line(1), regsOf(reg(0, 0))) || !impl.ValidRegs(line(12), regsOf(reg(11, 0), reg(0, 11))) {
		t.Error("ValidRegs of the last class")
	}
}

// brokenRegs returns registrations that are not valid for a diamond, each for one reason.
func brokenRegs() [][]impl.Reg {
	list := [][]impl.Reg{
		slices.Repeat(regsOf(reg(1, 2)), 9),
		slices.Repeat(regsOf(reg(0, 0)), 100),
		regsOf(reg(4, 0)),
		regsOf(reg(0, 4)),
		regsOf(reg(-1, 0)),
		regsOf(reg(0, -1)),
		regsOf(reg(1, 2), reg(1, 4)),
		regsOf(reg(4, 1), reg(1, 2)),
	}
	for _, n := range odd() {
		list = append(list, regsOf(reg(n, 1)), regsOf(reg(1, 2), reg(1, n)))
	}
	return list
}

func TestRegsThatAreNotValid(t *testing.T) {
	for _, regs := range brokenRegs() {
		if impl.ValidRegs(diamond(), regs) {
			t.Errorf("ValidRegs(%v)", regs)
		}
	}
	for _, bases := range noBases() {
		if impl.ValidRegs(bases, nil) || impl.ValidRegs(bases, regsOf(reg(0, 0))) {
			t.Errorf("ValidRegs takes %v", bases)
		}
	}
}

// twigs returns bases with three branches: 1 with 4 and 5 below it, 2 with 6 below it, and 3.
func twigs() [][]int {
	return [][]int{{}, {0}, {0}, {0}, {1}, {4}, {2}}
}

// supersCase is registrations with what some classes are subclasses of.
type supersCase struct {
	bases [][]int
	regs  []impl.Reg
	c     int
	want  []int
}

// check checks SupersOf, and IsSub for all classes.
func (s supersCase) check(t *testing.T) {
	t.Helper()
	if got := impl.SupersOf(s.bases, s.regs, s.c); !slices.Equal(got, s.want) {
		t.Errorf("SupersOf(%v, %v, %d) = %v, not %v", s.bases, s.regs, s.c, got, s.want)
	}
	for b := range s.bases {
		if got := impl.IsSub(s.bases, s.regs, s.c, b); got != slices.Contains(s.want, b) {
			t.Errorf("IsSub(%v, %v, %d, %d) = %v", s.bases, s.regs, s.c, b, got)
		}
	}
}

func TestVirtualSubclasses(t *testing.T) {
	ring := regsOf(reg(1, 2), reg(2, 3), reg(3, 1))
	for _, s := range []supersCase{
		{line(1), nil, 0, numbers(0)},
		{line(1), regsOf(reg(0, 0)), 0, numbers(0)},
		{twigs(), nil, 5, numbers(0, 1, 4, 5)},
		{twigs(), regsOf(reg(3, 5)), 3, numbers(0, 1, 3, 4, 5)},
		{twigs(), regsOf(reg(3, 5)), 5, numbers(0, 1, 4, 5)},
		// A class below one that is registered is a subclass too, and a class above it is not.
		{twigs(), regsOf(reg(2, 4)), 6, numbers(0, 1, 2, 4, 6)},
		{twigs(), regsOf(reg(6, 4)), 2, numbers(0, 2)},
		// One step leads on to the next, in whatever order they were registered.
		{twigs(), regsOf(reg(3, 2), reg(2, 1)), 3, numbers(0, 1, 2, 3)},
		{twigs(), regsOf(reg(2, 1), reg(3, 2)), 3, numbers(0, 1, 2, 3)},
		{twigs(), regsOf(reg(2, 5), reg(3, 6)), 3, numbers(0, 1, 2, 3, 4, 5, 6)},
		// The root may be registered by hand, and then all are subclasses.
		{twigs(), regsOf(reg(0, 5)), 0, numbers(0, 1, 4, 5)},
		{twigs(), regsOf(reg(0, 5)), 6, numbers(0, 1, 2, 4, 5, 6)},
		{twigs(), ring, 1, numbers(0, 1, 2, 3)},
		{twigs(), ring, 3, numbers(0, 1, 2, 3)},
		{twigs(), ring, 6, numbers(0, 1, 2, 3, 6)},
		{twigs(), ring, 5, numbers(0, 1, 2, 3, 4, 5)},
		{twigs(), regsOf(reg(1, 5), reg(3, 3)), 4, numbers(0, 1, 4, 5)},
		{twigs(), regsOf(reg(1, 5), reg(3, 3)), 3, numbers(0, 3)},
		{diamond(), regsOf(reg(1, 2), reg(2, 1)), 1, numbers(0, 1, 2)},
		{crossed(), regsOf(reg(1, 6)), 2, numbers(0, 2)},
		{crossed(), regsOf(reg(1, 6)), 1, numbers(0, 1, 2, 3, 4, 5, 6)},
		{line(12), nil, 11, countTo(12)},
		{line(12), regsOf(reg(3, 11)), 0, numbers(0)},
		{line(12), regsOf(reg(3, 11)), 3, countTo(12)},
	} {
		s.check(t)
	}
}

func TestRegistering(t *testing.T) {
	chain := regsOf(reg(2, 4), reg(3, 6))
	nine := [][]int{{}, {0}, {0}, {0}, {0}, {0}, {0}, {0}, {0}, {0}, {0}}
	var full []impl.Reg
	for c := 1; c <= 8; c++ {
		full = append(full, reg(c, c+1))
	}
	for _, c := range []struct {
		bases   [][]int
		regs    []impl.Reg
		sub, of int
		want    []impl.Reg
		ok      bool
	}{
		{twigs(), nil, 3, 5, regsOf(reg(3, 5)), true},
		{twigs(), chain, 5, 3, regsOf(reg(2, 4), reg(3, 6), reg(5, 3)), true},
		{twigs(), chain, 3, 5, regsOf(reg(2, 4), reg(3, 6), reg(3, 5)), true},
		// What holds already is not registered again: by bases, by registrations, or because it is the class itself.
		{twigs(), nil, 5, 1, nil, true},
		{twigs(), nil, 5, 0, nil, true},
		{twigs(), nil, 3, 3, nil, true},
		{twigs(), chain, 3, 4, chain, true},
		{twigs(), chain, 6, 1, chain, true},
		{twigs(), chain, 2, 4, chain, true},
		// A class above another one is not registered as one of it, which would be a ring: the root never is.
		{twigs(), nil, 1, 5, nil, false},
		{twigs(), nil, 0, 3, nil, false},
		{twigs(), chain, 4, 3, nil, false},
		{twigs(), chain, 1, 6, nil, false},
		// In a ring that is there all holds already.
		{diamond(), regsOf(reg(1, 2), reg(2, 1)), 1, 2, regsOf(reg(1, 2), reg(2, 1)), true},
		{diamond(), regsOf(reg(1, 2), reg(2, 1)), 2, 1, regsOf(reg(1, 2), reg(2, 1)), true},
		{diamond(), regsOf(reg(0, 3)), 0, 2, regsOf(reg(0, 3)), true},
		{nine, full[:7], 8, 9, full, true},
		{nine, full, 9, 10, nil, false},
		{nine, full, 10, 1, nil, false},
		{nine, full, 1, 9, full, true},
		{nine, full, 10, 10, full, true},
		{nine, full, 9, 1, nil, false},
	} {
		got, ok := impl.Register(c.bases, c.regs, c.sub, c.of)
		if ok != c.ok || !slices.Equal(got, c.want) {
			t.Errorf("Register(%v, %v, %d, %d) = %v, %v, not %v, %v", c.bases, c.regs, c.sub, c.of, got, ok, c.want, c.ok)
		}
	}
}

// hooked returns a world of a diamond whose classes have hooks of the name 0, and descriptors.
func hooked() impl.World {
	w := worldOf(diamond(), object(3))
	w.Attrs[0] = attrs(attr(0, impl.AtPlain, 1), attr(8, impl.AtData, 2))
	w.Attrs[2] = attrs(attr(5, impl.AtData, 3), attr(0, impl.AtOfClass, 4), attr(2, impl.AtFixed, 5), attr(7, impl.AtMethod, 6), attr(3, impl.AtData, 7))
	w.Attrs[3] = attrs(attr(9, impl.AtFixed, 8), attr(1, impl.AtPlain, 9), attr(4, impl.AtStatic, 9), attr(0, impl.AtData, 9))
	return w
}

func TestHooks(t *testing.T) {
	for _, c := range []struct {
		w       impl.World
		c, hook int
		names   []int
		owner   int
	}{
		{hooked(), 0, 0, numbers(8), -1},
		{hooked(), 1, 0, nil, 0},
		{hooked(), 2, 0, numbers(5, 2, 3), 0},
		// The hook of the class itself is not run, even if it has one.
		{hooked(), 3, 0, numbers(9, 0), 2},
		{hooked(), 3, 9, numbers(9, 0), -1},
		{hooked(), 3, 8, numbers(9, 0), 0},
		{hooked(), 3, 5, numbers(9, 0), 2},
		{hooked(), 2, 8, numbers(5, 2, 3), 0},
		{hooked(), 0, 8, numbers(8), -1},
		{hooked(), 1, 6, nil, -1},
		{sixKinds(), 3, 2, nil, 1},
		{sixKinds(), 1, 2, numbers(2), -1},
		{sixKinds(), 0, 3, numbers(3), -1},
		{fullWorld(), 3, 9, numbers(2, 3, 6), 1},
		{worldOf(line(1)), 0, 0, nil, -1},
		// A name that no class can have is one without a hook.
		{hooked(), 2, -1, numbers(5, 2, 3), -1},
		{hooked(), 3, 10, numbers(9, 0), -1},
	} {
		names, owner := impl.HooksOf(c.w, c.c, c.hook)
		if !slices.Equal(names, c.names) || owner != c.owner {
			t.Errorf("HooksOf(%v, %d, %d) = %v, %d, not %v, %d", c.w, c.c, c.hook, names, owner, c.names, c.owner)
		}
	}
}
