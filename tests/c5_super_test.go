package tests

import (
	"math"
	"slices"
	"testing"

	"loop.example/objectmodel/impl"
)

// polite returns a diamond whose bodies of the name 0 work together, with a body of the name 1 in class 2 and in the root.
func polite() impl.Script {
	return scriptOf(diamond(),
		bodies(body(0, say(1)), body(1, say(2))),
		bodies(body(0, say(3), up(), say(4))),
		bodies(body(1, up(), say(5)), body(0, say(6), up(), say(7))),
		bodies(body(0, up(), say(8))))
}

func TestValidScripts(t *testing.T) {
	for i, s := range []impl.Script{
		scriptOf([][]int{{}}),
		scriptOf(diamond()),
		scriptOf(line(12)),
		scriptOf(letters()),
		polite(),
		fullScript(),
		{Bases: line(2), Bodies: [][]impl.Body{nil, {}}},
		scriptOf(line(1), bodies(body(0, say(0), say(99), call(0), call(9)), body(9))),
		scriptOf(line(1), bodies(body(1, impl.Act{Kind: impl.AcSuper, Arg: -1}, impl.Act{Kind: impl.AcSuper, Arg: 100}))),
		scriptOf(line(1), bodies(body(1, impl.Act{Kind: impl.AcSuper, Arg: math.MinInt}, impl.Act{Kind: impl.AcSuper, Arg: math.MaxInt}))),
		// A name may be one of several classes, and need not be one of the class that is called.
		scriptOf(line(2), bodies(body(1, up())), bodies(body(1, call(2)), body(3))),
	} {
		if !impl.ValidScript(s) {
			t.Errorf("script %d: ValidScript(%v)", i, s)
		}
	}
}

// brokenScripts returns scripts that are not valid, each for one reason.
func brokenScripts() []impl.Script {
	of := func(c int, list ...impl.Body) impl.Script { return withBodies(polite(), c, list) }
	ofActs := func(list ...impl.Act) impl.Script { return of(3, body(0, list...)) }
	short, long := polite(), polite()
	short.Bodies, long.Bodies = short.Bodies[:3], append(long.Bodies, nil)
	return []impl.Script{
		{},
		{Bases: [][]int{{}}},
		{Bodies: make([][]impl.Body, 1)},
		scriptOf(line(13)),
		scriptOf([][]int{{}, {}}),
		scriptOf([][]int{{}, {1}}),
		scriptOf([][]int{{0}}),
		scriptOf([][]int{{}, {0, 0}}),
		scriptOf(crossed()),
		short,
		long,
		of(1, body(-1)),
		of(1, body(10)),
		of(0, body(0), body(0)),
		of(2, body(0), body(1), body(0, say(1))),
		of(3, body(0), body(1), body(2), body(3), body(4)),
		of(3, body(1), body(2), body(3), body(10)),
		ofActs(say(-1)),
		ofActs(say(100)),
		ofActs(call(-1)),
		ofActs(call(10)),
		ofActs(up(), say(0), call(10)),
		ofActs(impl.Act{Kind: -1}),
		ofActs(impl.Act{Kind: 3}),
		ofActs(say(0), say(0), say(0), say(0), say(0), say(0), say(0)),
		ofActs(up(), up(), up(), up(), up(), up(), up()),
		of(3, body(1, say(1)), body(0, say(100))),
	}
}

func TestScriptsThatAreNotValid(t *testing.T) {
	for i, s := range brokenScripts() {
		if impl.ValidScript(s) {
			t.Errorf("script %d: ValidScript(%v)", i, s)
		}
	}
}

func TestNextAfter(t *testing.T) {
	for _, c := range []struct {
		bases       [][]int
		class, from int
		want        []int
	}{
		// What is behind the class from, from+1 and so on.
		{diamond(), 3, -1, numbers(-1, -1, 2, 0, 1, -1)},
		{diamond(), 2, -1, numbers(-1, -1, -1, 0, -1, -1)},
		{diamond(), 1, -1, numbers(-1, -1, 0, -1, -1, -1)},
		{diamond(), 0, -1, numbers(-1, -1, -1, -1, -1, -1)},
		{diamond(), 4, -1, numbers(-1, -1, -1, -1, -1, -1)},
		{diamond(), -1, -1, numbers(-1, -1, -1, -1, -1, -1)},
		{line(12), 11, 0, numbers(-1, 0, 1, 2, 3, 4, 5, 6, 7, 8, 9, 10)},
		{line(12), 5, 0, numbers(-1, 0, 1, 2, 3, 4, -1, -1)},
		{line(13), 5, 0, numbers(-1, -1, -1, -1, -1, -1)},
		{nil, 0, 0, numbers(-1, -1)},
		// The classes that have an order are told where others have none.
		{crossed(), 4, 0, numbers(-1, 0, 1, -1, 2, -1)},
		{crossed(), 5, 0, numbers(-1, -1, -1, -1, -1, -1, -1)},
		{crossed(), 6, 0, numbers(-1, -1, -1, -1, -1, -1, -1)},
		{[][]int{{}, {0, 0}}, 1, 0, numbers(-1, -1)},
	} {
		for i, want := range c.want {
			if got := impl.NextAfter(c.bases, c.class, c.from+i); got != want {
				t.Errorf("NextAfter(%v, %d, %d) = %d", c.bases, c.class, c.from+i, got)
			}
		}
	}
}

func TestChains(t *testing.T) {
	s := polite()
	for _, c := range []struct {
		class, name int
		want        []int
	}{
		{0, 0, numbers(0)}, {1, 0, numbers(1, 0)}, {2, 0, numbers(2, 0)}, {3, 0, numbers(3, 1, 2, 0)},
		{0, 1, numbers(0)}, {1, 1, numbers(0)}, {2, 1, numbers(2, 0)}, {3, 1, numbers(2, 0)},
		{3, 2, nil}, {3, 9, nil}, {3, -1, nil}, {3, 10, nil}, {4, 0, nil}, {-1, 0, nil},
	} {
		if got := impl.ChainOf(s, c.class, c.name); !slices.Equal(got, c.want) {
			t.Errorf("ChainOf(%d, %d) = %v", c.class, c.name, got)
		}
	}
}

func TestOwnersBehindClasses(t *testing.T) {
	s := polite()
	for _, c := range []struct {
		class, name int
		want        []int
	}{
		// The owners behind the classes 0 up to 4. Super in class 1 finds class 2 for an object of class 3, and the root for one of class 1.
		{3, 0, numbers(-1, 2, 0, 1, -1)},
		{2, 0, numbers(-1, -1, 0, -1, -1)},
		{1, 0, numbers(-1, 0, -1, -1, -1)},
		{0, 0, numbers(-1, -1, -1, -1, -1)},
		// The class behind which super looks need not have a body itself.
		{3, 1, numbers(-1, 2, 0, 2, -1)},
		{1, 1, numbers(-1, 0, -1, -1, -1)},
		{3, 2, numbers(-1, -1, -1, -1, -1)},
		{3, -1, numbers(-1, -1, -1, -1, -1)},
		{3, 10, numbers(-1, -1, -1, -1, -1)},
		{4, 0, numbers(-1, -1, -1, -1, -1)},
	} {
		for behind, want := range c.want {
			if got := impl.OwnerAfter(s, c.class, behind, c.name); got != want {
				t.Errorf("OwnerAfter(%d, %d, %d) = %d", c.class, behind, c.name, got)
			}
		}
	}
}

// checkRun checks a run of a call against what is said, its end, and what is left.
func checkRun(t *testing.T, s impl.Script, c, name, fuel int, want impl.Run) {
	t.Helper()
	if got := impl.RunCall(s, c, name, fuel); !equalRuns(got, want) {
		t.Errorf("RunCall(%v, %d, %d, %d) = %v, not %v", s, c, name, fuel, got, want)
	}
}

// checkRuns checks the run of a call with each fuel from 0 on. Those with all but the greatest fuels end for want of it,
// and the least with which one does not ends with end.
func checkRuns(t *testing.T, s impl.Script, c, name, end int, want ...[]impl.Said) {
	t.Helper()
	least := len(want) - 1
	for fuel, list := range want[:least] {
		checkRun(t, s, c, name, fuel, impl.Run{Said: list, End: impl.RuFuel})
	}
	for _, left := range numbers(0, 1, 2, impl.MaxFuel-least) {
		checkRun(t, s, c, name, least+left, impl.Run{Said: want[least], End: end, Left: left})
	}
	if got := impl.LeastFuel(s, c, name); got != least {
		t.Errorf("LeastFuel(%v, %d, %d) = %d", s, c, name, got)
	}
}

func TestCallsOfDiamonds(t *testing.T) {
	s := polite()
	all := said(1, 3, 2, 6, 0, 1, 2, 7, 1, 4, 3, 8)
	checkRuns(t, s, 3, 0, impl.RuDone, nil, nil, all[:1], all[:1], all[:2], all[:2], all[:3], all[:4], all[:5], all)
	checkRuns(t, s, 2, 0, impl.RuDone, nil, said(2, 6), said(2, 6), said(2, 6, 0, 1), said(2, 6, 0, 1, 2, 7))
	checkRuns(t, s, 1, 0, impl.RuDone, nil, said(1, 3), said(1, 3), said(1, 3, 0, 1), said(1, 3, 0, 1, 1, 4))
	checkRuns(t, s, 0, 0, impl.RuDone, nil, said(0, 1))
	// Class 1, which has no body of this name, is not asked.
	checkRuns(t, s, 3, 1, impl.RuDone, nil, nil, said(0, 2), said(0, 2, 2, 5))
}

// TestCallsByHand has a diamond in which class 1 runs the next body twice, so that all behind it speak twice.
func TestCallsByHand(t *testing.T) {
	s := polite()
	s.Bodies[1] = bodies(body(0, up(), say(50), up()))
	twice := said(2, 6, 0, 1, 2, 7, 1, 50, 2, 6, 0, 1, 2, 7, 3, 8)
	checkRun(t, s, 3, 0, impl.MaxFuel, impl.Run{Said: twice, Left: impl.MaxFuel - 13})
	checkRun(t, s, 1, 0, impl.MaxFuel, impl.Run{Said: said(0, 1, 1, 50, 0, 1), Left: impl.MaxFuel - 5})
	if impl.LeastFuel(s, 3, 0) != 13 || impl.IsPolite(s, 3, 0) || impl.PoliteSays(s, 3, 0) != nil {
		t.Error("bodies that run the next one twice work together")
	}
}

func TestSuperWithoutANextBody(t *testing.T) {
	// In the last class of the order, which is the root.
	s := scriptOf(diamond(), bodies(body(0, say(1), up(), say(2))))
	for c := range s.Bases {
		checkRuns(t, s, c, 0, impl.RuNone, nil, said(0, 1), said(0, 1))
	}
	// In the last class that has a body, behind which others have bodies of other names.
	s = scriptOf(diamond(), bodies(body(1, say(1))), bodies(body(0, up(), say(2))), bodies(body(1, say(3))), bodies(body(0, say(4), up(), say(5))))
	checkRuns(t, s, 3, 0, impl.RuNone, nil, said(3, 4), said(3, 4), said(3, 4))
	checkRuns(t, s, 1, 0, impl.RuNone, nil, nil)
	// An object of class 3 has a next body behind class 1, and one of class 1 has none.
	s = scriptOf(diamond(), nil, bodies(body(0, up(), say(1))), bodies(body(0, say(2))))
	checkRuns(t, s, 3, 0, impl.RuDone, nil, nil, said(2, 2), said(2, 2, 1, 1))
	checkRuns(t, s, 1, 0, impl.RuNone, nil, nil)
}

// TestAllEndsAtOnceWithoutABody has that no body that waits goes on, however many wait.
func TestAllEndsAtOnceWithoutABody(t *testing.T) {
	for _, last := range []impl.Act{up(), call(7)} {
		s := scriptOf(line(3), bodies(body(0, say(1), last, say(2))), bodies(body(0, up(), say(3))), bodies(body(0, up(), say(4)), body(5, call(0), say(6))))
		checkRuns(t, s, 2, 0, impl.RuNone, nil, nil, nil, said(0, 1), said(0, 1))
		checkRuns(t, s, 2, 5, impl.RuNone, nil, nil, nil, nil, said(0, 1), said(0, 1))
	}
}

func TestFuelThatJustIsEnough(t *testing.T) {
	s := scriptOf(line(2), bodies(body(0, say(3), call(1), say(4))), bodies(body(0, say(1), up(), say(2)), body(1, say(5))))
	all := said(1, 1, 0, 3, 1, 5, 0, 4, 1, 2)
	checkRuns(t, s, 1, 0, impl.RuDone, nil, all[:1], all[:1], all[:2], all[:2], all[:3], all[:4], all)
	checkRuns(t, s, 1, 1, impl.RuDone, nil, all[2:3])
	// The root has no body of the name 1.
	checkRuns(t, s, 0, 0, impl.RuNone, nil, all[1:2], all[1:2])
}

func TestCallsThatNeedNoFuel(t *testing.T) {
	s := scriptOf(line(2), bodies(body(0)), bodies(body(1), body(2, up()), body(3, call(1))))
	checkRuns(t, s, 0, 0, impl.RuDone, nil)
	checkRuns(t, s, 1, 0, impl.RuDone, nil)
	checkRuns(t, s, 1, 1, impl.RuDone, nil)
	checkRuns(t, s, 1, 2, impl.RuNone, nil, nil)
	checkRuns(t, s, 1, 3, impl.RuDone, nil, nil)
	// Names without a body, also those that no body can have.
	for _, name := range append(odd(), 1, 4, 9, 10) {
		checkRuns(t, s, 0, name, impl.RuNone, nil)
	}
}

// longScript returns a script with a call of the last class that does 199 acts and so many more as are given.
func longScript(more int) impl.Script {
	const name = 4
	s := scriptOf(line(5),
		bodies(body(name, say(0), say(1), say(2), say(3), say(4))),
		bodies(body(name, up(), up(), up(), up(), up(), say(5))),
		bodies(body(name, up(), up(), up(), up(), up(), up())),
		bodies(body(name, say(6), say(7), up(), say(8), say(9), say(10))),
		bodies(body(name, up())))
	for i := range more {
		s.Bodies[4][0].Acts = append(s.Bodies[4][0].Acts, say(11+i))
	}
	return s
}

func TestRunsAtTheLimitOfFuel(t *testing.T) {
	for more := range 5 {
		s := longScript(more)
		want := runByRule(s, 4, 4, 1000)
		if done := 1000 - want.Left; done != 199+more || want.End != impl.RuDone {
			t.Fatalf("%d acts are done", done)
		}
		got, least := impl.RunCall(s, 4, 4, impl.MaxFuel), impl.LeastFuel(s, 4, 4)
		if more > 1 {
			// What is said last needs fuel that there may not be.
			want = impl.Run{Said: want.Said[:len(want.Said)-more+1], End: impl.RuFuel}
			if least != -1 || !equalRuns(got, want) {
				t.Errorf("LeastFuel is %d, and RunCall %v, not %v", least, got, want)
			}
			continue
		}
		want.Left = 1 - more
		if least != 199+more || !equalRuns(got, want) {
			t.Errorf("LeastFuel is %d, and RunCall %v, not %v", least, got, want)
		}
	}
}

func TestRunsWithoutEnd(t *testing.T) {
	s := scriptOf(line(2),
		bodies(body(0, call(0)), body(1, say(1), call(1)), body(2, call(3)), body(3, call(2))),
		bodies(body(4, call(4), up()), body(5, up(), call(0)), body(1, say(2), up())))
	for _, name := range numbers(0, 2, 3, 4) {
		checkRun(t, s, 1, name, impl.MaxFuel, impl.Run{End: impl.RuFuel})
		if got := impl.LeastFuel(s, 1, name); got != -1 {
			t.Errorf("LeastFuel(1, %d) = %d", name, got)
		}
	}
	checkRuns(t, s, 1, 5, impl.RuNone, nil, nil)
	// Each round is begun by class 1 again, since a call begins at the beginning of the order.
	checkRun(t, s, 1, 1, 9, impl.Run{Said: said(1, 2, 0, 1, 1, 2, 0, 1, 1, 2), End: impl.RuFuel})
	checkRun(t, s, 0, 1, 5, impl.Run{Said: said(0, 1, 0, 1, 0, 1), End: impl.RuFuel})
}

func TestCallsOfOtherNames(t *testing.T) {
	s := scriptOf(diamond(),
		bodies(body(0, say(1), call(1), say(2)), body(1, say(3)), body(2, say(4))),
		bodies(body(1, say(5), up(), say(6))),
		bodies(body(0, call(2), up(), call(2)), body(2, say(7), up())),
		bodies(body(3, call(0), say(8), call(1))))
	one := said(1, 5, 0, 3, 1, 6)
	two := said(2, 7, 0, 4)
	zero := slices.Concat(two, said(0, 1), one, said(0, 2), two)
	// The body of the root is behind class 1, but what it calls begins with class 1 again.
	checkRun(t, s, 3, 1, 9, impl.Run{Said: one, Left: 9 - 4})
	checkRun(t, s, 3, 2, 9, impl.Run{Said: two, Left: 9 - 3})
	checkRun(t, s, 3, 0, 99, impl.Run{Said: zero, Left: 99 - 16})
	checkRun(t, s, 3, 3, 99, impl.Run{Said: slices.Concat(zero, said(3, 8), one), Left: 99 - 23})
	// For an object of class 2 there is no class 1, and for one of class 1 no class 2.
	checkRun(t, s, 2, 0, 99, impl.Run{Said: slices.Concat(two, said(0, 1, 0, 3, 0, 2), two), Left: 99 - 13})
	checkRun(t, s, 1, 0, 99, impl.Run{Said: slices.Concat(said(0, 1), one, said(0, 2)), Left: 99 - 7})
	checkRun(t, s, 1, 3, 99, impl.Run{End: impl.RuNone, Left: 99})
	for name, want := range []bool{false, true, true, false} {
		if impl.IsPolite(s, 3, name) != want {
			t.Errorf("IsPolite(3, %d) is not %v", name, want)
		}
	}
}

// TestSuperGoesOnBehindACall has that a body goes on with its own name and its own class after it called another name.
func TestSuperGoesOnBehindACall(t *testing.T) {
	s := scriptOf(line(3),
		bodies(body(0, say(1)), body(1, say(2))),
		bodies(body(0, say(3), call(1), up(), say(4)), body(1, up(), say(5))),
		bodies(body(0, up(), say(6)), body(1, say(7), up(), up())))
	one := said(2, 7, 0, 2, 1, 5, 0, 2, 1, 5)
	checkRun(t, s, 2, 1, impl.MaxFuel, impl.Run{Said: one, Left: impl.MaxFuel - 9})
	checkRun(t, s, 2, 0, impl.MaxFuel, impl.Run{Said: slices.Concat(said(1, 3), one, said(0, 1, 1, 4, 2, 6)), Left: impl.MaxFuel - 16})
}

func TestBodiesThatWorkTogether(t *testing.T) {
	one := func(list ...impl.Act) []impl.Body { return bodies(body(3, list...)) }
	for i, c := range []struct {
		s    impl.Script
		ok   bool
		want []impl.Said
	}{
		{scriptOf(line(3), one(say(1))), true, said(0, 1)},
		{scriptOf(line(3), one()), true, nil},
		{scriptOf(line(3), nil, nil, one(say(1), say(2))), true, said(2, 1, 2, 2)},
		{scriptOf(line(3), one(), nil, one(up())), true, nil},
		{scriptOf(line(3), one(say(1), say(2)), one(say(3), up()), one(up(), say(4), say(5))), true, said(1, 3, 0, 1, 0, 2, 2, 4, 2, 5)},
		{scriptOf(line(3), one(say(1)), one(say(2), say(3), up(), say(4), say(5)), one(say(6), up(), say(7))), true, said(2, 6, 1, 2, 1, 3, 0, 1, 1, 4, 1, 5, 2, 7)},
		{scriptOf(line(3), one(say(1)), nil, bodies(body(2, call(3)), body(3, up()))), true, said(0, 1)},
		{scriptOf(line(3)), false, nil},
		{scriptOf(line(3), bodies(body(2, say(1)))), false, nil},
		{scriptOf(line(3), one(up())), false, nil},
		{scriptOf(line(3), one(say(1)), nil, one(say(2))), false, nil},
		{scriptOf(line(3), one(say(1)), one(say(3)), one(up())), false, nil},
		{scriptOf(line(3), one(say(1)), nil, one()), false, nil},
		{scriptOf(line(3), one(say(1)), nil, one(up(), up())), false, nil},
		{scriptOf(line(3), one(say(1), up()), nil, one(up())), false, nil},
		{scriptOf(line(3), one(call(2)), nil, one(up())), false, nil},
		{scriptOf(line(3), one(call(3)), nil, nil), false, nil},
		{scriptOf(line(3), bodies(body(3, say(1)), body(2, say(2))), nil, one(up(), call(2))), false, nil},
		{scriptOf(line(3), one(say(1)), nil, one(call(3))), false, nil},
		{scriptOf(line(2), one(say(1))), false, nil},
	} {
		ok, got := impl.IsPolite(c.s, 2, 3), impl.PoliteSays(c.s, 2, 3)
		if ok != c.ok || !slices.Equal(got, c.want) {
			t.Errorf("script %d: IsPolite = %v, and PoliteSays = %v", i, ok, got)
		}
	}
}

func TestBodiesThatAreDropped(t *testing.T) {
	s := fullScript()
	for c, list := range s.Bodies {
		for name := range impl.MaxName + 1 {
			got := impl.DropBody(s, c, name)
			i := bodyAt(s, c, name)
			switch {
			case i < 0 && !isZeroScript(got):
				t.Errorf("DropBody(%d, %d) = %v", c, name, got)
			case i >= 0 && !equalScripts(got, withBodies(s, c, without(list, i))):
				t.Errorf("DropBody(%d, %d) = %v", c, name, got)
			}
		}
	}
}

func TestSuperOfEachKind(t *testing.T) {
	w := sixKinds()
	for _, c := range []struct {
		name        int
		all, behind impl.Found
	}{
		{impl.AtPlain, found(impl.FoClass, 1, 10, -1), nothing()},
		{impl.AtMethod, found(impl.FoBound, 0, 11, 0), found(impl.FoBound, 0, 11, 0)},
		{impl.AtData, found(impl.FoData, 1, 12, 0), nothing()},
		{impl.AtFixed, found(impl.FoData, 0, 13, 0), found(impl.FoData, 0, 13, 0)},
		{impl.AtOfClass, found(impl.FoBound, 1, 14, 3), nothing()},
		{impl.AtStatic, found(impl.FoClass, 0, 15, -1), found(impl.FoClass, 0, 15, -1)},
		{6, nothing(), nothing()},
		{-1, nothing(), nothing()},
		{10, nothing(), nothing()},
	} {
		// Behind the classes 0 up to 4, for an object that has a pair of each name.
		for behind, want := range []impl.Found{nothing(), c.behind, c.behind, c.all, nothing()} {
			if got := impl.SuperAttr(w, 0, behind, c.name); got != want {
				t.Errorf("SuperAttr(0, %d, %d) = %v, not %v", behind, c.name, got, want)
			}
		}
		// An object of class 2 has no class 1 in its order, and none behind a class that is not in it.
		own := c.behind
		if own.Self == 0 {
			own.Self = 1
		}
		for behind, want := range []impl.Found{nothing(), nothing(), own, nothing(), nothing()} {
			if got := impl.SuperAttr(w, 1, behind, c.name); got != want {
				t.Errorf("SuperAttr(1, %d, %d) = %v, not %v", behind, c.name, got, want)
			}
		}
	}
}

// TestSuperOfClassesFarAbove has that what is found is bound to the class of the object, and not to the one behind which super looks.
func TestSuperOfClassesFarAbove(t *testing.T) {
	w := worldOf(line(5), object(4), object(3, 7, 70))
	w.Attrs[0] = attrs(attr(7, impl.AtPlain, 5))
	w.Attrs[1] = attrs(attr(8, impl.AtFixed, 9), attr(7, impl.AtOfClass, 6))
	w.Attrs[3] = attrs(attr(7, impl.AtData, 8))
	for behind, want := range []impl.Found{nothing(), found(impl.FoClass, 0, 5, -1), found(impl.FoBound, 1, 6, 4), found(impl.FoBound, 1, 6, 4), found(impl.FoData, 3, 8, 0)} {
		if got := impl.SuperAttr(w, 0, behind, 7); got != want {
			t.Errorf("SuperAttr(0, %d, 7) = %v", behind, got)
		}
	}
	for behind, want := range []impl.Found{nothing(), found(impl.FoClass, 0, 5, -1), found(impl.FoBound, 1, 6, 3), found(impl.FoBound, 1, 6, 3), nothing()} {
		if got := impl.SuperAttr(w, 1, behind, 7); got != want {
			t.Errorf("SuperAttr(1, %d, 7) = %v", behind, got)
		}
	}
}
