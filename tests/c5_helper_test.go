package tests

import (
	"math/rand"
	"slices"
	"testing"

	"loop.example/objectmodel/impl"
)

// say returns an act that says a value.
func say(value int) impl.Act {
	return impl.Act{Kind: impl.AcSay, Arg: value}
}

// up returns an act that runs the next body of the same name.
func up() impl.Act {
	return impl.Act{Kind: impl.AcSuper}
}

// call returns an act that runs the first body of a name.
func call(name int) impl.Act {
	return impl.Act{Kind: impl.AcCall, Arg: name}
}

// acts returns a list of acts.
func acts(list ...impl.Act) []impl.Act {
	return list
}

// body returns a body with a name and acts.
func body(name int, list ...impl.Act) impl.Body {
	return impl.Body{Name: name, Acts: list}
}

// bodies returns a list of bodies.
func bodies(list ...impl.Body) []impl.Body {
	return list
}

// said returns what was said, by classes and values in turn.
func said(n ...int) []impl.Said {
	var list []impl.Said
	for pair := range slices.Chunk(n, 2) {
		list = append(list, impl.Said{Class: pair[0], Value: pair[1]})
	}
	return list
}

// scriptOf returns a script of bases with the bodies of each class, from the root on; the classes that are left have none.
func scriptOf(bases [][]int, lists ...[]impl.Body) impl.Script {
	return impl.Script{Bases: bases, Bodies: append(lists, make([][]impl.Body, len(bases)-len(lists))...)}
}

// cloneScript returns a script that shares nothing with the given one.
func cloneScript(s impl.Script) impl.Script {
	out := impl.Script{Bases: cloneLists(s.Bases)}
	for _, list := range s.Bodies {
		var copies []impl.Body
		for _, b := range list {
			copies = append(copies, body(b.Name, slices.Clone(b.Acts)...))
		}
		out.Bodies = append(out.Bodies, copies)
	}
	return out
}

// withBodies returns a script in which a class has other bodies.
func withBodies(s impl.Script, c int, list []impl.Body) impl.Script {
	out := cloneScript(s)
	out.Bodies[c] = list
	return out
}

// equalScripts reports whether two scripts are equal; nil and empty lists are.
func equalScripts(a, b impl.Script) bool {
	sameBody := func(x, y impl.Body) bool { return x.Name == y.Name && slices.Equal(x.Acts, y.Acts) }
	sameList := func(x, y []impl.Body) bool { return slices.EqualFunc(x, y, sameBody) }
	return equalLists(a.Bases, b.Bases) && slices.EqualFunc(a.Bodies, b.Bodies, sameList)
}

// isZeroScript reports whether a script is the zero value, of which all lists are nil.
func isZeroScript(s impl.Script) bool {
	return s.Bases == nil && s.Bodies == nil
}

// equalRuns reports whether two runs are equal; nothing said may be nil or empty.
func equalRuns(a, b impl.Run) bool {
	return slices.Equal(a.Said, b.Said) && a.End == b.End && a.Left == b.Left
}

// isZeroRun reports whether a run is the zero value.
func isZeroRun(r impl.Run) bool {
	return r.Said == nil && r.End == 0 && r.Left == 0
}

// bodyAt returns the place of the body of a class with a name, -1 if there is none.
func bodyAt(s impl.Script, c, name int) int {
	return slices.IndexFunc(s.Bodies[c], func(b impl.Body) bool { return b.Name == name })
}

// orderOfScript returns the order of a class of a valid script.
func orderOfScript(s impl.Script, c int) []int {
	order, _ := impl.OrderOf(s.Bases, c)
	return order
}

// chainByRule returns all classes in the order of a class that have a body: those of the order less the others.
func chainByRule(s impl.Script, c, name int) []int {
	return slices.DeleteFunc(orderOfScript(s, c), func(o int) bool { return bodyAt(s, o, name) < 0 })
}

// play is a run by recursion.
type play struct {
	s     impl.Script
	order []int
	run   impl.Run
}

// from plays the first body of a name from a place of the order on, and reports whether the run goes on behind it.
func (p *play) from(place, name int) bool {
	if place >= len(p.order) {
		p.run.End = impl.RuNone
		return false
	}
	class := p.order[place]
	i := bodyAt(p.s, class, name)
	if i < 0 {
		return p.from(place+1, name)
	}
	for _, a := range p.s.Bodies[class][i].Acts {
		if p.run.Left == 0 {
			p.run.End = impl.RuFuel
			return false
		}
		p.run.Left--
		switch {
		case a.Kind == impl.AcSay:
			p.run.Said = append(p.run.Said, said(class, a.Arg)...)
		case a.Kind == impl.AcSuper && !p.from(place+1, name), a.Kind == impl.AcCall && !p.from(0, a.Arg):
			return false
		}
	}
	return true
}

// runByRule returns the run of a call by recursion.
func runByRule(s impl.Script, c, name, fuel int) impl.Run {
	p := &play{s: s, order: orderOfScript(s, c), run: impl.Run{Left: fuel}}
	p.from(0, name)
	return p.run
}

// leastByTrying returns the least fuel with which a call does not end for want of it, by trying all.
func leastByTrying(s impl.Script, c, name int) int {
	for fuel := range impl.MaxFuel + 1 {
		if runByRule(s, c, name, fuel).End != impl.RuFuel {
			return fuel
		}
	}
	return -1
}

// kindsOf returns the kinds of all acts of the body of a class with a name.
func kindsOf(s impl.Script, c, name int) []int {
	var list []int
	for _, a := range s.Bodies[c][bodyAt(s, c, name)].Acts {
		list = append(list, a.Kind)
	}
	return list
}

// isPoliteByRule reports whether bodies work together, by the sorted kinds of their acts: those that say, and then one AcSuper at most.
func isPoliteByRule(s impl.Script, c, name int) bool {
	chain := chainByRule(s, c, name)
	for i, o := range chain {
		list := slices.Sorted(slices.Values(kindsOf(s, o, name)))
		if i < len(chain)-1 {
			if len(list) == 0 || list[len(list)-1] != impl.AcSuper {
				return false
			}
			list = list[:len(list)-1]
		}
		if len(list) > 0 && list[len(list)-1] != impl.AcSay {
			return false
		}
	}
	return len(chain) > 0
}

// politeActs returns acts of a body that works together with the next one, or, for the last one, says at most.
func politeActs(r *rand.Rand, isLast bool) []impl.Act {
	var list []impl.Act
	for range r.Intn(impl.MaxActs) {
		list = append(list, say(r.Intn(impl.MaxValue+1)))
	}
	if isLast {
		return list
	}
	return slices.Insert(list, r.Intn(len(list)+1), up())
}

// wildActs returns any valid acts, which call some names, or one more that has no body.
func wildActs(r *rand.Rand, names int) []impl.Act {
	var list []impl.Act
	for range r.Intn(impl.MaxActs + 1) {
		some := acts(say(r.Intn(impl.MaxValue+1)), up(), up(), call(r.Intn(min(names+1, impl.MaxName+1))))
		list = append(list, some[r.Intn(len(some))])
	}
	return list
}

// randomBodies returns valid bodies of a class, of some names; those that work together with others are as seldom as one in some.
func randomBodies(r *rand.Rand, names, one int, isLast bool) []impl.Body {
	var list []impl.Body
	for _, name := range r.Perm(names)[:r.Intn(min(names, impl.MaxBodies)+1)] {
		if r.Intn(one) == 0 {
			list = append(list, body(name, politeActs(r, isLast)...))
		} else {
			list = append(list, body(name, wildActs(r, names)...))
		}
	}
	return list
}

// randomScript returns a valid script: of few or many classes and names, of bodies all or some of which work together.
func randomScript(r *rand.Rand) impl.Script {
	s := scriptOf(randomOrdered(r, impl.MaxClasses))
	names, one := 1+r.Intn(impl.MaxName+1), 1+r.Intn(3)
	for c := range s.Bases {
		s.Bodies[c] = randomBodies(r, names, one, c == 0)
	}
	return s
}

// fullScript returns a script of a diamond in which the last class has as many bodies as it may have, each with as many acts.
func fullScript() impl.Script {
	return scriptOf(diamond(),
		bodies(body(9, say(0)), body(0)),
		bodies(body(9, say(1), up(), say(99))),
		bodies(body(9, up()), body(1, say(2))),
		bodies(
			body(9, say(3), say(4), say(5), up(), say(6), say(7)),
			body(0, up(), up(), up(), up(), up(), up()),
			body(1, call(9), call(0), up(), call(9), say(8), call(1)),
			body(8, say(9), say(10), say(11), say(12), say(13), say(14)),
		))
}

// patternActs returns some acts for a body of a class: those that work together with others, and those that do not.
func patternActs(c int) [][]impl.Act {
	return [][]impl.Act{
		{}, {say(10 + c)}, {up()}, {say(20 + c), up(), say(30 + c)}, {up(), say(40 + c), up()},
		{say(50 + c), call(5)}, {call(4), up(), say(60 + c)}, {say(70 + c), call(6), up()},
	}
}

// patternBase returns a script of bases in which the root and the last class have a body of the name 4, and none has any other one.
func patternBase(bases [][]int) impl.Script {
	s := scriptOf(bases, bodies(body(4, say(90))))
	if last := len(bases) - 1; last > 0 {
		s.Bodies[last] = bodies(body(4, say(91), up()))
	}
	return s
}

// withPattern returns a script in which a class has one more body, of the name 5.
func withPattern(s impl.Script, c int, list []impl.Act) impl.Script {
	return withBodies(s, c, append(bodies(body(5, list...)), s.Bodies[c]...))
}

// patternScripts calls a function for all scripts in which each class, from c on, has no body of the name 5, or one with acts of patternActs.
func patternScripts(s impl.Script, c int, visit func(impl.Script)) {
	if c == len(s.Bases) {
		visit(s)
		return
	}
	patternScripts(s, c+1, visit)
	for _, list := range patternActs(c) {
		patternScripts(withPattern(s, c, list), c+1, visit)
	}
}

// randomPattern returns one of the scripts of patternScripts, of which every other class works together with others.
func randomPattern(r *rand.Rand, bases [][]int) impl.Script {
	s := patternBase(bases)
	for c := range bases {
		list := patternActs(c)
		if r.Intn(2) == 0 {
			list = list[1+min(c, 1) : 4]
		}
		if i := r.Intn(len(list) + 1); i < len(list) {
			s = withPattern(s, c, list[i])
		}
	}
	return s
}

// forScripts calls a function for many valid scripts, each with names that matter in it: all patterns of small bases,
// some of larger ones, and others made by a fixed rule.
func forScripts(t *testing.T, visit func(s impl.Script, names []int)) {
	t.Helper()
	r := source(50)
	allBases([][]int{{}}, 4, func(bases [][]int) {
		if !impl.AllOrders(bases) {
			return
		}
		if len(bases) < 4 {
			patternScripts(patternBase(bases), 0, func(s impl.Script) { visit(s, numbers(5, 4)) })
			return
		}
		for range 30 {
			visit(randomPattern(r, bases), numbers(5, 4))
		}
	})
	all := countTo(impl.MaxName + 1)
	visit(fullScript(), all)
	for range 400 {
		visit(randomScript(r), all)
	}
}

// forCalls calls a function for each class of the scripts of forScripts, with each name.
func forCalls(t *testing.T, visit func(s impl.Script, c, name int)) {
	t.Helper()
	forScripts(t, func(s impl.Script, names []int) {
		for c := range s.Bases {
			for _, name := range names {
				visit(s, c, name)
			}
		}
	})
}

// forPolite calls a function for each call of forCalls whose bodies work together.
func forPolite(t *testing.T, visit func(s impl.Script, c, name int)) {
	t.Helper()
	forCalls(t, func(s impl.Script, c, name int) {
		if impl.IsPolite(s, c, name) {
			visit(s, c, name)
		}
	})
}

// forDrops calls a function for each body of the scripts of forScripts, and the script without it.
func forDrops(t *testing.T, visit func(s impl.Script, c, name int, next impl.Script)) {
	t.Helper()
	forScripts(t, func(s impl.Script, _ []int) {
		for c, list := range s.Bodies {
			for _, b := range list {
				visit(s, c, b.Name, impl.DropBody(s, c, b.Name))
			}
		}
	})
}
