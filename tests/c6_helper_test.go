package tests

import (
	"math/rand"
	"slices"
	"testing"

	"loop.example/objectmodel/impl"
)

// reg is short for a registration.
func reg(sub, of int) impl.Reg {
	return impl.Reg{Sub: sub, Of: of}
}

// regsOf returns a list of registrations.
func regsOf(list ...impl.Reg) []impl.Reg {
	return list
}

// apart returns bases of metaclasses: a root, two that are apart, two below both, and one below all.
func apart() [][]int {
	return [][]int{{}, {0}, {0}, {1, 2}, {2, 1}, {4, 3}}
}

// noBases returns bases that are not valid, each for one reason.
func noBases() [][][]int {
	return [][][]int{
		nil,
		{},
		line(13),
		{{0}},
		{{}, {}},
		{{}, {1}},
		{{}, {2}, {0}},
		{{}, {-1}},
		{{}, {0, 0}},
		{{}, {0}, {0, 1, 0}},
		append(dense(5), numbers(4, 3, 2, 1, 0)),
	}
}

// worksOf returns works of bases without names.
func worksOf(bases [][]int) impl.Works {
	return impl.Works{Bases: bases, Abstract: make([][]int, len(bases)), Real: make([][]int, len(bases))}
}

// cloneWorks returns works that share nothing with the given ones.
func cloneWorks(x impl.Works) impl.Works {
	return impl.Works{Bases: cloneLists(x.Bases), Abstract: cloneLists(x.Abstract), Real: cloneLists(x.Real)}
}

// withNames returns works in which a class has other names, abstract and real.
func withNames(x impl.Works, c int, abstract, real []int) impl.Works {
	out := cloneWorks(x)
	out.Abstract[c], out.Real[c] = abstract, real
	return out
}

// equalWorks reports whether two works are equal; nil and empty lists are.
func equalWorks(a, b impl.Works) bool {
	return equalLists(a.Bases, b.Bases) && equalLists(a.Abstract, b.Abstract) && equalLists(a.Real, b.Real)
}

// winnerByRule returns the metaclass of a list from which steps lead to all others, -1 if there is none; the last one that is found.
func winnerByRule(metas [][]int, list []int) int {
	winner := -1
	for _, m := range list {
		below := 0
		for _, other := range list {
			if isAboveClass(metas, m, other) {
				below++
			}
		}
		if below == len(list) {
			winner = m
		}
	}
	return winner
}

// metaByRule returns the metaclass of one class, by those of its bases, which are found anew.
func metaByRule(bases, metas [][]int, given []int, c int) int {
	list := numbers(given[c])
	for _, b := range bases[c] {
		m := metaByRule(bases, metas, given, b)
		if m < 0 {
			return -1
		}
		list = append(list, m)
	}
	return winnerByRule(metas, list)
}

// abstractByRule returns the names that are abstract in a class: from the end of the order, as the last class that is met has them.
func abstractByRule(x impl.Works, c int) []int {
	var isAbstract [impl.MaxName + 1]bool
	order, _ := impl.OrderOf(x.Bases, c)
	for _, class := range slices.Backward(order) {
		for _, name := range x.Abstract[class] {
			isAbstract[name] = true
		}
		for _, name := range x.Real[class] {
			isAbstract[name] = false
		}
	}
	var names []int
	for name, is := range isAbstract {
		if is {
			names = append(names, name)
		}
	}
	return names
}

// subsByRule tells for all pairs of classes whether the first one is a subclass of the second one: by joining two that hold until nothing is new.
func subsByRule(bases [][]int, regs []impl.Reg) [impl.MaxClasses][impl.MaxClasses]bool {
	var subs [impl.MaxClasses][impl.MaxClasses]bool
	for c, list := range bases {
		subs[c][c] = true
		for _, b := range list {
			subs[c][b] = true
		}
	}
	for _, r := range regs {
		subs[r.Sub][r.Of] = true
	}
	for m := range bases {
		for a := range bases {
			for b := range bases {
				subs[a][b] = subs[a][b] || subs[a][m] && subs[m][b]
			}
		}
	}
	return subs
}

// repeats returns all lists of some of the numbers below n, which may be equal, with a length.
func repeats(n, length int) [][]int {
	out := [][]int{nil}
	for range length {
		var longer [][]int
		for _, list := range out {
			for i := range n {
				longer = append(longer, append(slices.Clone(list), i))
			}
		}
		out = longer
	}
	return out
}

// randomFrom returns a list of numbers below n, which may be equal.
func randomFrom(r *rand.Rand, n, length int) []int {
	var list []int
	for range length {
		list = append(list, r.Intn(n))
	}
	return list
}

// forMetas calls a function for many lists of metaclasses: all short ones of small bases, and longer ones made by a fixed rule.
func forMetas(t *testing.T, visit func(metas [][]int, list []int)) {
	t.Helper()
	allBases([][]int{{}}, 4, func(metas [][]int) {
		for length := 1; length <= 4; length++ {
			for _, list := range repeats(len(metas), length) {
				visit(metas, list)
			}
		}
	})
	for _, list := range repeats(6, impl.MaxBases+1) {
		visit(apart(), list)
	}
	r := source(60)
	for range 6000 {
		metas := randomBases(r, impl.MaxClasses)
		visit(metas, randomFrom(r, len(metas), 1+r.Intn(impl.MaxBases+1)))
	}
}

// forMakes calls a function for many classes that are made by metaclasses: all small ones, and larger ones made by a fixed rule.
func forMakes(t *testing.T, visit func(bases, metas [][]int, given []int)) {
	t.Helper()
	allBases([][]int{{}}, 4, func(bases [][]int) {
		for _, metas := range [][][]int{diamond(), line(3), {{}, {0}, {0}}, {{}, {0}, {1}, {1}}} {
			for _, given := range repeats(len(metas), len(bases)) {
				visit(bases, metas, given)
			}
		}
	})
	r := source(61)
	forBases(t, func(bases [][]int) {
		metas := [][][]int{apart(), line(impl.MaxClasses), dense(impl.MaxClasses), randomBases(r, impl.MaxClasses)}[r.Intn(4)]
		visit(bases, metas, randomFrom(r, 1+r.Intn(len(metas)), len(bases)))
	})
}

// randomNames returns abstract and real names of one class, all different.
func randomNames(r *rand.Rand, names int) ([]int, []int) {
	some := r.Perm(names)[:min(names, r.Intn(names+3))]
	cut := r.Intn(len(some) + 1)
	return some[:cut:cut], some[cut:]
}

// randomWorks returns valid works: of few or many classes and names.
func randomWorks(r *rand.Rand) impl.Works {
	x := worksOf(randomOrdered(r, impl.MaxClasses))
	names, one := 1+r.Intn(impl.MaxName+1), 1+r.Intn(3)
	for c := range x.Bases {
		if r.Intn(one) == 0 {
			x.Abstract[c], x.Real[c] = randomNames(r, names)
		}
	}
	return x
}

// patternWorks calls a function for all works of bases in which each class from c on has a name as an abstract one, as a real one, or not.
func patternWorks(x impl.Works, c, name int, visit func(impl.Works)) {
	if c == len(x.Bases) {
		visit(x)
		return
	}
	patternWorks(x, c+1, name, visit)
	patternWorks(withNames(x, c, numbers(name), nil), c+1, name, visit)
	patternWorks(withNames(x, c, nil, numbers(name)), c+1, name, visit)
}

// forWorks calls a function for many valid works: all patterns of one name of small bases, and larger ones made by a fixed rule.
func forWorks(t *testing.T, visit func(x impl.Works)) {
	t.Helper()
	r := source(62)
	allBases([][]int{{}}, 5, func(bases [][]int) {
		if !impl.AllOrders(bases) || len(bases) == 5 && r.Intn(20) > 0 {
			return
		}
		patternWorks(worksOf(bases), 0, 7, visit)
	})
	for range 2000 {
		visit(randomWorks(r))
	}
}

// forAbstract calls a function for each class of the works of forWorks.
func forAbstract(t *testing.T, visit func(x impl.Works, c int)) {
	t.Helper()
	forWorks(t, func(x impl.Works) {
		for c := range x.Bases {
			visit(x, c)
		}
	})
}

// allRegs calls a function for all lists of at most some registrations of as many classes, behind the given ones.
func allRegs(classes int, regs []impl.Reg, most int, visit func([]impl.Reg)) {
	visit(regs)
	if len(regs) == most {
		return
	}
	for sub := range classes {
		for of := range classes {
			allRegs(classes, append(slices.Clone(regs), reg(sub, of)), most, visit)
		}
	}
}

// randomRegs returns at most MaxRegs registrations of as many classes, which may be rings.
func randomRegs(r *rand.Rand, classes int) []impl.Reg {
	var regs []impl.Reg
	for range r.Intn(impl.MaxRegs + 1) {
		regs = append(regs, reg(r.Intn(classes), r.Intn(classes)))
	}
	return regs
}

// registered returns registrations that were made one after the other, and so are no rings, as many of some random ones as can be.
func registered(r *rand.Rand, bases [][]int) []impl.Reg {
	var regs []impl.Reg
	for range r.Intn(30) {
		if next, ok := impl.Register(bases, regs, r.Intn(len(bases)), r.Intn(len(bases))); ok {
			regs = next
		}
	}
	return regs
}

// forRegs calls a function for many valid registrations: all short lists of small bases, and longer ones made by a fixed rule.
func forRegs(t *testing.T, visit func(bases [][]int, regs []impl.Reg)) {
	t.Helper()
	r := source(63)
	allBases([][]int{{}}, 4, func(bases [][]int) {
		allRegs(len(bases), nil, 2, func(regs []impl.Reg) {
			if len(bases) < 4 || r.Intn(4) == 0 {
				visit(bases, regs)
			}
		})
	})
	for range 500 {
		few, many := randomBases(r, 6), randomBases(r, impl.MaxClasses)
		visit(few, randomRegs(r, len(few)))
		visit(many, randomRegs(r, len(many)))
		visit(many, registered(r, many))
	}
	for range 300 {
		bases := flat(r, impl.MaxClasses)
		visit(bases, registered(r, bases))
	}
}

// flat returns valid bases of which most classes have the root as their only base, so that there is room for registrations.
func flat(r *rand.Rand, classes int) [][]int {
	bases := [][]int{{}}
	for c := 1; c < classes; c++ {
		b := 0
		if r.Intn(3) == 0 {
			b = r.Intn(c)
		}
		bases = append(bases, numbers(b))
	}
	return bases
}

// forSubs calls a function for all pairs of classes of the registrations of forRegs, and whether the first one is a subclass of the second one.
func forSubs(t *testing.T, visit func(bases [][]int, regs []impl.Reg, a, b int, isSub bool)) {
	t.Helper()
	forRegs(t, func(bases [][]int, regs []impl.Reg) {
		subs := subsByRule(bases, regs)
		for a := range bases {
			for b := range bases {
				visit(bases, regs, a, b, subs[a][b])
			}
		}
	})
}
