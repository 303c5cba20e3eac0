package tests

import (
	"math/rand"
	"slices"
	"testing"

	"loop.example/objectmodel/impl"
)

// diamond returns the bases of a root, two classes, and one below both.
func diamond() [][]int {
	return [][]int{{}, {0}, {0}, {1, 2}}
}

// line returns bases of some classes, each with the one before it as its only base.
func line(classes int) [][]int {
	bases := [][]int{{}}
	for c := 1; c < classes; c++ {
		bases = append(bases, numbers(c-1))
	}
	return bases
}

// dense returns bases of some classes, each with as many of those before it as it may have, the last one first.
func dense(classes int) [][]int {
	bases := [][]int{{}}
	for c := 1; c < classes; c++ {
		var list []int
		for b := c - 1; b >= 0 && len(list) < impl.MaxBases; b-- {
			list = append(list, b)
		}
		bases = append(bases, list)
	}
	return bases
}

// crossed returns bases of which the last two classes have no order: 5 is below two classes that tell 1 and 2 in different orders.
func crossed() [][]int {
	return [][]int{{}, {0}, {0}, {1, 2}, {2, 1}, {3, 4}, {5}}
}

// letters returns the bases of an example that is told often: O, A to E, K1 to K3, and Z.
func letters() [][]int {
	return [][]int{{}, {0}, {0}, {0}, {0}, {0}, {3, 1, 2}, {2, 4, 5}, {1, 4}, {6, 8, 7}}
}

// randomBases returns valid bases of at most some classes.
func randomBases(r *rand.Rand, most int) [][]int {
	bases := [][]int{{}}
	last := r.Intn(most)
	for c := 1; c <= last; c++ {
		n := 1 + r.Intn(min(c, impl.MaxBases))
		bases = append(bases, r.Perm(c)[:n])
	}
	return bases
}

// randomOrdered returns valid bases of at most some classes, each of which has an order.
func randomOrdered(r *rand.Rand, most int) [][]int {
	bases := [][]int{{}}
	for range r.Intn(most) {
		n := 1 + r.Intn(min(len(bases), impl.MaxBases))
		longer := append(slices.Clone(bases), r.Perm(len(bases))[:n])
		if impl.AllOrders(longer) {
			bases = longer
		}
	}
	return bases
}

// allBases calls a function for all valid bases of at most some classes.
func allBases(bases [][]int, most int, visit func([][]int)) {
	visit(bases)
	if len(bases) == most {
		return
	}
	for _, list := range choices(countTo(len(bases)), 1, impl.MaxBases) {
		allBases(append(slices.Clone(bases), list), most, visit)
	}
}

// forBases calls a function for all small valid bases, for the fixed ones, and for some larger ones.
func forBases(t *testing.T, visit func([][]int)) {
	t.Helper()
	allBases([][]int{{}}, 5, visit)
	for n := 1; n <= impl.MaxClasses; n++ {
		visit(line(n))
		visit(dense(n))
	}
	visit(crossed())
	visit(letters())
	r := source(1)
	for range 400 {
		visit(randomBases(r, impl.MaxClasses))
		visit(randomOrdered(r, impl.MaxClasses))
	}
}

// forClasses calls a function for each class of the bases of forBases.
func forClasses(t *testing.T, visit func([][]int, int)) {
	t.Helper()
	forBases(t, func(bases [][]int) {
		for c := range bases {
			visit(bases, c)
		}
	})
}

// forWalks calls a function for each class of the bases of forBases from which a walk goes.
func forWalks(t *testing.T, visit func([][]int, int)) {
	t.Helper()
	forClasses(t, func(bases [][]int, c int) {
		if c <= impl.MaxWalk {
			visit(bases, c)
		}
	})
}

// randomLists returns at most MaxLists lists of different ones of some numbers.
// Half of them are parts of one order, so that many have a merge.
func randomLists(r *rand.Rand, kinds int) [][]int {
	var lists [][]int
	whole := r.Perm(kinds)
	ordered := r.Intn(2) == 0
	for range r.Intn(impl.MaxLists + 1) {
		list := r.Perm(kinds)
		if ordered {
			list = slices.Clone(whole)
		}
		for len(list) > 0 && r.Intn(3) > 0 {
			list = without(list, r.Intn(len(list)))
		}
		lists = append(lists, list)
	}
	return lists
}

// forLists calls a function for many lists that can be merged: all of three short ones, and some of more and longer ones.
func forLists(t *testing.T, visit func([][]int)) {
	t.Helper()
	visit(nil)
	small := choices(numbers(1, 2, 3), 0, 3)
	for _, a := range small {
		visit([][]int{a})
		for _, b := range small {
			visit([][]int{a, b})
			for _, c := range small {
				visit([][]int{a, b, c})
			}
		}
	}
	r := source(2)
	for i := range 3000 {
		visit(randomLists(r, 1+i%impl.MaxClasses))
	}
}

// isAboveClass reports whether steps lead from the class c to the class a, by trying all of them.
func isAboveClass(bases [][]int, c, a int) bool {
	for _, b := range bases[c] {
		if isAboveClass(bases, b, a) {
			return true
		}
	}
	return a == c
}

// comesBeforeAbove reports whether each class of a list is before all classes above it.
func comesBeforeAbove(bases [][]int, list []int) bool {
	for i, c := range list {
		for _, a := range list[:i] {
			if a != c && isAboveClass(bases, c, a) {
				return false
			}
		}
	}
	return true
}

// sameNumbers reports whether two lists have the same numbers, each once.
func sameNumbers(a, b []int) bool {
	a, b = slices.Sorted(slices.Values(a)), slices.Sorted(slices.Values(b))
	return slices.Equal(a, b) && len(slices.Compact(a)) == len(b)
}

// countByTrying counts the orders in which all lists are kept, by trying all orders.
func countByTrying(lists [][]int) int {
	count := 0
	for _, order := range arrangements(union(lists)) {
		kept := true
		for _, list := range lists {
			kept = kept && isSubsequence(order, list)
		}
		if kept {
			count++
		}
	}
	return count
}
