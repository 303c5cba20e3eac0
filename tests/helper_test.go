package tests

import (
	"math"
	"math/rand"
	"slices"
)

// numbers returns a list, so that expected lists are short to write.
func numbers(n ...int) []int {
	return n
}

// countTo returns 0 up to n-1.
func countTo(n int) []int {
	var list []int
	for i := range n {
		list = append(list, i)
	}
	return list
}

// equalLists reports whether two lists of lists are equal; nil and empty are.
func equalLists(a, b [][]int) bool {
	return slices.EqualFunc(a, b, func(x, y []int) bool { return slices.Equal(x, y) })
}

// cloneLists returns lists that share nothing with the given ones.
func cloneLists(lists [][]int) [][]int {
	var out [][]int
	for _, list := range lists {
		out = append(out, append([]int{}, list...))
	}
	return out
}

// without returns a list without what is at one place.
func without[T any](list []T, i int) []T {
	return slices.Concat(list[:i], list[i+1:])
}

// isSubsequence reports whether all of short is in long in the same order.
// It looks places up, unlike the program, so that both are not wrong in the same way.
func isSubsequence(long, short []int) bool {
	last := -1
	for _, x := range short {
		i := slices.Index(long, x)
		if i <= last {
			return false
		}
		last = i
	}
	return true
}

// arrangements returns all orders of all of the numbers.
func arrangements(list []int) [][]int {
	if len(list) == 0 {
		return [][]int{nil}
	}
	var out [][]int
	for i, x := range list {
		for _, rest := range arrangements(without(list, i)) {
			out = append(out, append([]int{x}, rest...))
		}
	}
	return out
}

// choices returns all lists of different ones of the numbers, at least and at most some of them.
func choices(list []int, least, most int) [][]int {
	var out [][]int
	if least <= 0 {
		out = append(out, nil)
	}
	if most == 0 {
		return out
	}
	for i, x := range list {
		for _, rest := range choices(without(list, i), least-1, most-1) {
			out = append(out, append([]int{x}, rest...))
		}
	}
	return out
}

// shortLists calls a function for all lists that begin with the given one, and then have some of the kinds, up to a length.
func shortLists[T any](kinds, list []T, most int, visit func([]T)) {
	visit(list)
	if len(list) == most {
		return
	}
	for _, x := range kinds {
		shortLists(kinds, append(slices.Clone(list), x), most, visit)
	}
}

// union returns all numbers of lists, each once, ascending.
func union(lists [][]int) []int {
	all := slices.Concat(lists...)
	slices.Sort(all)
	return slices.Compact(all)
}

// odd returns numbers that are seldom valid.
func odd() []int {
	return numbers(-1, math.MinInt, math.MaxInt, 12, 13, 1<<32)
}

// source returns random numbers that are the same in each run.
func source(seed int64) *rand.Rand {
	return rand.New(rand.NewSource(seed))
}
