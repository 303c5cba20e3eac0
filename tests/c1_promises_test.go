package tests

import (
	"slices"
	"testing"

	"loop.example/objectmodel/impl"
)

func TestPromise01LateClassesCanBeLeftOut(t *testing.T) {
	forBases(t, func(bases [][]int) {
		for n := range len(bases) + 1 {
			if impl.ValidBases(bases[:n]) != (n > 0) {
				t.Fatalf("ValidBases(%v)", bases[:n])
			}
		}
	})
}

func TestPromise02MergesKeepAllLists(t *testing.T) {
	forLists(t, func(lists [][]int) {
		merged, ok := impl.MergeLists(lists)
		if !ok {
			return
		}
		if !sameNumbers(merged, union(lists)) {
			t.Fatalf("MergeLists(%v) = %v", lists, merged)
		}
		for _, list := range lists {
			if !isSubsequence(merged, list) || !impl.KeepsOrder(merged, list) {
				t.Fatalf("MergeLists(%v) = %v does not keep %v", lists, merged, list)
			}
		}
	})
}

func TestPromise03AMergeIsFoundExactlyIfThereIsOne(t *testing.T) {
	forLists(t, func(lists [][]int) {
		count := impl.CountOrders(lists)
		if (count == -1) != (len(union(lists)) > impl.MaxCount) {
			t.Fatalf("CountOrders(%v) = %d", lists, count)
		}
		if count == -1 {
			return
		}
		if _, ok := impl.MergeLists(lists); ok != (count != 0) {
			t.Fatalf("MergeLists(%v) is %v of %d orders", lists, ok, count)
		}
		if len(union(lists)) <= 5 && count != countByTrying(lists) {
			t.Fatalf("CountOrders(%v) = %d", lists, count)
		}
	})
}

func TestPromise04MergedIsMerged(t *testing.T) {
	forLists(t, func(lists [][]int) {
		merged, ok := impl.MergeLists(lists)
		if !ok || len(merged) > impl.MaxClasses || len(lists) == 0 {
			return
		}
		for _, again := range [][][]int{{merged}, slices.Concat([][]int{merged}, lists[:len(lists)-1])} {
			if got, ok := impl.MergeLists(again); !ok || !slices.Equal(got, merged) {
				t.Fatalf("MergeLists(%v) = %v, %v", again, got, ok)
			}
		}
	})
}

func TestPromise05StuckHeadsBlockEachOther(t *testing.T) {
	forLists(t, func(lists [][]int) {
		stuck := impl.StuckHeads(lists)
		if _, ok := impl.MergeLists(lists); ok != (len(stuck) == 0) {
			t.Fatalf("StuckHeads(%v) = %v", lists, stuck)
		}
		for i, x := range stuck {
			behind := slices.ContainsFunc(lists, func(list []int) bool { return slices.Index(list, x) > 0 })
			if !behind || slices.Contains(stuck[:i], x) {
				t.Fatalf("StuckHeads(%v) = %v", lists, stuck)
			}
		}
	})
}

func TestPromise06OrdersAreOfAllClassesAbove(t *testing.T) {
	forClasses(t, func(bases [][]int, c int) {
		order, ok := impl.OrderOf(bases, c)
		if !ok {
			return
		}
		if !sameNumbers(order, impl.AboveOf(bases, c)) || order[0] != c || order[len(order)-1] != 0 || !comesBeforeAbove(bases, order) {
			t.Fatalf("OrderOf(%v, %d) = %v", bases, c, order)
		}
	})
}

func TestPromise07OrdersAreMonotone(t *testing.T) {
	forClasses(t, func(bases [][]int, c int) {
		order, ok := impl.OrderOf(bases, c)
		if !ok {
			return
		}
		for _, a := range impl.AboveOf(bases, c) {
			above, ok := impl.OrderOf(bases, a)
			if !ok || !isSubsequence(order, above) || !isSubsequence(order, bases[a]) {
				t.Fatalf("OrderOf(%v, %d) = %v, and %v of the class %d", bases, c, order, above, a)
			}
		}
	})
}

func TestPromise08OrdersAreMerges(t *testing.T) {
	forClasses(t, func(bases [][]int, c int) {
		order, ok := impl.OrderOf(bases, c)
		var lists [][]int
		for _, b := range bases[c] {
			above, has := impl.OrderOf(bases, b)
			if !has {
				if ok {
					t.Fatalf("OrderOf(%v, %d) = %v, with a base without an order", bases, c, order)
				}
				return
			}
			lists = append(lists, above)
		}
		lists = append(lists, bases[c])
		merged, can := impl.MergeLists(lists)
		if ok != can || ok && !slices.Equal(order, append(numbers(c), merged...)) {
			t.Fatalf("OrderOf(%v, %d) = %v, %v", bases, c, order, ok)
		}
		if count := impl.CountOrders(lists); count != -1 && ok != (count != 0) {
			t.Fatalf("OrderOf(%v, %d) is %v of %d orders", bases, c, ok, count)
		}
	})
}

func TestPromise09LaterClassesChangeNothing(t *testing.T) {
	forClasses(t, func(bases [][]int, c int) {
		order, ok := impl.OrderOf(bases, c)
		alone, can := impl.OrderOf(bases[:c+1], c)
		if ok != can || !slices.Equal(order, alone) {
			t.Fatalf("OrderOf(%v, %d) = %v, %v", bases, c, order, ok)
		}
	})
}

func TestPromise10AboveGoesOn(t *testing.T) {
	forClasses(t, func(bases [][]int, c int) {
		above := impl.AboveOf(bases, c)
		if !slices.Contains(above, 0) || !slices.Contains(above, c) || !slices.IsSorted(above) {
			t.Fatalf("AboveOf(%v, %d) = %v", bases, c, above)
		}
		for _, a := range above {
			if !isSubsequence(above, impl.AboveOf(bases, a)) {
				t.Fatalf("AboveOf(%v, %d) = %v", bases, c, above)
			}
		}
		for a := range bases {
			if slices.Contains(above, a) != isAboveClass(bases, c, a) {
				t.Fatalf("AboveOf(%v, %d) = %v", bases, c, above)
			}
		}
	})
}

func TestPromise11BelowIsAboveTheOtherWayRound(t *testing.T) {
	forClasses(t, func(bases [][]int, c int) {
		below := impl.BelowOf(bases, c)
		var want []int
		for b := range bases {
			if slices.Contains(impl.AboveOf(bases, b), c) {
				want = append(want, b)
			}
		}
		if !slices.Equal(below, want) {
			t.Fatalf("BelowOf(%v, %d) = %v", bases, c, below)
		}
	})
}

func TestPromise12OldOrdersBeginWithTheFirstBase(t *testing.T) {
	forWalks(t, func(bases [][]int, c int) {
		first := impl.DepthFirst(bases, c)
		if !sameNumbers(first, impl.AboveOf(bases, c)) || first[0] != c {
			t.Fatalf("DepthFirst(%v, %d) = %v", bases, c, first)
		}
		if c == 0 {
			return
		}
		base := impl.DepthFirst(bases, bases[c][0])
		if !slices.Equal(first[1:1+len(base)], base) {
			t.Fatalf("DepthFirst(%v, %d) = %v", bases, c, first)
		}
	})
}

func TestPromise13OnOneLineAllOrdersAreOne(t *testing.T) {
	forWalks(t, func(bases [][]int, c int) {
		for a := c; a > 0; a = bases[a][0] {
			if len(bases[a]) > 1 {
				return
			}
		}
		first, last := impl.DepthFirst(bases, c), impl.LastMet(bases, c)
		order, ok := impl.OrderOf(bases, c)
		if !ok || !slices.Equal(first, last) || !slices.Equal(first, order) {
			t.Fatalf("class %d of %v: %v, %v, %v", c, bases, first, last, order)
		}
	})
}

func TestPromise14LastMetClassesComeBeforeAllAboveThem(t *testing.T) {
	forWalks(t, func(bases [][]int, c int) {
		last := impl.LastMet(bases, c)
		if !sameNumbers(last, impl.AboveOf(bases, c)) || !comesBeforeAbove(bases, last) {
			t.Fatalf("LastMet(%v, %d) = %v", bases, c, last)
		}
		if c == 0 {
			return
		}
		base := impl.LastMet(bases, bases[c][len(bases[c])-1])
		if !slices.Equal(last[len(last)-len(base):], base) {
			t.Fatalf("LastMet(%v, %d) = %v", bases, c, last)
		}
	})
}

func TestPromise15KeptIsKeptInParts(t *testing.T) {
	lists := choices(countTo(4), 0, 4)
	r := source(3)
	for range 60 {
		lists = append(lists, r.Perm(impl.MaxClasses)[:r.Intn(impl.MaxClasses+1)])
	}
	for _, long := range lists {
		if !impl.KeepsOrder(long, long) {
			t.Fatalf("KeepsOrder(%v, %v)", long, long)
		}
		for _, short := range lists {
			kept := impl.KeepsOrder(long, short)
			if kept != isSubsequence(long, short) {
				t.Fatalf("KeepsOrder(%v, %v) = %v", long, short, kept)
			}
			for i := range short {
				if kept && !impl.KeepsOrder(long, without(short, i)) {
					t.Fatalf("KeepsOrder(%v, %v)", long, without(short, i))
				}
			}
		}
	}
}

func TestPromise16LessIsKeptInMoreOrders(t *testing.T) {
	forLists(t, func(lists [][]int) {
		count := impl.CountOrders(lists)
		if count == -1 || len(lists) == 0 {
			return
		}
		rest, last := lists[:len(lists)-1], lists[len(lists)-1]
		if sameNumbers(union(rest), union(lists)) && impl.CountOrders(rest) < count {
			t.Fatalf("CountOrders(%v) = %d, and %d without the last list", lists, count, impl.CountOrders(rest))
		}
		if got := impl.CountOrders([][]int{last}); got != 1 {
			t.Fatalf("CountOrders of %v alone = %d", last, got)
		}
	})
}

func TestPromise17ClassesAreAddedOnlyWithAnOrder(t *testing.T) {
	r := source(4)
	check := func(bases [][]int, list []int) {
		longer, ok := impl.AddClass(bases, list)
		behind := slices.Concat(bases, [][]int{list})
		if _, has := impl.OrderOf(behind, len(bases)); has != ok {
			t.Fatalf("AddClass(%v, %v) = %v, %v", bases, list, longer, ok)
		}
		if ok && !equalLists(longer, behind) {
			t.Fatalf("AddClass(%v, %v) = %v", bases, list, longer)
		}
		for c := range longer[:max(len(longer)-1, 0)] {
			before, had := impl.OrderOf(bases, c)
			after, has := impl.OrderOf(longer, c)
			if had != has || !slices.Equal(before, after) {
				t.Fatalf("AddClass(%v, %v) changes the order of %d", bases, list, c)
			}
		}
	}
	forBases(t, func(bases [][]int) {
		for n := 1; n <= min(len(bases), impl.MaxBases); n++ {
			check(bases, r.Perm(len(bases))[:n])
		}
	})
}

func TestPromise18ClassesMadeOneByOneHaveOrders(t *testing.T) {
	forBases(t, func(bases [][]int) {
		made, ok := [][]int{{}}, true
		for c := 1; c < len(bases) && ok; c++ {
			made, ok = impl.AddClass(made, bases[c])
		}
		if impl.AllOrders(bases) != ok || ok && !equalLists(made, bases) {
			t.Fatalf("AllOrders(%v) = %v, and made one by one %v", bases, impl.AllOrders(bases), made)
		}
	})
}
