package tests

import (
	"math/rand"
	"slices"
	"testing"

	"loop.example/objectmodel/impl"
)

// field is short for a field, so that expected lists are short to write.
func field(class, name int) impl.Field {
	return impl.Field{Class: class, Name: name}
}

// fields returns a list of fields.
func fields(f ...impl.Field) []impl.Field {
	return f
}

// noSlots returns slots of some classes, none of which has any.
func noSlots(classes int) [][]int {
	return make([][]int, classes)
}

// fullSlots returns slots of some classes, each but the root with as many as it may have.
func fullSlots(classes int) [][]int {
	slots := noSlots(classes)
	for c := 1; c < classes; c++ {
		slots[c] = numbers(c%10, (c+3)%10, (c+5)%10, (c+9)%10)
	}
	return slots
}

// ladder returns bases in which 3 and 4 go on with the same layout, that of 2, and 5 and 6 go on with theirs.
func ladder() [][]int {
	return [][]int{{}, {0}, {1}, {2}, {2}, {3}, {4}}
}

// randomSlots returns valid slots of classes, of which about one of some has slots.
func randomSlots(r *rand.Rand, classes, one int) [][]int {
	slots := noSlots(classes)
	for c := 1; c < classes; c++ {
		if r.Intn(one) == 0 {
			slots[c] = r.Perm(impl.MaxName + 1)[:1+r.Intn(impl.MaxSlots)]
		}
	}
	return slots
}

// slotPatterns returns all slots of classes that are made of some lists.
func slotPatterns(classes int, kinds [][]int) [][][]int {
	if classes <= 1 {
		return [][][]int{noSlots(classes)}
	}
	var out [][][]int
	for _, slots := range slotPatterns(classes-1, kinds) {
		for _, list := range kinds {
			out = append(out, append(slices.Clone(slots), list))
		}
	}
	return out
}

// forSlots calls a function for many valid bases and slots: all small bases with all patterns of slots, fixed ones, and larger ones.
func forSlots(t *testing.T, visit func(bases, slots [][]int)) {
	t.Helper()
	allBases([][]int{{}}, 4, func(bases [][]int) {
		for _, slots := range slotPatterns(len(bases), [][]int{nil, {5}, {6, 5}}) {
			visit(bases, slots)
		}
	})
	r := source(20)
	allBases([][]int{{}}, 5, func(bases [][]int) {
		visit(bases, randomSlots(r, len(bases), 2))
		visit(bases, randomSlots(r, len(bases), 3))
	})
	for n := 1; n <= impl.MaxClasses; n++ {
		for _, bases := range [][][]int{line(n), dense(n)} {
			visit(bases, noSlots(n))
			visit(bases, fullSlots(n))
			visit(bases, randomSlots(r, n, 3))
		}
	}
	for _, bases := range [][][]int{ladder(), crossed(), letters()} {
		for one := 1; one <= 12; one++ {
			visit(bases, randomSlots(r, len(bases), one))
		}
	}
	for i := range 600 {
		bases := randomBases(r, impl.MaxClasses)
		visit(bases, randomSlots(r, len(bases), 1+i%impl.MaxClasses))
	}
}

// forLayouts calls a function for each class of the bases and slots of forSlots.
func forLayouts(t *testing.T, visit func(bases, slots [][]int, c int)) {
	t.Helper()
	forSlots(t, func(bases, slots [][]int) {
		for c := range bases {
			visit(bases, slots, c)
		}
	})
}

// forTold calls a function for each class of the bases and slots of forSlots that has a layout.
func forTold(t *testing.T, visit func(bases, slots [][]int, c int)) {
	t.Helper()
	told := 0
	forLayouts(t, func(bases, slots [][]int, c int) {
		if impl.SolidOf(bases, slots, c) != -1 {
			told++
			visit(bases, slots, c)
		}
	})
	if told < 1000 {
		t.Fatalf("only %d layouts", told)
	}
}

// areOnLine reports whether steps lead from one of two classes to the other one.
func areOnLine(bases [][]int, a, b int) bool {
	return isAboveClass(bases, a, b) || isAboveClass(bases, b, a)
}

// slottedAbove returns the classes above the class c, itself included, that have slots, ascending.
func slottedAbove(bases, slots [][]int, c int) []int {
	var list []int
	for a := range bases {
		if len(slots[a]) > 0 && isAboveClass(bases, c, a) {
			list = append(list, a)
		}
	}
	return list
}

// areAllOnLine reports whether of each two classes of a list one is below the other.
func areAllOnLine(bases [][]int, list []int) bool {
	for i, b := range list {
		for _, a := range list[:i] {
			if !areOnLine(bases, a, b) {
				return false
			}
		}
	}
	return true
}

// clashByTrying returns the places of two bases of the class c whose solid classes are apart, by trying all in order.
func clashByTrying(bases, slots [][]int, c int) (int, int) {
	for second := 1; second < len(bases[c]); second++ {
		for first := 0; first < second; first++ {
			a := impl.SolidOf(bases, slots, bases[c][first])
			b := impl.SolidOf(bases, slots, bases[c][second])
			if a != -1 && b != -1 && !areOnLine(bases, a, b) {
				return first, second
			}
		}
	}
	return -1, -1
}

// bestByTrying returns the first base of the class c whose solid class is below those of all bases.
func bestByTrying(bases, slots [][]int, c int) int {
	for _, b := range bases[c] {
		best := true
		for _, other := range bases[c] {
			best = best && isAboveClass(bases, impl.SolidOf(bases, slots, b), impl.SolidOf(bases, slots, other))
		}
		if best {
			return b
		}
	}
	return -1
}

// namesOf returns the names of fields.
func namesOf(list []impl.Field) []int {
	var names []int
	for _, f := range list {
		names = append(names, f.Name)
	}
	return names
}
