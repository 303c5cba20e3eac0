package tests

import (
	"math/rand"
	"slices"
	"testing"

	"loop.example/objectmodel/impl"
)

// checkNoLayout checks that each function that takes a class returns what it does for arguments that are not valid.
func checkNoLayout(t *testing.T, bases, slots [][]int, c int) {
	t.Helper()
	checkLayout(t, layoutCase{bases, slots, c, -1, nil, -1, -1, -1})
	if got := impl.FieldsOf(bases, slots, c); got != nil {
		t.Errorf("FieldsOf(%v, %v, %d) = %v", bases, slots, c, got)
	}
	if got := impl.HiddenFields(bases, slots, c); got != nil {
		t.Errorf("HiddenFields(%v, %v, %d) = %v", bases, slots, c, got)
	}
	if got := impl.PlaceOf(bases, slots, c, 1, 5); got != -1 {
		t.Errorf("PlaceOf(%v, %v, %d, 1, 5) = %d", bases, slots, c, got)
	}
	if impl.CanBecome(bases, slots, c, c) || impl.CanBecome(bases, slots, c, 0) || impl.CanBecome(bases, slots, 0, c) {
		t.Errorf("CanBecome(%v, %v, %d)", bases, slots, c)
	}
}

func TestLayoutsOfClassesThatAreNotThere(t *testing.T) {
	for _, c := range append(odd(), 4) {
		checkNoLayout(t, diamond(), [][]int{{}, {5}, {}, {}}, c)
		checkNoLayout(t, line(4), fullSlots(4), c)
	}
	for _, c := range odd() {
		checkNoLayout(t, dense(12), fullSlots(12), c)
	}
}

func TestLayoutsOfSlotsThatAreNotValid(t *testing.T) {
	for _, bad := range []struct{ bases, slots [][]int }{
		{nil, nil},
		{nil, [][]int{{}}},
		{[][]int{{}, {}}, [][]int{{}, {5}}},
		{[][]int{{}, {1}}, [][]int{{}, {5}}},
		{[][]int{{0}}, [][]int{{}}},
		{line(13), noSlots(13)},
		{line(2), nil},
		{line(2), [][]int{{}}},
		{line(2), [][]int{{}, {5}, {}}},
		{line(2), [][]int{{5}, {}}},
		{line(2), [][]int{{}, {10}}},
		{line(2), [][]int{{}, {5, -1}}},
		{line(2), [][]int{{}, {5, 5}}},
		{line(2), [][]int{{}, {5, 6, 7, 8, 9}}},
		{line(3), [][]int{{}, {5}, {10}}},
		{diamond(), [][]int{{}, {5}, {6}, {-1}}},
	} {
		for c := range 4 {
			checkNoLayout(t, bad.bases, bad.slots, c)
		}
	}
}

// wildSlots returns slots for bases of which many are not valid.
func wildSlots(r *rand.Rand, classes int) [][]int {
	if r.Intn(3) == 0 {
		return wildLists(r)
	}
	slots := randomSlots(r, classes, 1+r.Intn(4))
	c := r.Intn(classes)
	switch r.Intn(4) {
	case 0:
		slots[c] = append(slots[c], odd()[r.Intn(len(odd()))])
	case 1:
		slots[c] = append(slots[c], r.Intn(12))
	case 2:
		slots = slots[:c]
	}
	return slots
}

func TestAllLayoutsAreTotal(t *testing.T) {
	r := source(22)
	for range 5000 {
		bases := randomBases(r, impl.MaxClasses)
		slots := wildSlots(r, len(bases))
		if r.Intn(4) == 0 {
			bases = wildLists(r)
		}
		c := r.Intn(14) - 1
		valid := impl.ValidSlots(bases, slots)
		if !valid || c < 0 || c >= len(bases) {
			checkNoLayout(t, bases, slots, c)
		}
		if impl.OneChain(bases, slots) && !valid {
			t.Fatalf("OneChain(%v, %v)", bases, slots)
		}
		size := impl.SizeOf(bases, slots, c)
		if solid := impl.SolidOf(bases, slots, c); (solid == -1) != (size == -1) || size > (impl.MaxClasses-1)*impl.MaxSlots {
			t.Fatalf("SizeOf(%v, %v, %d) = %d, SolidOf = %d", bases, slots, c, size, solid)
		}
	}
}

func TestLongSlotsAreRefusedAtOnce(t *testing.T) {
	long := countTo(3_000_000)
	if impl.ValidSlots(line(2), [][]int{{}, long}) || impl.ValidSlots(line(2), [][]int{long, {}}) || impl.ValidSlots(line(2), make([][]int, 3_000_000)) {
		t.Error("long slots are valid")
	}
	checkNoLayout(t, line(2), [][]int{{}, long}, 1)
	checkNoLayout(t, [][]int{{}, long}, noSlots(2), 1)
}

// layoutNumbers returns all numbers and lists of numbers of chapter 2 for a class.
func layoutNumbers(bases, slots [][]int, c int) [][]int {
	first, second := impl.LayoutClash(bases, slots, c)
	var flat []int
	for _, f := range impl.FieldsOf(bases, slots, c) {
		flat = append(flat, f.Class, f.Name, impl.PlaceOf(bases, slots, c, f.Class, f.Name))
	}
	return [][]int{
		numbers(impl.SolidOf(bases, slots, c), impl.SizeOf(bases, slots, c), impl.BestBase(bases, slots, c), first, second),
		flat, impl.HiddenFields(bases, slots, c),
	}
}

func TestLayoutsDoNotChangeTheirArguments(t *testing.T) {
	for _, c := range []struct{ bases, slots [][]int }{
		{line(12), fullSlots(12)},
		{dense(12), fullSlots(12)},
		{ladder(), [][]int{{}, {1, 2, 3}, {}, {4}, {5}, {6}, {}}},
		{diamond(), [][]int{{}, {5}, {6}, {7}}},
		{crossed(), noSlots(7)},
	} {
		bases, slots := spare(c.bases), spare(c.slots)
		for class := range bases {
			want := layoutNumbers(bases, slots, class)
			impl.ValidSlots(bases, slots)
			impl.OneChain(bases, slots)
			impl.CanBecome(bases, slots, class, 0)
			list := impl.FieldsOf(bases, slots, class)
			for i := range list[:cap(list)] {
				list[:cap(list)][i] = field(-99, -99)
			}
			spoil(impl.HiddenFields(bases, slots, class))
			if got := layoutNumbers(bases, slots, class); !equalLists(got, want) {
				t.Fatalf("class %d of %v, %v: %v, then %v", class, c.bases, c.slots, want, got)
			}
		}
		if !isIntact(bases, c.bases) || !isIntact(slots, c.slots) {
			t.Fatalf("%v, %v were changed: %v, %v", c.bases, c.slots, bases, slots)
		}
	}
}

// TestClassesWithTheSameLayoutHaveListsOfTheirOwn spoils the fields of a class, and looks at those of another one with the same layout.
func TestClassesWithTheSameLayoutHaveListsOfTheirOwn(t *testing.T) {
	bases, slots := line(4), [][]int{{}, {3, 4}, {}, {}}
	one, other := impl.FieldsOf(bases, slots, 1), impl.FieldsOf(bases, slots, 3)
	one[0] = field(9, 9)
	if !slices.Equal(other, fields(field(1, 3), field(1, 4))) {
		t.Errorf("FieldsOf = %v", other)
	}
}
