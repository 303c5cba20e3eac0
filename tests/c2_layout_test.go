package tests

import (
	"slices"
	"testing"

	"loop.example/objectmodel/impl"
)

func TestValidSlots(t *testing.T) {
	for _, c := range []struct {
		bases, slots [][]int
		want         bool
	}{
		{[][]int{{}}, [][]int{{}}, true},
		{[][]int{nil}, [][]int{nil}, true},
		{[][]int{{}}, [][]int{{0}}, false},
		{[][]int{{}}, nil, false},
		{[][]int{{}}, [][]int{{}, {}}, false},
		{nil, nil, false},
		{[][]int{}, [][]int{}, false},
		{line(2), [][]int{{}, {}}, true},
		{line(2), [][]int{{}, {0}}, true},
		{line(2), [][]int{{}, {9}}, true},
		{line(2), [][]int{{}, {10}}, false},
		{line(2), [][]int{{}, {-1}}, false},
		{line(2), [][]int{{}, {3, -1}}, false},
		{line(2), [][]int{{}, {3, 10}}, false},
		{line(2), [][]int{{}, {9, 0, 8, 1}}, true},
		{line(2), [][]int{{}, {9, 0, 8, 1, 7}}, false},
		{line(2), [][]int{{}, {4, 4}}, false},
		{line(2), [][]int{{}, {4, 5, 6, 4}}, false},
		{line(2), [][]int{{4}, {}}, false},
		{line(2), [][]int{{}}, false},
		{line(2), [][]int{{}, {}, {}}, false},
		{line(3), [][]int{{}, {1, 2}, {2, 1}}, true},
		{line(3), [][]int{{}, {}, {1, 1}}, false},
		{diamond(), [][]int{{}, {5}, {5}, {5}}, true},
		{crossed(), noSlots(7), true},
		{[][]int{{}, {}}, noSlots(2), false},
		{[][]int{{}, {1}}, noSlots(2), false},
		{[][]int{{0}}, noSlots(1), false},
		{line(12), fullSlots(12), true},
		{dense(12), fullSlots(12), true},
		{line(12), fullSlots(11), false},
		{line(13), fullSlots(13), false},
		{line(13), noSlots(13), false},
	} {
		if got := impl.ValidSlots(c.bases, c.slots); got != c.want {
			t.Errorf("ValidSlots(%v, %v) = %v", c.bases, c.slots, got)
		}
	}
}

// layoutCase is what the functions of a class return: its solid class, its fields, its best base, and the clash of its bases.
type layoutCase struct {
	bases, slots  [][]int
	c             int
	solid         int
	fields        []impl.Field
	best          int
	first, second int
}

// checkLayout checks what the functions of a class return.
func checkLayout(t *testing.T, l layoutCase) {
	t.Helper()
	size := len(l.fields)
	if l.solid == -1 {
		size = -1
	}
	if got := impl.SolidOf(l.bases, l.slots, l.c); got != l.solid {
		t.Errorf("SolidOf(%v, %v, %d) = %d", l.bases, l.slots, l.c, got)
	}
	if got := impl.FieldsOf(l.bases, l.slots, l.c); !slices.Equal(got, l.fields) {
		t.Errorf("FieldsOf(%v, %v, %d) = %v", l.bases, l.slots, l.c, got)
	}
	if got := impl.SizeOf(l.bases, l.slots, l.c); got != size {
		t.Errorf("SizeOf(%v, %v, %d) = %d", l.bases, l.slots, l.c, got)
	}
	if got := impl.BestBase(l.bases, l.slots, l.c); got != l.best {
		t.Errorf("BestBase(%v, %v, %d) = %d", l.bases, l.slots, l.c, got)
	}
	if first, second := impl.LayoutClash(l.bases, l.slots, l.c); first != l.first || second != l.second {
		t.Errorf("LayoutClash(%v, %v, %d) = %d, %d", l.bases, l.slots, l.c, first, second)
	}
}

func TestLayoutsOnOneLine(t *testing.T) {
	slots := [][]int{{}, {7, 2}, {}, {2, 0}}
	for _, l := range []layoutCase{
		{line(1), noSlots(1), 0, 0, nil, -1, -1, -1},
		{line(4), noSlots(4), 0, 0, nil, -1, -1, -1},
		{line(4), noSlots(4), 3, 0, nil, 2, -1, -1},
		{line(4), slots, 0, 0, nil, -1, -1, -1},
		{line(4), slots, 1, 1, fields(field(1, 7), field(1, 2)), 0, -1, -1},
		{line(4), slots, 2, 1, fields(field(1, 7), field(1, 2)), 1, -1, -1},
		{line(4), slots, 3, 3, fields(field(1, 7), field(1, 2), field(3, 2), field(3, 0)), 2, -1, -1},
		{[][]int{{}, {0}, {1, 0}}, [][]int{{}, {4}, {}}, 2, 1, fields(field(1, 4)), 1, -1, -1},
		{[][]int{{}, {0}, {0, 1}}, [][]int{{}, {4}, {}}, 2, 1, fields(field(1, 4)), 1, -1, -1},
		{[][]int{{}, {0}, {0, 1}}, [][]int{{}, {4}, {4}}, 2, 2, fields(field(1, 4), field(2, 4)), 1, -1, -1},
	} {
		checkLayout(t, l)
	}
	if got := impl.SizeOf(line(12), fullSlots(12), 11); got != 44 {
		t.Errorf("SizeOf of 12 classes on one line = %d", got)
	}
}

func TestLayoutsOfSeveralBases(t *testing.T) {
	four := [][]int{{}, {0}, {0}, {0}, {0}, {1, 2, 3, 4}}
	nested := [][]int{{}, {0}, {1}, {2}, {0}, {4, 1, 3, 2}}
	for _, l := range []layoutCase{
		{diamond(), noSlots(4), 3, 0, nil, 1, -1, -1},
		{diamond(), [][]int{{}, {}, {}, {8}}, 3, 3, fields(field(3, 8)), 1, -1, -1},
		{diamond(), [][]int{{}, {5}, {}, {}}, 3, 1, fields(field(1, 5)), 1, -1, -1},
		{diamond(), [][]int{{}, {}, {5}, {}}, 3, 2, fields(field(2, 5)), 2, -1, -1},
		{diamond(), [][]int{{}, {}, {5}, {1, 5}}, 3, 3, fields(field(2, 5), field(3, 1), field(3, 5)), 2, -1, -1},
		{diamond(), [][]int{{}, {5}, {6}, {}}, 3, -1, nil, -1, 0, 1},
		{diamond(), [][]int{{}, {5}, {5}, {5}}, 3, -1, nil, -1, 0, 1},
		{four, [][]int{{}, {}, {}, {}, {2}, {}}, 5, 4, fields(field(4, 2)), 4, -1, -1},
		{four, [][]int{{}, {}, {}, {2}, {}, {3}}, 5, 5, fields(field(3, 2), field(5, 3)), 3, -1, -1},
		{nested, [][]int{{}, {1}, {2}, {3}, {}, {}}, 5, 3, fields(field(1, 1), field(2, 2), field(3, 3)), 3, -1, -1},
		{nested, [][]int{{}, {1}, {2}, {}, {}, {}}, 5, 2, fields(field(1, 1), field(2, 2)), 3, -1, -1},
		{nested, [][]int{{}, {1}, {}, {}, {}, {9}}, 5, 5, fields(field(1, 1), field(5, 9)), 1, -1, -1},
		{crossed(), [][]int{{}, {1}, {}, {}, {4}, {}, {}}, 6, 4, fields(field(1, 1), field(4, 4)), 5, -1, -1},
		{ladder(), [][]int{{}, {1, 2, 3}, {}, {4}, {5}, {}, {}}, 5, 3, fields(field(1, 1), field(1, 2), field(1, 3), field(3, 4)), 3, -1, -1},
		{ladder(), [][]int{{}, {1, 2, 3}, {}, {4}, {5}, {6}, {}}, 6, 4, fields(field(1, 1), field(1, 2), field(1, 3), field(4, 5)), 4, -1, -1},
	} {
		checkLayout(t, l)
	}
}

func TestLayoutsThatClash(t *testing.T) {
	four := [][]int{{}, {0}, {0}, {0}, {0}, {1, 2, 3, 4}}
	// 3 has no layout, so that 5 has none, though the others do not clash; 6 has two bases that clash besides.
	torn := [][]int{{}, {0}, {0}, {1, 2}, {0}, {3, 4}, {1, 3, 4, 2}, {3}}
	tornSlots := [][]int{{}, {1}, {2}, {3}, {}, {5}, {6}, {7}}
	// The layout of 4 is below that of 1, and both are apart from that of 3.
	low := [][]int{{}, {0}, {1}, {0}, {2}, {2, 3, 4}, {4, 2, 3}}
	lowSlots := [][]int{{}, {1}, {}, {3}, {4}, {}, {}}
	for _, l := range []layoutCase{
		{four, [][]int{{}, {1}, {2}, {3}, {4}, {}}, 5, -1, nil, -1, 0, 1},
		{four, [][]int{{}, {}, {2}, {3}, {4}, {}}, 5, -1, nil, -1, 1, 2},
		{four, [][]int{{}, {1}, {}, {3}, {4}, {9}}, 5, -1, nil, -1, 0, 2},
		{four, [][]int{{}, {}, {2}, {}, {4}, {9}}, 5, -1, nil, -1, 1, 3},
		{four, [][]int{{}, {1}, {}, {}, {4}, {}}, 5, -1, nil, -1, 0, 3},
		{four, [][]int{{}, {}, {}, {3}, {4}, {}}, 5, -1, nil, -1, 2, 3},
		{torn, tornSlots, 3, -1, nil, -1, 0, 1},
		{torn, tornSlots, 5, -1, nil, -1, -1, -1},
		{torn, tornSlots, 6, -1, nil, -1, 0, 3},
		{torn, tornSlots, 7, -1, nil, -1, -1, -1},
		{torn, tornSlots, 4, 0, nil, 0, -1, -1},
		{low, lowSlots, 5, -1, nil, -1, 0, 1},
		{low, lowSlots, 6, -1, nil, -1, 0, 2},
	} {
		checkLayout(t, l)
	}
}

// TestTheSecondIndexIsTheLeastOne has two clashes of which one has the lesser first index, and the other one the lesser second index.
func TestTheSecondIndexIsTheLeastOne(t *testing.T) {
	bases := [][]int{{}, {0}, {1}, {1}, {0}, {1, 2, 3, 4}}
	slots := [][]int{{}, {1}, {2}, {3}, {4}, {}}
	if first, second := impl.LayoutClash(bases, slots, 5); first != 1 || second != 2 {
		t.Errorf("LayoutClash = %d, %d", first, second)
	}
}

func TestPlaceOf(t *testing.T) {
	bases := [][]int{{}, {0}, {1}, {0}, {3, 2}, {1}}
	slots := [][]int{{}, {7, 2}, {2, 9}, {}, {0}, {7}}
	for _, c := range []struct{ c, owner, name, want int }{
		{4, 1, 7, 0},
		{4, 1, 2, 1},
		{4, 2, 2, 2},
		{4, 2, 9, 3},
		{4, 4, 0, 4},
		{2, 2, 9, 3},
		{2, 4, 0, -1},
		{1, 2, 2, -1},
		{4, 2, 7, -1},
		{4, 5, 7, -1},
		{4, 0, 7, -1},
		{4, 3, 2, -1},
		{5, 5, 7, 2},
		{5, 1, 7, 0},
		{0, 1, 7, -1},
		{3, 1, 7, -1},
		{4, -1, 7, -1},
		{4, 6, 7, -1},
		{4, 1, -1, -1},
		{4, 1, 10, -1},
		{-1, 1, 7, -1},
		{6, 1, 7, -1},
	} {
		if got := impl.PlaceOf(bases, slots, c.c, c.owner, c.name); got != c.want {
			t.Errorf("PlaceOf(%d, %d, %d) = %d", c.c, c.owner, c.name, got)
		}
	}
}

func TestCanBecome(t *testing.T) {
	// 1 and 2 have layouts of their own, 3 and 4 that of 1, 5 and 7 have none, 6 that of the root.
	bases := [][]int{{}, {0}, {0}, {1}, {3, 1}, {1, 2}, {0}, {5}}
	slots := [][]int{{}, {5}, {5}, {}, {}, {}, {}, {5}}
	equal := [][]int{{0, 6}, {1, 3, 4}, {2}}
	for a := range bases {
		for b := range bases {
			want := false
			for _, group := range equal {
				want = want || slices.Contains(group, a) && slices.Contains(group, b)
			}
			if got := impl.CanBecome(bases, slots, a, b); got != want {
				t.Errorf("CanBecome(%d, %d) = %v", a, b, got)
			}
		}
		for _, n := range append(odd(), len(bases)) {
			if impl.CanBecome(bases, slots, a, n) || impl.CanBecome(bases, slots, n, a) || impl.CanBecome(bases, slots, n, n) {
				t.Errorf("CanBecome of %d and %d", a, n)
			}
		}
	}
}

func TestHiddenFields(t *testing.T) {
	for _, c := range []struct {
		bases, slots [][]int
		c            int
		want         []int
	}{
		{line(1), noSlots(1), 0, nil},
		{line(3), [][]int{{}, {5, 6}, {7}}, 2, nil},
		{line(3), [][]int{{}, {5, 6}, {6}}, 2, numbers(1)},
		{line(3), [][]int{{}, {5, 6}, {6}}, 1, nil},
		{line(3), [][]int{{}, {5, 6}, {6, 5}}, 2, numbers(0, 1)},
		{line(4), [][]int{{}, {5}, {5}, {5}}, 3, numbers(0, 1)},
		{line(4), [][]int{{}, {5, 1}, {}, {2, 5}}, 3, numbers(0)},
		{line(4), [][]int{{}, {5, 1}, {1, 2}, {2, 5}}, 3, numbers(0, 1, 3)},
		{diamond(), [][]int{{}, {}, {5}, {5}}, 3, numbers(0)},
		{diamond(), [][]int{{}, {5}, {5}, {5}}, 3, nil},
		{line(3), [][]int{{}, {5}, {5}}, 3, nil},
		{line(3), [][]int{{}, {5}, {5}}, -1, nil},
		{line(3), [][]int{{5}, {5}, {5}}, 2, nil},
	} {
		if got := impl.HiddenFields(c.bases, c.slots, c.c); !slices.Equal(got, c.want) {
			t.Errorf("HiddenFields(%v, %v, %d) = %v", c.bases, c.slots, c.c, got)
		}
	}
}

func TestOneChain(t *testing.T) {
	// 3 and 4 are apart, and so are 1 and 2.
	bases := [][]int{{}, {0}, {0}, {1, 2}, {1}}
	for _, c := range []struct {
		bases, slots [][]int
		want         bool
	}{
		{line(1), noSlots(1), true},
		{line(12), fullSlots(12), true},
		{dense(12), fullSlots(12), true},
		{bases, noSlots(5), true},
		{bases, [][]int{{}, {1}, {}, {1}, {}}, true},
		{bases, [][]int{{}, {}, {1}, {1}, {}}, true},
		{bases, [][]int{{}, {1}, {}, {}, {1}}, true},
		{bases, [][]int{{}, {1}, {1}, {}, {}}, false},
		{bases, [][]int{{}, {1}, {}, {1}, {1}}, false},
		{bases, [][]int{{}, {}, {1}, {}, {1}}, false},
		{crossed(), [][]int{{}, {}, {}, {3}, {}, {5}, {6}}, true},
		{crossed(), [][]int{{}, {}, {}, {3}, {4}, {}, {}}, false},
		{line(2), [][]int{{1}, {}}, false},
		{line(2), [][]int{{}, {1, 1}}, false},
		{line(2), noSlots(1), false},
		{line(2), noSlots(3), false},
		{[][]int{{}, {1}}, noSlots(2), false},
		{line(13), noSlots(13), false},
		{nil, nil, false},
	} {
		if got := impl.OneChain(c.bases, c.slots); got != c.want {
			t.Errorf("OneChain(%v, %v) = %v", c.bases, c.slots, got)
		}
	}
}
