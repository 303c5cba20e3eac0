package tests

import (
	"slices"
	"testing"

	"loop.example/objectmodel/impl"
)

func TestPromise19SlotsCanBeLeftOut(t *testing.T) {
	forSlots(t, func(bases, slots [][]int) {
		if !impl.ValidSlots(bases, slots) {
			t.Fatalf("ValidSlots(%v, %v)", bases, slots)
		}
		for c := range slots {
			fewer := slices.Clone(slots)
			fewer[c] = nil
			if !impl.ValidSlots(bases, fewer) {
				t.Fatalf("ValidSlots(%v, %v)", bases, fewer)
			}
			if c > 0 && !impl.ValidSlots(bases[:c], slots[:c]) {
				t.Fatalf("ValidSlots(%v, %v)", bases[:c], slots[:c])
			}
		}
	})
}

func TestPromise20LayoutsAreThoseOfClassesWithSlots(t *testing.T) {
	forTold(t, func(bases, slots [][]int, c int) {
		solid := impl.SolidOf(bases, slots, c)
		if !isAboveClass(bases, c, solid) || solid != 0 && len(slots[solid]) == 0 {
			t.Fatalf("SolidOf(%v, %v, %d) = %d", bases, slots, c, solid)
		}
		for _, a := range slottedAbove(bases, slots, c) {
			if !isAboveClass(bases, solid, a) {
				t.Fatalf("SolidOf(%v, %v, %d) = %d, which is not below %d", bases, slots, c, solid, a)
			}
		}
	})
}

func TestPromise21LayoutsAreToldExactlyOnLines(t *testing.T) {
	forLayouts(t, func(bases, slots [][]int, c int) {
		solid := impl.SolidOf(bases, slots, c)
		if (solid != -1) != areAllOnLine(bases, slottedAbove(bases, slots, c)) {
			t.Fatalf("SolidOf(%v, %v, %d) = %d", bases, slots, c, solid)
		}
		if solid != -1 {
			return
		}
		if impl.FieldsOf(bases, slots, c) != nil || impl.HiddenFields(bases, slots, c) != nil {
			t.Fatalf("class %d of %v, %v has fields, and no layout", c, bases, slots)
		}
		if impl.SizeOf(bases, slots, c) != -1 || impl.BestBase(bases, slots, c) != -1 {
			t.Fatalf("class %d of %v, %v has a size or a best base, and no layout", c, bases, slots)
		}
	})
}

func TestPromise22LayoutsGrowAtTheirEnd(t *testing.T) {
	forTold(t, func(bases, slots [][]int, c int) {
		got := impl.FieldsOf(bases, slots, c)
		if solid := impl.SolidOf(bases, slots, c); !slices.Equal(got, impl.FieldsOf(bases, slots, solid)) {
			t.Fatalf("FieldsOf(%v, %v, %d) = %v, not as those of %d", bases, slots, c, got, solid)
		}
		for a := range bases {
			above := impl.FieldsOf(bases, slots, a)
			if isAboveClass(bases, c, a) && (len(above) > len(got) || !slices.Equal(got[:len(above)], above)) {
				t.Fatalf("FieldsOf(%v, %v, %d) = %v, and %v of %d", bases, slots, c, got, above, a)
			}
		}
		var own []impl.Field
		for _, name := range slots[c] {
			own = append(own, field(c, name))
		}
		if len(got) < len(own) || !slices.Equal(got[len(got)-len(own):], own) {
			t.Fatalf("FieldsOf(%v, %v, %d) = %v", bases, slots, c, got)
		}
	})
}

func TestPromise23EachSlotHasAPlace(t *testing.T) {
	forTold(t, func(bases, slots [][]int, c int) {
		got := impl.FieldsOf(bases, slots, c)
		sum := 0
		for _, a := range slottedAbove(bases, slots, c) {
			sum += len(slots[a])
			for _, name := range slots[a] {
				if !slices.Contains(got, field(a, name)) {
					t.Fatalf("FieldsOf(%v, %v, %d) = %v", bases, slots, c, got)
				}
			}
		}
		if size := impl.SizeOf(bases, slots, c); size != sum || len(got) != sum {
			t.Fatalf("SizeOf(%v, %v, %d) = %d, of %v", bases, slots, c, size, got)
		}
	})
}

func TestPromise24TheBestBaseHasTheGreatestLayout(t *testing.T) {
	forTold(t, func(bases, slots [][]int, c int) {
		best := impl.BestBase(bases, slots, c)
		if c == 0 {
			if best != -1 {
				t.Fatalf("BestBase(%v, %v, 0) = %d", bases, slots, best)
			}
			return
		}
		if best != bestByTrying(bases, slots, c) {
			t.Fatalf("BestBase(%v, %v, %d) = %d", bases, slots, c, best)
		}
		size := impl.SizeOf(bases, slots, best)
		for _, b := range bases[c] {
			if impl.SizeOf(bases, slots, b) > size {
				t.Fatalf("BestBase(%v, %v, %d) = %d, and %d is greater", bases, slots, c, best, b)
			}
		}
		if impl.SizeOf(bases, slots, c) != size+len(slots[c]) {
			t.Fatalf("SizeOf(%v, %v, %d) = %d, and %d of %d", bases, slots, c, impl.SizeOf(bases, slots, c), size, best)
		}
	})
}

func TestPromise25PlacesStayInSubclasses(t *testing.T) {
	forTold(t, func(bases, slots [][]int, c int) {
		for place, f := range impl.FieldsOf(bases, slots, c) {
			if got := impl.PlaceOf(bases, slots, c, f.Class, f.Name); got != place {
				t.Fatalf("PlaceOf(%v, %v, %d, %v) = %d, not %d", bases, slots, c, f, got, place)
			}
			for d := c + 1; d < len(bases); d++ {
				if !isAboveClass(bases, d, c) || impl.SolidOf(bases, slots, d) == -1 {
					continue
				}
				if got := impl.PlaceOf(bases, slots, d, f.Class, f.Name); got != place {
					t.Fatalf("PlaceOf(%v, %v, %d, %v) = %d, and %d in %d", bases, slots, d, f, got, place, c)
				}
			}
		}
	})
}

// TestFieldsThatAreNotThereHaveNoPlace asks for all owners and names, of which most have no field.
func TestFieldsThatAreNotThereHaveNoPlace(t *testing.T) {
	r := source(21)
	for i := range 200 {
		bases := randomBases(r, impl.MaxClasses)
		slots := randomSlots(r, len(bases), 1+i%6)
		for c := range bases {
			got := impl.FieldsOf(bases, slots, c)
			for owner := -1; owner <= len(bases); owner++ {
				for name := -1; name <= impl.MaxName+1; name++ {
					place := impl.PlaceOf(bases, slots, c, owner, name)
					if place != slices.Index(got, field(owner, name)) {
						t.Fatalf("PlaceOf(%v, %v, %d, %d, %d) = %d", bases, slots, c, owner, name, place)
					}
				}
			}
		}
	}
}

func TestPromise26LayoutsThatClashAreTold(t *testing.T) {
	clashes, without := 0, 0
	forLayouts(t, func(bases, slots [][]int, c int) {
		first, second := impl.LayoutClash(bases, slots, c)
		if i, k := clashByTrying(bases, slots, c); i != first || k != second {
			t.Fatalf("LayoutClash(%v, %v, %d) = %d, %d", bases, slots, c, first, second)
		}
		clashed := first != -1
		if clashed {
			clashes++
		}
		for _, b := range bases[c] {
			if impl.SolidOf(bases, slots, b) == -1 {
				without++
				return
			}
		}
		if solid := impl.SolidOf(bases, slots, c); (solid == -1) != clashed {
			t.Fatalf("SolidOf(%v, %v, %d) = %d, and LayoutClash = %d, %d", bases, slots, c, solid, first, second)
		}
	})
	if clashes < 500 || without < 100 {
		t.Fatalf("only %d clashes, and %d classes with a base without a layout", clashes, without)
	}
}

func TestPromise27InstancesBecomeOneOfEqualLayouts(t *testing.T) {
	forLayouts(t, func(bases, slots [][]int, a int) {
		for b := range bases {
			can := impl.CanBecome(bases, slots, a, b)
			if can != impl.CanBecome(bases, slots, b, a) {
				t.Fatalf("CanBecome(%v, %v, %d, %d) = %v, and not the other way round", bases, slots, a, b, can)
			}
			solid := impl.SolidOf(bases, slots, a)
			if can != (solid != -1 && solid == impl.SolidOf(bases, slots, b)) {
				t.Fatalf("CanBecome(%v, %v, %d, %d) = %v", bases, slots, a, b, can)
			}
			if can && !slices.Equal(impl.FieldsOf(bases, slots, a), impl.FieldsOf(bases, slots, b)) {
				t.Fatalf("CanBecome(%v, %v, %d, %d), with other fields", bases, slots, a, b)
			}
		}
	})
}

func TestPromise28HiddenFieldsAreHiddenByLaterOnes(t *testing.T) {
	forTold(t, func(bases, slots [][]int, c int) {
		names := namesOf(impl.FieldsOf(bases, slots, c))
		hidden := impl.HiddenFields(bases, slots, c)
		if !slices.IsSorted(hidden) || len(slices.Compact(slices.Clone(hidden))) != len(hidden) {
			t.Fatalf("HiddenFields(%v, %v, %d) = %v", bases, slots, c, hidden)
		}
		var seen []int
		for place, name := range names {
			if slices.Contains(hidden, place) {
				if !slices.Contains(names[place+1:], name) {
					t.Fatalf("HiddenFields(%v, %v, %d) = %v of %v", bases, slots, c, hidden, names)
				}
				continue
			}
			if slices.Contains(seen, name) {
				t.Fatalf("HiddenFields(%v, %v, %d) = %v of %v", bases, slots, c, hidden, names)
			}
			seen = append(seen, name)
		}
		if len(hidden)+len(seen) != len(names) {
			t.Fatalf("HiddenFields(%v, %v, %d) = %v of %v", bases, slots, c, hidden, names)
		}
	})
}

func TestPromise29OnOneLineAllHaveLayouts(t *testing.T) {
	chains, others := 0, 0
	forSlots(t, func(bases, slots [][]int) {
		var slotted []int
		for c, list := range slots {
			if len(list) > 0 {
				slotted = append(slotted, c)
			}
		}
		chain := impl.OneChain(bases, slots)
		if chain != areAllOnLine(bases, slotted) {
			t.Fatalf("OneChain(%v, %v) = %v", bases, slots, chain)
		}
		if !chain {
			others++
			return
		}
		chains++
		for c := range bases {
			first, second := impl.LayoutClash(bases, slots, c)
			if solid := impl.SolidOf(bases, slots, c); solid == -1 || first != -1 || second != -1 {
				t.Fatalf("class %d of %v, %v: SolidOf = %d, LayoutClash = %d, %d", c, bases, slots, solid, first, second)
			}
		}
	})
	if chains < 1000 || others < 1000 {
		t.Fatalf("only %d chains, and %d others", chains, others)
	}
}
