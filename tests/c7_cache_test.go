package tests

import (
	"slices"
	"testing"

	"loop.example/objectmodel/impl"
)

// twoSides returns a world of a diamond: the root has the name 1, both sides have 2, the second one has 3, and no class has any other one.
func twoSides() impl.World {
	w := worldOf(diamond(), object(3, 2, 50), object(1))
	w.Attrs[0] = attrs(attr(1, impl.AtPlain, 10))
	w.Attrs[1] = attrs(attr(2, impl.AtMethod, 20))
	w.Attrs[2] = attrs(attr(2, impl.AtData, 30), attr(3, impl.AtStatic, 31))
	return w
}

// looked returns a world of a diamond with a cache: all classes have versions, and some names of them were looked for.
func looked() impl.Cached {
	s := cachedOf(twoSides(), numbers(1, 2, 3, 4), 5, entry(4, 2, 1), entry(4, 4, -1), entry(3, 2, 2), entry(1, 7, -1), entry(2, 3, -1))
	return counted(s, 7, 9)
}

func TestValidCaches(t *testing.T) {
	last := cachedOf(twoSides(), numbers(30, 0, 29, 28), 31, entry(30, 9, 3), entry(30, 0, -1), entry(17, 5, 2))
	same := looked()
	for place := range same.Table {
		same.Table[place] = entry(4, 2, 3)
	}
	for i, s := range []impl.Cached{
		emptyCache(worldOf(line(1))),
		emptyCache(worldOf(line(12))),
		looked(),
		last,
		same,
		counted(last, 1000, 1000),
		counted(last, 1000, 0),
		counted(last, 0, 1000),
		cachedOf(twoSides(), numbers(0, 0, 0, 0), 31),
		cachedOf(twoSides(), numbers(0, 1, 0, 0), 2),
		cachedOf(twoSides(), numbers(0, 0, 0, 0), 1, entry(0, 9, 3), entry(0, 0, -1)),
		cachedOf(worldOf(line(12)), numbers(12, 11, 10, 9, 8, 7, 6, 5, 4, 3, 2, 1), 13),
	} {
		if !impl.ValidCached(s) {
			t.Errorf("cache %d: ValidCached(%v)", i, s)
		}
	}
}

// brokenCaches returns worlds with caches that are not valid, each for one reason.
func brokenCaches() []impl.Cached {
	next := func(n int) impl.Cached {
		s := looked()
		s.Next = n
		return s
	}
	of := func(e impl.Entry) impl.Cached { return withEntry(looked(), 7, e) }
	table := func(list []impl.Entry) impl.Cached {
		s := looked()
		s.Table = list
		return s
	}
	empty := emptyCache(twoSides())
	empty.Next = 0
	list := []impl.Cached{
		{},
		{World: worldOf(line(1))},
		{World: worldOf(line(1)), Versions: numbers(0), Table: make([]impl.Entry, 8)},
		{World: worldOf(line(1)), Versions: numbers(0), Next: 1},
		{World: worldOf(line(1)), Next: 1, Table: make([]impl.Entry, 8)},
		{Versions: nil, Next: 1, Table: make([]impl.Entry, 8)},
		empty,
		next(0),
		next(4),
		next(32),
		withVersions(looked()),
		withVersions(looked(), 1, 2, 3),
		withVersions(looked(), 1, 2, 3, 4, 0),
		withVersions(looked(), 1, 2, 3, 5),
		withVersions(looked(), -1, 2, 3, 4),
		withVersions(looked(), 1, 2, 2, 4),
		withVersions(looked(), 4, 0, 0, 4),
		table(nil),
		table(looked().Table[:7]),
		table(make([]impl.Entry, 9)),
		of(entry(5, 0, 0)),
		of(entry(-1, 0, 0)),
		of(entry(0, -1, 0)),
		of(entry(4, 10, 0)),
		of(entry(4, 0, 4)),
		of(entry(0, 0, 4)),
		of(entry(4, 0, -2)),
		withEntry(looked(), 0, entry(4, 4, 4)),
		counted(looked(), -1, 0),
		counted(looked(), 0, -1),
		counted(looked(), 1001, 0),
		counted(looked(), 0, 1001),
	}
	for _, n := range odd() {
		list = append(list, withVersions(looked(), 1, 2, n, 4), of(entry(n, 0, 0)), of(entry(4, n, 0)))
		if n != -1 {
			list = append(list, of(entry(4, 0, n)))
		}
	}
	for _, n := range numbers(-1, 1<<32, odd()[1], odd()[2]) {
		list = append(list, next(n), counted(looked(), n, 0), counted(looked(), 0, n))
	}
	for _, w := range brokenWorlds() {
		list = append(list, emptyCache(w))
	}
	return list
}

func TestCachesThatAreNotValid(t *testing.T) {
	for i, s := range brokenCaches() {
		if impl.ValidCached(s) {
			t.Errorf("cache %d: ValidCached(%v)", i, s)
		}
	}
}

func TestNewCaches(t *testing.T) {
	for _, w := range []impl.World{worldOf(line(1)), worldOf(line(12)), twoSides(), sixKinds(), fullWorld()} {
		want := impl.Cached{World: w, Versions: make([]int, len(w.Bases)), Next: 1, Table: make([]impl.Entry, impl.TableSize)}
		if got := impl.NewCached(w); !equalCached(got, want) || !impl.ValidCached(got) || !impl.IsSound(got) {
			t.Errorf("NewCached(%v) = %v", w, got)
		}
	}
	for _, w := range brokenWorlds() {
		if got := impl.NewCached(w); !isZeroCached(got) {
			t.Errorf("NewCached(%v) = %v", w, got)
		}
	}
}

// versionsCase is the versions of classes before and after one of them is tagged or untagged, with the ones that come next.
type versionsCase struct {
	bases  [][]int
	before []int
	next   int
	c      int
	after  []int
	then   int
}

// check checks what a function makes of the versions, and that it changes nothing else.
func (v versionsCase) check(t *testing.T, name string, do func(impl.Cached, int) impl.Cached) {
	t.Helper()
	s := counted(cachedOf(worldOf(v.bases, object(0, 1, 2)), v.before, v.next, entry(v.next-1, 3, 0), entry(v.next-1, 4, -1)), 5, 6)
	want := withVersions(s, v.after...)
	want.Next = v.then
	if got := do(s, v.c); !equalCached(got, want) {
		t.Errorf("%s(%v, %d) = %v, not %v", name, s, v.c, got, want)
	}
}

func TestTags(t *testing.T) {
	turned := [][]int{{}, {0}, {0}, {2, 1}}
	deep := [][]int{{}, {0}, {1}, {0}, {3, 2}}
	for _, v := range []versionsCase{
		{line(1), numbers(0), 1, 0, numbers(1), 2},
		{diamond(), numbers(0, 0, 0, 0), 1, 0, numbers(1, 0, 0, 0), 2},
		{diamond(), numbers(0, 0, 0, 0), 1, 1, numbers(1, 2, 0, 0), 3},
		{diamond(), numbers(0, 0, 0, 0), 1, 2, numbers(1, 0, 2, 0), 3},
		{diamond(), numbers(0, 0, 0, 0), 1, 3, numbers(1, 2, 3, 4), 5},
		// Bases get theirs in the order in which they are told, and what is above them first.
		{turned, numbers(0, 0, 0, 0), 1, 3, numbers(1, 3, 2, 4), 5},
		{deep, numbers(0, 0, 0, 0, 0), 1, 4, numbers(1, 3, 4, 2, 5), 6},
		{deep, numbers(0, 0, 0, 0, 0), 9, 4, numbers(9, 11, 12, 10, 13), 14},
		// Who has one keeps it.
		{diamond(), numbers(1, 2, 3, 4), 5, 3, numbers(1, 2, 3, 4), 5},
		{diamond(), numbers(7, 0, 9, 0), 12, 3, numbers(7, 12, 9, 13), 14},
		{diamond(), numbers(7, 0, 9, 0), 12, 2, numbers(7, 0, 9, 0), 12},
		// Versions that are used up.
		{line(1), numbers(0), 30, 0, numbers(30), 31},
		{line(1), numbers(0), 31, 0, numbers(0), 31},
		{line(1), numbers(30), 31, 0, numbers(30), 31},
		{line(4), numbers(0, 0, 0, 0), 29, 3, numbers(29, 30, 0, 0), 31},
		{line(4), numbers(0, 0, 0, 0), 31, 3, numbers(0, 0, 0, 0), 31},
		{diamond(), numbers(0, 0, 0, 0), 27, 3, numbers(27, 28, 29, 30), 31},
		{diamond(), numbers(0, 0, 0, 0), 28, 3, numbers(28, 29, 30, 0), 31},
		{diamond(), numbers(0, 0, 0, 0), 29, 3, numbers(29, 30, 0, 0), 31},
		{turned, numbers(0, 0, 0, 0), 29, 3, numbers(29, 0, 30, 0), 31},
		{diamond(), numbers(0, 0, 0, 0), 30, 3, numbers(30, 0, 0, 0), 31},
		{diamond(), numbers(4, 0, 6, 0), 30, 3, numbers(4, 30, 6, 0), 31},
		{diamond(), numbers(4, 5, 0, 0), 31, 3, numbers(4, 5, 0, 0), 31},
		{diamond(), numbers(4, 5, 6, 0), 31, 3, numbers(4, 5, 6, 0), 31},
		{line(12), numbers(0, 0, 0, 0, 0, 0, 0, 0, 0, 0, 0, 0), 20, 11, numbers(20, 21, 22, 23, 24, 25, 26, 27, 28, 29, 30, 0), 31},
		// Where a cache is not sound, a class that has a version is not looked behind.
		{diamond(), numbers(0, 0, 0, 5), 6, 3, numbers(0, 0, 0, 5), 6},
		{diamond(), numbers(0, 5, 0, 0), 6, 3, numbers(6, 5, 7, 8), 9},
		{line(4), numbers(0, 0, 5, 0), 6, 3, numbers(0, 0, 5, 6), 7},
	} {
		v.check(t, "TagClass", impl.TagClass)
	}
}

// TestTagsOfClassesWithManyWaysUp has a class from which thousands of walks lead up.
func TestTagsOfClassesWithManyWaysUp(t *testing.T) {
	// The bases of a class get theirs from the last one on, but each needs those before it.
	versionsCase{dense(12), make([]int, 12), 1, 11, numbers(1, 2, 3, 4, 5, 6, 7, 8, 9, 10, 11, 12), 13}.check(t, "TagClass", impl.TagClass)
	versionsCase{dense(12), make([]int, 12), 31, 11, make([]int, 12), 31}.check(t, "TagClass", impl.TagClass)
	versionsCase{dense(12), numbers(1, 2, 3, 4, 5, 6, 7, 8, 9, 10, 11, 12), 13, 0, make([]int, 12), 13}.check(t, "UntagClass", impl.UntagClass)
}

func TestUntags(t *testing.T) {
	for _, v := range []versionsCase{
		{line(1), numbers(1), 2, 0, numbers(0), 2},
		{line(1), numbers(0), 2, 0, numbers(0), 2},
		{diamond(), numbers(1, 2, 3, 4), 5, 0, numbers(0, 0, 0, 0), 5},
		{diamond(), numbers(1, 2, 3, 4), 5, 1, numbers(1, 0, 3, 0), 5},
		{diamond(), numbers(1, 2, 3, 4), 5, 2, numbers(1, 2, 0, 0), 5},
		{diamond(), numbers(1, 2, 3, 4), 31, 3, numbers(1, 2, 3, 0), 31},
		{diamond(), numbers(1, 2, 3, 0), 5, 0, numbers(0, 0, 0, 0), 5},
		{diamond(), numbers(1, 2, 3, 0), 5, 3, numbers(1, 2, 3, 0), 5},
		{diamond(), numbers(1, 0, 3, 0), 5, 1, numbers(1, 0, 3, 0), 5},
		{[][]int{{}, {0}, {1}, {0}, {3, 2}}, numbers(30, 29, 28, 27, 26), 31, 1, numbers(30, 0, 0, 27, 0), 31},
		{[][]int{{}, {0}, {0}, {2}, {1}, {3}}, numbers(1, 2, 3, 4, 5, 6), 7, 2, numbers(1, 2, 0, 0, 5, 0), 7},
		// Where a cache is not sound, classes below one without a version are not reached.
		{line(4), numbers(1, 0, 3, 4), 5, 1, numbers(1, 0, 3, 4), 5},
		{line(4), numbers(1, 0, 3, 4), 5, 0, numbers(0, 0, 3, 4), 5},
		{diamond(), numbers(1, 0, 3, 4), 5, 1, numbers(1, 0, 3, 4), 5},
		{diamond(), numbers(1, 0, 3, 4), 5, 0, numbers(0, 0, 0, 0), 5},
		{diamond(), numbers(0, 2, 0, 4), 5, 0, numbers(0, 2, 0, 4), 5},
	} {
		v.check(t, "UntagClass", impl.UntagClass)
	}
}

// step is a name that is looked for in a class, and what is found, by the cache or not.
type step struct {
	c, name int
	owner   int
	hit     bool
	// versions and entry are what the cache has then: the entry is the one that is new.
	versions []int
	entry    impl.Entry
}

// take checks one step, and returns what the cache is then.
func (p step) take(t *testing.T, s impl.Cached) impl.Cached {
	t.Helper()
	want := cloneCached(s)
	if p.hit {
		want.Hits++
	} else {
		want.Misses++
		want.Versions = p.versions
		want.Next = max(s.Next, slices.Max(p.versions)+1)
		if p.entry != (impl.Entry{}) {
			want.Table[placeByRule(p.entry.Version, p.entry.Name)] = p.entry
		}
	}
	got, owner := impl.LookCached(s, p.c, p.name)
	if owner != p.owner || !equalCached(got, want) {
		t.Fatalf("LookCached(%v, %d, %d) = %v, %d, not %v, %d", s, p.c, p.name, got, owner, want, p.owner)
	}
	return got
}

func TestLooks(t *testing.T) {
	s := emptyCache(twoSides())
	for _, p := range []step{
		{0, 1, 0, false, numbers(1, 0, 0, 0), entry(1, 1, 0)},
		{0, 1, 0, true, nil, impl.Entry{}},
		{2, 1, 0, false, numbers(1, 0, 2, 0), entry(2, 1, 0)},
		{3, 2, 1, false, numbers(1, 3, 2, 4), entry(4, 2, 1)},
		{3, 2, 1, true, nil, impl.Entry{}},
		{2, 2, 2, false, numbers(1, 3, 2, 4), entry(2, 2, 2)},
		// A name that no class has is kept too.
		{3, 4, -1, false, numbers(1, 3, 2, 4), entry(4, 4, -1)},
		{3, 4, -1, true, nil, impl.Entry{}},
		{3, 2, 1, true, nil, impl.Entry{}},
		{2, 1, 0, true, nil, impl.Entry{}},
		{0, 9, -1, false, numbers(1, 3, 2, 4), entry(1, 9, -1)},
		{1, 3, -1, false, numbers(1, 3, 2, 4), entry(3, 3, -1)},
	} {
		s = p.take(t, s)
	}
	if s.Hits != 5 || s.Misses != 7 {
		t.Errorf("%d hits and %d misses", s.Hits, s.Misses)
	}
}

// TestPlacesThatAreShared has classes and names whose entries have the same place, so that each takes it from the one before.
func TestPlacesThatAreShared(t *testing.T) {
	all := numbers(1, 2, 3, 4)
	s := looked()
	s.Table = make([]impl.Entry, 8)
	for _, p := range []step{
		{3, 2, 1, false, all, entry(4, 2, 1)},
		{2, 7, -1, false, all, entry(3, 7, -1)},
		{3, 2, 1, false, all, entry(4, 2, 1)},
		{3, 2, 1, true, nil, impl.Entry{}},
		{0, 1, 0, false, all, entry(1, 1, 0)},
		{3, 2, 1, false, all, entry(4, 2, 1)},
		{0, 1, 0, false, all, entry(1, 1, 0)},
		{0, 9, -1, false, all, entry(1, 9, -1)},
		{0, 1, 0, false, all, entry(1, 1, 0)},
		{1, 4, -1, false, all, entry(2, 4, -1)},
	} {
		s = p.take(t, s)
		if p.entry != (impl.Entry{}) && s.Table[6] != p.entry {
			t.Fatalf("%v is not at the place 6: %v", p.entry, s.Table)
		}
	}
}

// TestPlacesOfEntries has the places of the names of a class by its version.
func TestPlacesOfEntries(t *testing.T) {
	for version, first := range numbers(-1, 5, 2, 7, 4, 1, 6, 3, 0, 5) {
		if version == 0 {
			continue
		}
		for name := range impl.MaxName + 1 {
			s := cachedOf(worldOf(line(1)), numbers(version), 31)
			got, _ := impl.LookCached(s, 0, name)
			for place, e := range got.Table {
				want := impl.Entry{}
				if place == (first+name)%8 {
					want = entry(version, name, -1)
				}
				if e != want {
					t.Errorf("the name %d of the version %d: %v", name, version, got.Table)
				}
			}
		}
	}
}

// TestLooksWithoutVersions has classes that get no version, because these are used up: nothing is kept of them.
func TestLooksWithoutVersions(t *testing.T) {
	for _, c := range []struct {
		before, after []int
		next          int
		steps         []step
	}{
		{numbers(0, 0, 0, 0), numbers(0, 0, 0, 0), 31, nil},
		{numbers(1, 2, 3, 0), numbers(1, 2, 3, 0), 31, nil},
		{numbers(0, 0, 0, 0), numbers(30, 0, 0, 0), 30, nil},
		{numbers(0, 0, 0, 0), numbers(28, 29, 30, 0), 28, nil},
	} {
		s := cachedOf(twoSides(), c.before, c.next)
		for i := range 3 {
			got, owner := impl.LookCached(s, 3, 2)
			want := counted(cachedOf(twoSides(), c.after, 31), 0, i+1)
			if owner != 1 || !equalCached(got, want) {
				t.Fatalf("LookCached(%v, 3, 2) = %v, %d, not %v", s, got, owner, want)
			}
			s = got
		}
	}
	// The last version is as good as others.
	s := cachedOf(twoSides(), numbers(1, 2, 3, 0), 30)
	s = step{3, 2, 1, false, numbers(1, 2, 3, 30), entry(30, 2, 1)}.take(t, s)
	s = step{3, 2, 1, true, nil, impl.Entry{}}.take(t, s)
	if s.Next != 31 {
		t.Errorf("Next = %d", s.Next)
	}
}

// TestEntriesThatAreNotUsed has entries that tell something else, each of which is not one of this class and name at its place.
func TestEntriesThatAreNotUsed(t *testing.T) {
	for _, c := range []struct {
		s       impl.Cached
		c, name int
		owner   int
	}{
		// Entries without a version are those of no class, also where the class has none.
		{cachedOf(twoSides(), numbers(0, 0, 0, 0), 1, entry(0, 2, 3)), 3, 2, 1},
		{cachedOf(twoSides(), numbers(0, 0, 0, 0), 31, entry(0, 2, 3)), 3, 2, 1},
		{emptyCache(twoSides()), 3, 0, -1},
		{cachedOf(twoSides(), numbers(0, 0, 0, 0), 31), 3, 0, -1},
		// Of another version, of another name, at another place.
		{withEntry(looked(), 6, entry(3, 2, 3)), 3, 2, 1},
		{withEntry(looked(), 6, entry(4, 3, 3)), 3, 2, 1},
		{withEntry(withEntry(looked(), 6, impl.Entry{}), 5, entry(4, 2, 3)), 3, 2, 1},
		// The class has a newer version.
		{cachedOf(twoSides(), numbers(1, 2, 3, 9), 10, entry(4, 2, 3)), 3, 2, 1},
		{cachedOf(twoSides(), numbers(1, 2, 3, 0), 10, entry(4, 2, 3), entry(9, 2, 3)), 3, 2, 1},
		{cachedOf(twoSides(), numbers(1, 2, 3, 12), 13, entry(4, 2, 3)), 3, 2, 1},
	} {
		want, _ := lookByRule(c.s, c.c, c.name)
		got, owner := impl.LookCached(c.s, c.c, c.name)
		if owner != c.owner || got.Hits != c.s.Hits || got.Misses != c.s.Misses+1 || !equalCached(got, want) {
			t.Errorf("LookCached(%v, %d, %d) = %v, %d", c.s, c.c, c.name, got, owner)
		}
	}
}

// TestCachesThatLie has entries that are believed, though they are not true.
func TestCachesThatLie(t *testing.T) {
	for _, owner := range numbers(-1, 0, 3) {
		s := withEntry(looked(), 6, entry(4, 2, owner))
		want := counted(s, s.Hits+1, s.Misses)
		if got, told := impl.LookCached(s, 3, 2); told != owner || !equalCached(got, want) || impl.IsSound(s) {
			t.Errorf("LookCached(%v, 3, 2) = %v, %d", s, got, told)
		}
	}
}

func TestCountsStop(t *testing.T) {
	for _, c := range []struct{ hits, misses, name, thenHits, thenMisses int }{
		{0, 0, 2, 1, 0},
		{0, 0, 1, 0, 1},
		{999, 1000, 2, 1000, 1000},
		{1000, 0, 2, 1000, 0},
		{1000, 999, 1, 1000, 1000},
		{0, 1000, 1, 0, 1000},
		{1000, 1000, 1, 1000, 1000},
		{1000, 1000, 2, 1000, 1000},
	} {
		s := counted(looked(), c.hits, c.misses)
		got, _ := impl.LookCached(s, 3, c.name)
		if got.Hits != c.thenHits || got.Misses != c.thenMisses || !impl.ValidCached(got) {
			t.Errorf("LookCached of %d with %d hits and %d misses = %d and %d", c.name, c.hits, c.misses, got.Hits, got.Misses)
		}
	}
}

func TestSetsOfCaches(t *testing.T) {
	s := looked()
	for _, c := range []struct {
		class    int
		a        impl.Attr
		versions []int
	}{
		{0, attr(1, impl.AtFixed, 99), numbers(0, 0, 0, 0)},
		{0, attr(9, impl.AtPlain, 0), numbers(0, 0, 0, 0)},
		{1, attr(2, impl.AtData, 5), numbers(1, 0, 3, 0)},
		{2, attr(2, impl.AtData, 30), numbers(1, 2, 0, 0)},
		{3, attr(4, impl.AtOfClass, 7), numbers(1, 2, 3, 0)},
	} {
		w, _ := giveByRule(s.World, c.class, c.a)
		want := withVersions(s, c.versions...)
		want.World = w
		if got, ok := impl.SetCached(s, c.class, c.a); !ok || !equalCached(got, want) {
			t.Errorf("SetCached(%d, %v) = %v, %v, not %v", c.class, c.a, got, ok, want)
		}
	}
}

func TestDropsOfCaches(t *testing.T) {
	s := looked()
	for _, c := range []struct {
		class, name int
		left        []impl.Attr
		versions    []int
	}{
		{0, 1, nil, numbers(0, 0, 0, 0)},
		{1, 2, nil, numbers(1, 0, 3, 0)},
		{2, 2, attrs(attr(3, impl.AtStatic, 31)), numbers(1, 2, 0, 0)},
		{2, 3, attrs(attr(2, impl.AtData, 30)), numbers(1, 2, 0, 0)},
	} {
		want := withVersions(s, c.versions...)
		want.World = withAttrs(s.World, c.class, c.left)
		if got, ok := impl.DropCached(s, c.class, c.name); !ok || !equalCached(got, want) {
			t.Errorf("DropCached(%d, %d) = %v, %v, not %v", c.class, c.name, got, ok, want)
		}
	}
}

// TestChangesThatAreNotPossible has changes that the class itself refuses.
func TestChangesThatAreNotPossible(t *testing.T) {
	full := emptyCache(fullWorld())
	for _, c := range []struct {
		s     impl.Cached
		class int
		a     impl.Attr
	}{
		{looked(), 1, attr(10, 0, 0)},
		{looked(), 1, attr(-1, 0, 0)},
		{looked(), 1, attr(2, 6, 0)},
		{looked(), 1, attr(2, -1, 0)},
		{looked(), 1, attr(2, 0, 100)},
		{looked(), 1, attr(2, 0, -1)},
		{full, 3, attr(8, 0, 0)},
		{full, 3, attr(9, 0, 0)},
	} {
		if got, ok := impl.SetCached(c.s, c.class, c.a); ok || !isZeroCached(got) {
			t.Errorf("SetCached(%v, %d, %v) = %v, %v", c.s, c.class, c.a, got, ok)
		}
	}
	for _, c := range []struct{ class, name int }{{3, 2}, {3, 1}, {1, 1}, {1, 3}, {0, 2}, {2, 4}, {2, -1}, {2, 10}} {
		if got, ok := impl.DropCached(looked(), c.class, c.name); ok || !isZeroCached(got) {
			t.Errorf("DropCached(%d, %d) = %v, %v", c.class, c.name, got, ok)
		}
	}
}

func TestSoundCaches(t *testing.T) {
	for i, c := range []struct {
		s    impl.Cached
		want bool
	}{
		{emptyCache(twoSides()), true},
		{looked(), true},
		{withVersions(looked(), 1, 0, 3, 0), true},
		{withVersions(looked(), 1, 0, 0, 0), true},
		// A class with a version below one without.
		{withVersions(looked(), 0, 2, 0, 0), false},
		{withVersions(looked(), 1, 0, 3, 4), false},
		{withVersions(looked(), 1, 2, 0, 4), false},
		{withVersions(looked(), 0, 2, 3, 4), false},
		{withVersions(looked(), 0, 0, 0, 4), false},
		{cachedOf(worldOf(line(4)), numbers(0, 1, 2, 3), 4), false},
		{cachedOf(worldOf(line(4)), numbers(1, 2, 0, 3), 4), false},
		// Entries that are not true, for a class that has one or none, and entries at other places.
		{withEntry(looked(), 6, entry(4, 2, 2)), false},
		{withEntry(looked(), 6, entry(4, 2, -1)), false},
		{withEntry(looked(), 0, entry(4, 4, 0)), false},
		{withEntry(looked(), 7, entry(4, 2, 1)), false},
		{withEntry(looked(), 7, entry(1, 2, -1)), true},
		{withEntry(looked(), 7, entry(1, 2, 1)), false},
		{withEntry(looked(), 7, entry(4, 3, 2)), true},
		{withEntry(looked(), 6, entry(4, 3, 2)), false},
		// Entries of no version, or of one that no class has, may tell anything anywhere.
		{withEntry(looked(), 6, entry(0, 2, 3)), true},
		{cachedOf(twoSides(), numbers(1, 2, 3, 9), 10, entry(4, 2, 3), entry(5, 1, 2)), true},
		{withEntry(cachedOf(twoSides(), numbers(0, 0, 0, 0), 10), 1, entry(9, 2, 3)), true},
		{withEntry(cachedOf(twoSides(), numbers(0, 0, 0, 0), 10), 1, entry(0, 2, 3)), true},
		{cachedOf(twoSides(), numbers(1, 2, 3, 9), 10, entry(9, 2, 3)), false},
		// Two entries of one class, of which the last one is not true.
		{cachedOf(twoSides(), numbers(30, 29, 28, 27), 31, entry(27, 1, 0), entry(27, 3, 1)), false},
		{cachedOf(twoSides(), numbers(30, 29, 28, 27), 31, entry(27, 1, 0), entry(27, 3, 2)), true},
	} {
		if got := impl.IsSound(c.s); got != c.want {
			t.Errorf("cache %d: IsSound(%v) = %v", i, c.s, got)
		}
	}
	for i, s := range brokenCaches() {
		if impl.IsSound(s) {
			t.Errorf("cache %d: IsSound(%v)", i, s)
		}
	}
}

func TestStaleEntries(t *testing.T) {
	all := cachedOf(twoSides(), numbers(0, 0, 0, 0), 31)
	for place := range all.Table {
		all.Table[place] = entry(place+1, 9, 3)
	}
	for _, c := range []struct {
		s    impl.Cached
		want []int
	}{
		{emptyCache(twoSides()), nil},
		{looked(), nil},
		{withVersions(looked(), 1, 2, 3, 0), numbers(0, 6)},
		{withVersions(looked(), 1, 0, 3, 0), numbers(0, 5, 6)},
		{withVersions(looked(), 4, 3, 2, 1), nil},
		{all, countTo(8)},
		{withVersions(all, 1, 8, 0, 3), numbers(1, 3, 4, 5, 6)},
		{cachedOf(twoSides(), numbers(0, 0, 0, 0), 2, entry(0, 3, 3), entry(1, 0, 0)), numbers(5)},
		// Where an entry stands does not matter.
		{withEntry(cachedOf(twoSides(), numbers(1, 0, 0, 0), 3), 7, entry(2, 0, 0)), numbers(7)},
		{withEntry(cachedOf(twoSides(), numbers(1, 0, 0, 0), 3), 7, entry(1, 0, 0)), nil},
	} {
		if got := impl.StaleOf(c.s); !slices.Equal(got, c.want) {
			t.Errorf("StaleOf(%v) = %v, not %v", c.s, got, c.want)
		}
	}
	for i, s := range brokenCaches() {
		if got := impl.StaleOf(s); got != nil {
			t.Errorf("cache %d: StaleOf(%v) = %v", i, s, got)
		}
	}
}

func TestValidAsks(t *testing.T) {
	for i, list := range [][]impl.Ask{
		nil,
		{},
		asks(look(0, 0), look(3, 9), give(3, attr(0, 0, 0)), drop(0, 9)),
		asks(give(0, attr(9, -1, 1000)), give(0, attr(0, 1<<40, -1<<40))),
		asks(impl.Ask{Kind: impl.AsLook, Attr: attr(0, 77, -77)}, impl.Ask{Kind: impl.AsDrop, Attr: attr(0, -77, 77)}),
		slices.Repeat(asks(look(3, 9)), 40),
	} {
		if !impl.ValidAsks(twoSides(), list) {
			t.Errorf("asks %d: ValidAsks(%v)", i, list)
		}
	}
}

// brokenAsks returns asks that are not valid for a diamond, each for one reason.
func brokenAsks() [][]impl.Ask {
	list := [][]impl.Ask{
		slices.Repeat(asks(look(3, 9)), 41),
		asks(look(4, 0)),
		asks(look(-1, 0)),
		asks(look(0, 10)),
		asks(look(0, -1)),
		asks(give(1, attr(10, 0, 0))),
		asks(drop(1, 10)),
		asks(impl.Ask{Kind: 3}),
		asks(impl.Ask{Kind: -1}),
		asks(look(0, 0), look(0, 0), give(4, attr(0, 0, 0))),
		asks(drop(-1, 0), look(0, 0)),
	}
	for _, n := range odd() {
		list = append(list, asks(impl.Ask{Kind: n}), asks(look(0, 1), look(n, 0)), asks(give(0, attr(n, 0, 0))))
	}
	return list
}

func TestAsksThatAreNotValid(t *testing.T) {
	for i, list := range brokenAsks() {
		if impl.ValidAsks(twoSides(), list) {
			t.Errorf("asks %d: ValidAsks(%v)", i, list)
		}
		if got := impl.RunPlain(twoSides(), list); got != nil {
			t.Errorf("asks %d: RunPlain(%v) = %v", i, list, got)
		}
		if got, s := impl.RunCached(looked(), list); got != nil || !isZeroCached(s) {
			t.Errorf("asks %d: RunCached(%v) = %v, %v", i, list, got, s)
		}
	}
	for _, w := range brokenWorlds() {
		if impl.ValidAsks(w, nil) || impl.ValidAsks(w, asks(look(0, 0))) || impl.RunPlain(w, asks(look(0, 0))) != nil {
			t.Errorf("ValidAsks takes %v", w)
		}
	}
	for _, s := range brokenCaches() {
		if got, next := impl.RunCached(s, asks(look(0, 0))); got != nil || !isZeroCached(next) {
			t.Errorf("RunCached(%v) = %v, %v", s, got, next)
		}
		if got, next := impl.RunCached(s, nil); got != nil || !isZeroCached(next) {
			t.Errorf("RunCached(%v, nil) = %v, %v", s, got, next)
		}
	}
}

func TestAnswers(t *testing.T) {
	for _, c := range []struct {
		list     []impl.Ask
		want     []int
		versions []int
		hits     int
	}{
		{nil, nil, numbers(0, 0, 0, 0), 0},
		{asks(look(3, 2), look(3, 2), look(3, 4)), numbers(1, 1, -1), numbers(1, 2, 3, 4), 1},
		// A class that gets an attribute hides those of classes above it, until it is taken away.
		{asks(look(3, 2), give(3, attr(2, 0, 1)), look(3, 2), drop(3, 2), look(3, 2)), numbers(1, 1, 3, 1, 1), numbers(1, 2, 3, 6), 0},
		{asks(look(3, 2), drop(1, 2), look(3, 2), drop(2, 2), look(3, 2), look(3, 2)), numbers(1, 1, 2, 1, -1, -1), numbers(1, 5, 7, 8), 1},
		// What is not possible changes nothing, and is answered by 0.
		{asks(look(3, 2), drop(3, 2), give(3, attr(2, 6, 0)), give(3, attr(2, 0, 100)), drop(1, 3), look(3, 2)), numbers(1, 0, 0, 0, 0, 1), numbers(1, 2, 3, 4), 1},
		// A change of the root is told to all, and one of a side not to the other side.
		{asks(look(3, 1), look(1, 1), give(0, attr(7, 0, 1)), look(1, 1), look(3, 7)), numbers(0, 0, 1, 0, 0), numbers(5, 6, 7, 8), 0},
		{asks(look(1, 2), look(2, 2), give(1, attr(8, 0, 1)), look(2, 2), look(2, 8), look(1, 8)), numbers(1, 2, 1, 2, -1, 1), numbers(1, 4, 3, 0), 1},
		{asks(drop(0, 1), drop(0, 1), look(0, 1), give(0, attr(1, 5, 99)), look(0, 1)), numbers(1, 0, -1, 1, 0), numbers(2, 0, 0, 0), 0},
	} {
		if got := impl.RunPlain(twoSides(), c.list); !slices.Equal(got, c.want) {
			t.Errorf("RunPlain(%v) = %v, not %v", c.list, got, c.want)
		}
		got, s := impl.RunCached(impl.NewCached(twoSides()), c.list)
		if !slices.Equal(got, c.want) || !slices.Equal(s.Versions, c.versions) || s.Hits != c.hits || s.Misses != countLooks(c.list)-c.hits {
			t.Errorf("RunCached(%v) = %v, %v, not %v with versions %v and %d hits", c.list, got, s, c.want, c.versions, c.hits)
		}
	}
}

// TestAnswersWhenVersionsAreUsedUp has so many changes that no class gets a version any more: then nothing is a hit.
func TestAnswersWhenVersionsAreUsedUp(t *testing.T) {
	var list []impl.Ask
	for range 10 {
		list = append(list, give(0, attr(4, 0, 1)), look(3, 4), look(3, 4), look(3, 2))
	}
	got, s := impl.RunCached(impl.NewCached(twoSides()), list)
	// Seven times there are four versions, and then two.
	if !slices.Equal(got, slices.Repeat(numbers(1, 0, 0, 1), 10)) || !slices.Equal(s.Versions, numbers(0, 0, 0, 0)) || s.Next != 31 {
		t.Errorf("RunCached = %v, %v", got, s)
	}
	if s.Hits != 7 || s.Misses != 23 || !slices.Equal(impl.StaleOf(s), staleByRule(s)) {
		t.Errorf("%d hits and %d misses", s.Hits, s.Misses)
	}
	if later, next := impl.RunCached(s, asks(look(3, 4), look(3, 4))); !slices.Equal(later, numbers(0, 0)) || next.Hits != 7 || next.Misses != 25 || !slices.Equal(next.Table, s.Table) {
		t.Errorf("RunCached = %v, %v", later, next)
	}
}
