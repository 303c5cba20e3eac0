package tests

import (
	"math/rand"
	"slices"
	"testing"

	"loop.example/objectmodel/impl"
)

// checkNoCached checks that each function that takes a class of a cache returns what it does for arguments that are not valid.
func checkNoCached(t *testing.T, s impl.Cached, c, name int) {
	t.Helper()
	if got := impl.TagClass(s, c); !isZeroCached(got) {
		t.Errorf("TagClass(%v, %d) = %v", s, c, got)
	}
	if got := impl.UntagClass(s, c); !isZeroCached(got) {
		t.Errorf("UntagClass(%v, %d) = %v", s, c, got)
	}
	checkNoName(t, s, c, name)
}

// checkNoName checks that each function that takes a name of a class of a cache returns what it does for arguments that are not valid.
func checkNoName(t *testing.T, s impl.Cached, c, name int) {
	t.Helper()
	if got, owner := impl.LookCached(s, c, name); !isZeroCached(got) || owner != -1 {
		t.Errorf("LookCached(%v, %d, %d) = %v, %d", s, c, name, got, owner)
	}
	if got, ok := impl.SetCached(s, c, attr(name, 0, 0)); !isZeroCached(got) || ok {
		t.Errorf("SetCached(%v, %d, %d) = %v, %v", s, c, name, got, ok)
	}
	if got, ok := impl.DropCached(s, c, name); !isZeroCached(got) || ok {
		t.Errorf("DropCached(%v, %d, %d) = %v, %v", s, c, name, got, ok)
	}
}

// checkNoCache checks that all functions that take a cache refuse it.
func checkNoCache(t *testing.T, s impl.Cached) {
	t.Helper()
	if impl.IsSound(s) || impl.StaleOf(s) != nil {
		t.Errorf("IsSound or StaleOf takes %v", s)
	}
	if got, next := impl.RunCached(s, asks(look(0, 0))); got != nil || !isZeroCached(next) {
		t.Errorf("RunCached(%v) = %v, %v", s, got, next)
	}
	for c := range 4 {
		for _, name := range numbers(1, 2, 4) {
			checkNoCached(t, s, c, name)
		}
	}
}

func TestFunctionsOfCachesThatAreNotValid(t *testing.T) {
	for _, s := range brokenCaches() {
		checkNoCache(t, s)
	}
}

func TestClassesOfCachesThatAreNotThere(t *testing.T) {
	for _, s := range []impl.Cached{looked(), emptyCache(twoSides()), emptyCache(fullWorld())} {
		for _, c := range append(odd(), 4) {
			for name := range impl.MaxName + 1 {
				checkNoCached(t, s, c, name)
			}
		}
	}
}

func TestNamesOfCachesThatAreNotValid(t *testing.T) {
	for _, s := range []impl.Cached{looked(), emptyCache(twoSides())} {
		for _, name := range append(odd(), 10) {
			for c := range 4 {
				checkNoName(t, s, c, name)
			}
		}
	}
}

// brokenCache returns a valid world with a cache of which one number, or one place of a list, was made another one, or none.
func brokenCache(r *rand.Rand) impl.Cached {
	s := randomCache(r)
	n := append(odd(), countTo(33)...)[r.Intn(39)]
	place, c := r.Intn(8), r.Intn(len(s.Versions))
	switch r.Intn(11) {
	case 0:
		s.Versions[c] = n
	case 1:
		s.Next = n
	case 2:
		s.Table[place].Version = n
	case 3:
		s.Table[place].Name = n
	case 4:
		s.Table[place].Owner = n
	case 5:
		s.Hits = append(numbers(1000, 1001, 2000), n)[r.Intn(4)]
	case 6:
		s.Misses = append(numbers(1000, 1001, 2000), n)[r.Intn(4)]
	case 7:
		s.Versions = [][]int{append(s.Versions, 0), s.Versions[1:]}[r.Intn(2)]
	case 8:
		s.Table = [][]impl.Entry{append(s.Table, impl.Entry{}), s.Table[1:]}[r.Intn(2)]
	case 9:
		s.World = brokenWorld(r)
	}
	return s
}

// isCachedByRule reports whether a world with a cache is valid, by counting who has each version.
func isCachedByRule(s impl.Cached) bool {
	if !isWorldByRule(s.World) || s.Next < 1 || s.Next > 31 || len(s.Versions) != len(s.World.Bases) || len(s.Table) != 8 {
		return false
	}
	had := map[int]int{}
	for _, v := range s.Versions {
		if v < 0 || v >= s.Next {
			return false
		}
		had[v]++
	}
	for v, times := range had {
		if v > 0 && times > 1 {
			return false
		}
	}
	for _, e := range s.Table {
		if e.Version < 0 || e.Version >= s.Next || e.Name < 0 || e.Name > 9 || e.Owner < -1 || e.Owner >= len(s.Versions) {
			return false
		}
	}
	return s.Hits >= 0 && s.Hits <= 1000 && s.Misses >= 0 && s.Misses <= 1000
}

func TestAllCachesAreTotal(t *testing.T) {
	r := source(90)
	n := tally{}
	for range 5000 {
		s := brokenCache(r)
		if got := impl.ValidCached(s); got != isCachedByRule(s) {
			t.Fatalf("ValidCached(%v) = %v", s, got)
		}
		if isCachedByRule(s) {
			n["valid"]++
			continue
		}
		n["broken"]++
		checkNoCache(t, s)
	}
	n.need(t, 1000, "valid", "broken")
}

func TestAllAsksAreTotal(t *testing.T) {
	r := source(91)
	n := tally{}
	for range 4000 {
		s := randomSound(r)
		w := s.World
		list := append(randomAsks(r, w), look(r.Intn(len(w.Bases)), 9))
		one := &list[r.Intn(len(list))]
		other := append(odd(), countTo(13)...)[r.Intn(19)]
		switch r.Intn(4) {
		case 0:
			one.Kind = other
		case 1:
			one.Class = other
		case 2:
			one.Attr.Name = other
		}
		isValid := len(list) <= 40
		for _, a := range list {
			isValid = isValid && a.Kind >= 0 && a.Kind <= 2 && a.Class >= 0 && a.Class < len(w.Bases) && a.Attr.Name >= 0 && a.Attr.Name <= 9
		}
		if got := impl.ValidAsks(w, list); got != isValid {
			t.Fatalf("ValidAsks(%v, %v) = %v", w, list, got)
		}
		plain := impl.RunPlain(w, list)
		cached, next := impl.RunCached(s, list)
		if isValid {
			n["valid"]++
			if len(plain) != len(list) || len(cached) != len(list) || !impl.ValidCached(next) {
				t.Fatalf("RunCached(%v, %v) = %v, %v", s, list, cached, next)
			}
			continue
		}
		n["broken"]++
		if plain != nil || cached != nil || !isZeroCached(next) {
			t.Fatalf("RunPlain(%v, %v) = %v, and RunCached %v, %v", w, list, plain, cached, next)
		}
	}
	n.need(t, 500, "valid", "broken")
}

// TestLongCachesAreRefusedAtOnce has lists that would take hours if each number was compared with all others.
func TestLongCachesAreRefusedAtOnce(t *testing.T) {
	versions, table, list := countTo(1_000_000), make([]impl.Entry, 1_000_000), make([]impl.Ask, 1_000_000)
	long := looked()
	long.Table = table
	lists := impl.World{Bases: make([][]int, 1_000_000), Attrs: make([][]impl.Attr, 1_000_000)}
	for i, s := range []impl.Cached{
		withVersions(looked(), versions...),
		long,
		{World: lists, Versions: versions, Next: 31, Table: table},
	} {
		if impl.ValidCached(s) || impl.IsSound(s) || impl.StaleOf(s) != nil || !isZeroCached(impl.TagClass(s, 1)) {
			t.Errorf("cache %d is long and valid", i)
		}
	}
	answers, s := impl.RunCached(looked(), list)
	if impl.ValidAsks(twoSides(), list) || impl.RunPlain(twoSides(), list) != nil || answers != nil || !isZeroCached(s) {
		t.Error("long asks are valid")
	}
	if !isZeroCached(impl.NewCached(lists)) {
		t.Error("NewCached takes a long world")
	}
}

// cachedParts returns all lists of a world with a cache.
func cachedParts(s impl.Cached) []part {
	return append([]part{partOf(s.Versions, -99, equal), partOf(s.Table, entry(-99, -99, -99), equal)}, worldParts(s.World)...)
}

// spareCached returns a world with a cache with the same numbers, with room behind each of its lists that holds others.
func spareCached(s impl.Cached) impl.Cached {
	out := s
	out.World = spareWorld(s.World)
	out.Versions = spareList(s.Versions, 77)
	out.Table = spareList(s.Table, entry(77, 77, 77))
	return out
}

// cachesOf returns all worlds with caches that are made from one, as far as they are possible.
func cachesOf(s impl.Cached, c, name int, list []impl.Ask) []impl.Cached {
	seen, _ := impl.LookCached(s, c, name)
	_, run := impl.RunCached(s, list)
	out := []impl.Cached{impl.NewCached(s.World), impl.TagClass(s, c), impl.UntagClass(s, c), seen, run}
	if next, ok := impl.SetCached(s, c, attr(name, impl.AtData, 1)); ok {
		out = append(out, next)
	}
	if next, ok := impl.DropCached(s, c, name); ok {
		out = append(out, next)
	}
	return out
}

func TestCachesShareNoMemory(t *testing.T) {
	r := source(92)
	n := tally{}
	for range 1500 {
		s := randomCache(r)
		given := spareCached(s)
		parts := cachedParts(given)
		c, name := r.Intn(len(s.Versions)), r.Intn(impl.MaxName+1)
		list := randomAsks(r, s.World)
		if r.Intn(3) == 0 {
			list = nil
		}
		room := spareList(list, look(77, 77))
		roomPart := partOf(room, look(-99, -99), equal)
		impl.ValidCached(given)
		impl.IsSound(given)
		impl.ValidAsks(given.World, room)
		answers, _ := impl.RunCached(given, room)
		spoil(answers)
		spoil(impl.RunPlain(given.World, room))
		spoil(impl.StaleOf(given))
		for _, next := range cachesOf(given, c, name, room) {
			n["made"]++
			if !spoilAll(cachedParts(next)) {
				t.Fatalf("lists of a cache made of %v share memory", s)
			}
		}
		if !areIntact(parts) || !roomPart.isIntact() || !equalCached(given, s) {
			t.Fatalf("%v was changed: %v", s, given)
		}
	}
	n.need(t, 5000, "made")
}

// TestCachesWithSharedListsShareNoMemory has a world with a cache whose lists are the same memory, which its results are not.
func TestCachesWithSharedListsShareNoMemory(t *testing.T) {
	bases, list := numbers(0), attrs(attr(5, impl.AtMethod, 1))
	w := impl.World{Bases: [][]int{nil, bases, bases}, Attrs: [][]impl.Attr{list, list, list}, Objects: []impl.Object{object(1, 5, 6)}}
	s := cachedOf(w, numbers(1, 2, 0), 3, entry(2, 5, 1))
	for c := range 3 {
		for _, name := range numbers(5, 6) {
			for _, next := range cachesOf(s, c, name, asks(look(2, 5), give(1, attr(6, 0, 0)))) {
				if !spoilAll(cachedParts(next)) {
					t.Fatalf("lists of a cache made of %v share memory", s)
				}
			}
		}
	}
	if !slices.Equal(bases, numbers(0)) || !slices.Equal(list, attrs(attr(5, impl.AtMethod, 1))) || !slices.Equal(s.Versions, numbers(1, 2, 0)) {
		t.Fatalf("the lists of a cache were changed: %v", s)
	}
}

// TestCachesKeepNoState asks the same of caches again, which are answered as before, whatever was asked between.
func TestCachesKeepNoState(t *testing.T) {
	r := source(93)
	for range 200 {
		a, b := randomSound(r), randomSound(r)
		list, other := randomAsks(r, a.World), randomAsks(r, b.World)
		answers, next := impl.RunCached(a, list)
		impl.RunCached(b, other)
		impl.RunCached(next, list)
		if again, nextAgain := impl.RunCached(a, list); !slices.Equal(again, answers) || !equalCached(nextAgain, next) {
			t.Fatalf("RunCached(%v, %v) = %v, %v, and then %v, %v", a, list, answers, next, again, nextAgain)
		}
	}
}
