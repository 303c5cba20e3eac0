package tests

import (
	"math/rand"
	"slices"
	"testing"

	"loop.example/objectmodel/impl"
)

// entry is short for an entry of a cache.
func entry(version, name, owner int) impl.Entry {
	return impl.Entry{Version: version, Name: name, Owner: owner}
}

// placeByRule returns the place of the entry of a version and a name, by steps around the table.
func placeByRule(version, name int) int {
	place := name % 8
	for range version {
		place += 5
		if place >= 8 {
			place -= 8
		}
	}
	return place
}

// cachedOf returns a world with a cache: the versions of the classes, the one that comes next, and entries at their places.
func cachedOf(w impl.World, versions []int, next int, entries ...impl.Entry) impl.Cached {
	s := impl.Cached{World: w, Versions: versions, Next: next, Table: make([]impl.Entry, 8)}
	for _, e := range entries {
		s.Table[placeByRule(e.Version, e.Name)] = e
	}
	return s
}

// emptyCache returns a world with a cache in which there is nothing yet.
func emptyCache(w impl.World) impl.Cached {
	return cachedOf(w, make([]int, len(w.Bases)), 1)
}

// counted returns a world with a cache with other numbers of hits and misses.
func counted(s impl.Cached, hits, misses int) impl.Cached {
	s.Hits, s.Misses = hits, misses
	return s
}

// cloneCached returns a world with a cache that shares nothing with the given one.
func cloneCached(s impl.Cached) impl.Cached {
	out := s
	out.World = cloneWorld(s.World)
	out.Versions = append([]int{}, s.Versions...)
	out.Table = append([]impl.Entry{}, s.Table...)
	return out
}

// equalCached reports whether two worlds with caches are equal; nil and empty lists are.
func equalCached(a, b impl.Cached) bool {
	return equalWorlds(a.World, b.World) && slices.Equal(a.Versions, b.Versions) && a.Next == b.Next &&
		slices.Equal(a.Table, b.Table) && a.Hits == b.Hits && a.Misses == b.Misses
}

// isZeroCached reports whether a world with a cache is the zero value, of which all lists are nil.
func isZeroCached(s impl.Cached) bool {
	return isZeroWorld(s.World) && s.Versions == nil && s.Table == nil && s.Next == 0 && s.Hits == 0 && s.Misses == 0
}

// withEntry returns a world with a cache with another entry at a place.
func withEntry(s impl.Cached, place int, e impl.Entry) impl.Cached {
	out := cloneCached(s)
	out.Table[place] = e
	return out
}

// withVersions returns a world with a cache in which the classes have other versions.
func withVersions(s impl.Cached, versions ...int) impl.Cached {
	out := cloneCached(s)
	out.Versions = versions
	return out
}

// untagged returns the classes without a version that a walk up from a class meets, each once, behind those that it needs.
func untagged(s impl.Cached, c int) []int {
	if s.Versions[c] > 0 {
		return nil
	}
	var list []int
	for _, b := range s.World.Bases[c] {
		for _, need := range untagged(s, b) {
			if !slices.Contains(list, need) {
				list = append(list, need)
			}
		}
	}
	return append(list, c)
}

// tagByRule returns a world with a cache in which a class has a version: all classes that need one get those that are left, in order.
func tagByRule(s impl.Cached, c int) impl.Cached {
	out := cloneCached(s)
	for _, need := range untagged(s, c) {
		if out.Next < 31 {
			out.Versions[need] = out.Next
			out.Next++
		}
	}
	return out
}

// untagByRule returns a world with a cache after a class was changed: in one pass, since classes below have greater indices.
func untagByRule(s impl.Cached, c int) impl.Cached {
	out := cloneCached(s)
	lost := make([]bool, len(s.Versions))
	for d, list := range s.World.Bases {
		isBelow := slices.ContainsFunc(list, func(b int) bool { return lost[b] })
		if s.Versions[d] > 0 && (d == c || isBelow) {
			lost[d] = true
			out.Versions[d] = 0
		}
	}
	return out
}

// knownByRule returns the entry of a cache that tells a name of a class, and true, if there is one.
func knownByRule(s impl.Cached, c, name int) (impl.Entry, bool) {
	for place, e := range s.Table {
		if e.Version > 0 && e.Version == s.Versions[c] && e.Name == name && place == placeByRule(e.Version, e.Name) {
			return e, true
		}
	}
	return impl.Entry{}, false
}

// lookByRule returns a world with a cache after a name was looked for in a class, and the class in which it is found.
func lookByRule(s impl.Cached, c, name int) (impl.Cached, int) {
	if e, ok := knownByRule(s, c, name); ok {
		out := cloneCached(s)
		out.Hits = min(1000, s.Hits+1)
		return out, e.Owner
	}
	owner, _ := findByRule(s.World, c, name)
	out := tagByRule(s, c)
	out.Misses = min(1000, s.Misses+1)
	if v := out.Versions[c]; v > 0 {
		out.Table[placeByRule(v, name)] = entry(v, name, owner)
	}
	return out, owner
}

// setCachedByRule returns a world with a cache after a class got an attribute, whose name is valid, and whether it can get it.
func setCachedByRule(s impl.Cached, c int, a impl.Attr) (impl.Cached, bool) {
	w, ok := giveByRule(s.World, c, a)
	if !ok || !slices.Contains(kinds(), a.Kind) || a.Value < 0 || a.Value > 99 {
		return impl.Cached{}, false
	}
	out := untagByRule(s, c)
	out.World = w
	return out, true
}

// dropCachedByRule returns a world with a cache after an attribute was taken from a class, and whether it can be.
func dropCachedByRule(s impl.Cached, c, name int) (impl.Cached, bool) {
	i := ownAt(s.World, c, name)
	if i < 0 {
		return impl.Cached{}, false
	}
	out := untagByRule(s, c)
	out.World = withAttrs(s.World, c, without(s.World.Attrs[c], i))
	return out, true
}

// isSoundByRule reports whether the cache of a valid world with a cache tells the truth, class by class.
func isSoundByRule(s impl.Cached) bool {
	for c, v := range s.Versions {
		if v == 0 {
			continue
		}
		for a := range s.Versions {
			if isAboveClass(s.World.Bases, c, a) && s.Versions[a] == 0 {
				return false
			}
		}
		for place, e := range s.Table {
			if owner, _ := findByRule(s.World, c, e.Name); e.Version == v && (place != placeByRule(v, e.Name) || e.Owner != owner) {
				return false
			}
		}
	}
	return true
}

// staleByRule returns the places of entries whose version was given to a class that has it no more.
func staleByRule(s impl.Cached) []int {
	var list []int
	for place, e := range s.Table {
		if !slices.Contains(append(numbers(0), s.Versions...), e.Version) {
			list = append(list, place)
		}
	}
	return list
}

// look is short for an ask that looks for a name.
func look(c, name int) impl.Ask {
	return impl.Ask{Kind: impl.AsLook, Class: c, Attr: attr(name, 0, 0)}
}

// give is short for an ask that sets an attribute of a class.
func give(c int, a impl.Attr) impl.Ask {
	return impl.Ask{Kind: impl.AsSet, Class: c, Attr: a}
}

// drop is short for an ask that takes an attribute from a class.
func drop(c, name int) impl.Ask {
	return impl.Ask{Kind: impl.AsDrop, Class: c, Attr: attr(name, 0, 0)}
}

// asks returns a list of asks.
func asks(list ...impl.Ask) []impl.Ask {
	return list
}

// asksByRule returns the answers of a world with a cache to asks, and what it is then.
func asksByRule(s impl.Cached, list []impl.Ask) ([]int, impl.Cached) {
	var answers []int
	for _, a := range list {
		next, answer, ok := s, 0, false
		switch a.Kind {
		case impl.AsLook:
			s, answer = lookByRule(s, a.Class, a.Attr.Name)
		case impl.AsSet:
			next, ok = setCachedByRule(s, a.Class, a.Attr)
		case impl.AsDrop:
			next, ok = dropCachedByRule(s, a.Class, a.Attr.Name)
		}
		if ok {
			s, answer = next, 1
		}
		answers = append(answers, answer)
	}
	return answers, s
}

// plainByRule returns the answers of a world without a cache to asks, and what it is then.
func plainByRule(w impl.World, list []impl.Ask) ([]int, impl.World) {
	var answers []int
	for _, a := range list {
		// A cache in which there is nothing knows nothing.
		one, next := asksByRule(emptyCache(w), asks(a))
		answers = append(answers, one...)
		w = next.World
	}
	return answers, w
}

// someCount returns a number of hits or misses, often one at which they begin or stop.
func someCount(r *rand.Rand) int {
	return append(numbers(0, 0, 998, 999, 1000), r.Intn(1001))[r.Intn(6)]
}

// tagSome returns a world with a cache in which some classes, and all above them, have versions, in any order, and any version comes next.
func tagSome(r *rand.Rand, w impl.World) impl.Cached {
	s := emptyCache(w)
	var tagged [][]int
	for range r.Intn(4) {
		tagged = append(tagged, impl.AboveOf(w.Bases, r.Intn(len(w.Bases))))
	}
	classes := union(tagged)
	s.Next = append(numbers(31, 30, len(classes)+1), 1+len(classes)+r.Intn(31-len(classes)))[r.Intn(4)]
	for i, v := range r.Perm(s.Next - 1)[:len(classes)] {
		s.Versions[classes[i]] = v + 1
	}
	return counted(s, someCount(r), someCount(r))
}

// isInUse reports whether a class has a version.
func isInUse(s impl.Cached, version int) bool {
	return version > 0 && slices.Contains(s.Versions, version)
}

// fillSome puts entries into a cache: true ones of classes with versions, and any ones whose versions no class has.
func fillSome(r *rand.Rand, s impl.Cached) impl.Cached {
	out := cloneCached(s)
	for range r.Intn(16) {
		c, name := r.Intn(len(s.Versions)), r.Intn(impl.MaxName+1)
		if v := s.Versions[c]; v > 0 {
			owner, _ := findByRule(s.World, c, name)
			out.Table[placeByRule(v, name)] = entry(v, name, owner)
		}
		if v := r.Intn(s.Next); !isInUse(s, v) && r.Intn(3) == 0 {
			out.Table[r.Intn(8)] = entry(v, name, r.Intn(len(s.Versions)+1)-1)
		}
	}
	return out
}

// randomSound returns a sound cache of a valid world.
func randomSound(r *rand.Rand) impl.Cached {
	return fillSome(r, tagSome(r, randomWorld(r)))
}

// soundCached calls a function for all sound caches of bases in which each class has an attribute of one name or not, has a version or not,
// and this name of it is in the table or not.
func soundCached(bases [][]int, name int, visit func(impl.Cached)) {
	patternsOf(len(bases), func(has []bool) {
		w := worldOf(bases, object(len(bases)-1, name, 70))
		for c := range bases {
			if has[c] {
				w.Attrs[c] = attrs(attr(name, c%6, 10+c))
			}
		}
		patternsOf(len(bases), func(tagged []bool) {
			s := emptyCache(w)
			for c := range bases {
				if tagged[c] {
					s.Versions[c] = s.Next
					s.Next++
				}
			}
			patternsOf(len(bases), func(known []bool) {
				out := cloneCached(s)
				for c, v := range s.Versions {
					if known[c] && v == 0 {
						return
					}
					if known[c] {
						owner, _ := findByRule(w, c, name)
						out.Table[placeByRule(v, name)] = entry(v, name, owner)
					}
				}
				if isSoundByRule(out) {
					visit(out)
				}
			})
		})
	})
}

// patternsOf calls a function for all lists of as many marks.
func patternsOf(n int, visit func([]bool)) {
	for bits := range 1 << n {
		var list []bool
		for i := range n {
			list = append(list, bits>>i&1 == 1)
		}
		visit(list)
	}
}

// laterCache returns a world with a cache in which all versions are greater by a number.
func laterCache(s impl.Cached, more int) impl.Cached {
	out := cloneCached(s)
	out.Next += more
	out.Table = make([]impl.Entry, 8)
	for c, v := range s.Versions {
		if v > 0 {
			out.Versions[c] = v + more
		}
	}
	for _, e := range s.Table {
		if e.Version > 0 {
			out.Table[placeByRule(e.Version+more, e.Name)] = entry(e.Version+more, e.Name, e.Owner)
		}
	}
	return out
}

// forSound calls a function for many sound caches, each with names that matter in it: all patterns of one name of small bases,
// at the first versions or at the last ones, and larger ones made by a fixed rule.
func forSound(t *testing.T, visit func(s impl.Cached, names []int)) {
	t.Helper()
	r := source(80)
	i := 0
	allBases([][]int{{}}, 4, func(bases [][]int) {
		if !impl.AllOrders(bases) {
			return
		}
		soundCached(bases, 5, func(s impl.Cached) {
			i++
			if len(bases) < 4 || r.Intn(8) == 0 {
				visit(laterCache(s, numbers(0, 30-s.Next, 31-s.Next)[i%3]), numbers(5, 4))
			}
		})
	})
	for range 800 {
		visit(randomSound(r), r.Perm(impl.MaxName + 1)[:3])
	}
}

// forSoundClasses calls a function for each class of the caches of forSound.
func forSoundClasses(t *testing.T, visit func(s impl.Cached, c int)) {
	t.Helper()
	forSound(t, func(s impl.Cached, _ []int) {
		for c := range s.Versions {
			visit(s, c)
		}
	})
}

// forLooks calls a function for each class of the caches of forSound, with each name.
func forLooks(t *testing.T, visit func(s impl.Cached, c, name int)) {
	t.Helper()
	forSound(t, func(s impl.Cached, names []int) {
		for c := range s.Versions {
			for _, name := range names {
				visit(s, c, name)
			}
		}
	})
}

// randomCache returns a valid world with a cache, which need not be sound.
func randomCache(r *rand.Rand) impl.Cached {
	s := randomSound(r)
	for range r.Intn(4) {
		place, c, v := r.Intn(8), r.Intn(len(s.Versions)), r.Intn(s.Next)
		switch r.Intn(3) {
		case 0:
			s.Table[place].Owner = r.Intn(len(s.Versions)+1) - 1
		case 1:
			s.Table[place] = entry(append(numbers(v), s.Versions...)[r.Intn(len(s.Versions)+1)], r.Intn(10), c)
		case 2:
			if !isInUse(s, v) {
				s.Versions[c] = v
			}
		}
	}
	return s
}

// forCached calls a function for many valid worlds with caches, sound or not.
func forCached(t *testing.T, visit func(s impl.Cached)) {
	t.Helper()
	forSound(t, func(s impl.Cached, _ []int) { visit(s) })
	r := source(81)
	for range 1500 {
		visit(randomCache(r))
	}
}

// randomAsks returns valid asks of a world: of few or many names and classes, with few or many changes, some of which are not possible.
func randomAsks(r *rand.Rand, w impl.World) []impl.Ask {
	var list []impl.Ask
	names, classes, one := 1+r.Intn(10), 1+r.Intn(len(w.Bases)), 1+r.Intn(8)
	for range r.Intn(impl.MaxAsks + 1) {
		a := impl.Ask{Kind: impl.AsLook, Class: len(w.Bases) - 1 - r.Intn(classes), Attr: attr(r.Intn(names), r.Intn(6), r.Intn(100))}
		if r.Intn(one) == 0 {
			a.Kind = impl.AsSet + r.Intn(2)
			a.Class = r.Intn(len(w.Bases))
		}
		switch r.Intn(20) {
		case 0:
			a.Attr.Kind = append(odd(), 6)[r.Intn(7)]
		case 1:
			a.Attr.Value = append(numbers(-1, 100), odd()[1:3]...)[r.Intn(4)]
		}
		list = append(list, a)
	}
	return list
}

// forAsks calls a function for many valid asks of sound caches: all short lists of a few of a diamond, when versions are new, nearly used up, or used up,
// and longer ones made by a fixed rule.
func forAsks(t *testing.T, visit func(s impl.Cached, list []impl.Ask)) {
	t.Helper()
	r := source(82)
	w := worldOf(diamond(), object(3, 5, 70))
	w.Attrs[0] = attrs(attr(5, impl.AtPlain, 10))
	kinds := asks(look(3, 5), look(1, 5), look(3, 6), give(1, attr(5, impl.AtData, 20)), give(0, attr(6, impl.AtPlain, 30)), drop(0, 5), drop(1, 5), give(3, attr(5, 6, 0)))
	shortLists(kinds, nil, 4, func(list []impl.Ask) {
		s := emptyCache(w)
		s.Next = numbers(1, 27, 28, 30, 31)[r.Intn(5)]
		visit(s, list)
	})
	for range 1200 {
		s := randomSound(r)
		visit(s, randomAsks(r, s.World))
	}
}

// countLooks returns the number of asks that look for a name.
func countLooks(list []impl.Ask) int {
	n := 0
	for _, a := range list {
		if a.Kind == impl.AsLook {
			n++
		}
	}
	return n
}
