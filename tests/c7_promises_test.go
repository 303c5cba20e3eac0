package tests

import (
	"slices"
	"testing"

	"loop.example/objectmodel/impl"
)

// checkSound fails if a cache that was made of a sound one is not valid or not sound.
func checkSound(t *testing.T, what string, from, s impl.Cached) {
	t.Helper()
	if !impl.ValidCached(s) || !impl.IsSound(s) || !isSoundByRule(s) {
		t.Fatalf("%s of %v is not sound: %v", what, from, s)
	}
}

// keepsVersions reports whether all classes but some have the versions that they had.
func keepsVersions(before, after impl.Cached, but []int) bool {
	for c, v := range before.Versions {
		if after.Versions[c] != v && !slices.Contains(but, c) {
			return false
		}
	}
	return true
}

func TestPromise83CountersDoNotMatter(t *testing.T) {
	n := tally{}
	forCached(t, func(s impl.Cached) {
		empty := cloneCached(s)
		empty.Table = make([]impl.Entry, impl.TableSize)
		for _, some := range []impl.Cached{s, counted(s, 0, 0), empty, counted(empty, 0, 0), counted(s, 1000, 1000)} {
			if !impl.ValidCached(some) {
				t.Fatalf("ValidCached(%v), made of %v", some, s)
			}
		}
		if s.Hits > 0 && s.Misses > 0 && !slices.Equal(s.Table, empty.Table) {
			n["with counters and entries"]++
		}
		if s.Next == 31 {
			n["used up"]++
		}
		if !isSoundByRule(s) {
			n["not sound"]++
		}
	})
	n.need(t, 300, "with counters and entries", "used up", "not sound")
}

func TestPromise84NewCachesTellNoLies(t *testing.T) {
	n := tally{}
	forWorlds(t, func(w impl.World, _ []int) {
		s := impl.NewCached(w)
		if !equalCached(s, emptyCache(w)) {
			t.Fatalf("NewCached(%v) = %v", w, s)
		}
		checkSound(t, "NewCached", s, s)
		n["worlds"]++
	})
	n.need(t, 500, "worlds")
}

func TestPromise85TagsRise(t *testing.T) {
	n := tally{}
	forSoundClasses(t, func(s impl.Cached, c int) {
		got := impl.TagClass(s, c)
		if want := tagByRule(s, c); !equalCached(got, want) {
			t.Fatalf("TagClass(%v, %d) = %v, not %v", s, c, got, want)
		}
		checkSound(t, "TagClass", s, got)
		above, need := impl.AboveOf(s.World.Bases, c), untagged(s, c)
		if !keepsVersions(s, got, need) {
			t.Fatalf("TagClass(%v, %d) = %v changes others", s, c, got)
		}
		for _, a := range need {
			if v := got.Versions[a]; v > 0 && v < s.Next {
				t.Fatalf("TagClass(%v, %d) = %v gives an old version to %d", s, c, got, a)
			}
		}
		if s.Next+len(need) > 31 {
			n["used up"]++
			if got.Next != 31 || got.Versions[c] != 0 {
				t.Fatalf("TagClass(%v, %d) = %v", s, c, got)
			}
			if s.Next < 31 {
				n["not enough"]++
			}
			return
		}
		for _, a := range above {
			if got.Versions[a] == 0 {
				t.Fatalf("TagClass(%v, %d) = %v gives none to %d", s, c, got, a)
			}
		}
		switch {
		case len(need) == 0:
			n["had one"]++
		case len(need) < len(above):
			n["some had one"]++
		case len(need) > 1:
			n["none had one"]++
		}
		if got.Next == 31 && len(need) > 0 {
			n["the last version"]++
		}
	})
	n.need(t, 100, "used up", "not enough", "had one", "some had one", "none had one", "the last version")
}

// TestPromise85VersionsAreNotGivenAgain tags and untags a class until versions are used up: no class gets one that another one had.
func TestPromise85VersionsAreNotGivenAgain(t *testing.T) {
	for _, bases := range [][][]int{line(1), line(4), diamond(), dense(7), line(12)} {
		s := impl.NewCached(worldOf(bases))
		had := map[int]bool{}
		for range 40 {
			s = impl.TagClass(s, len(bases)-1)
			for _, v := range s.Versions {
				if v > 0 && had[v] {
					t.Fatalf("the version %d is given again: %v", v, s)
				}
				had[v] = true
			}
			s = impl.UntagClass(s, 0)
		}
		for v := 1; v <= impl.MaxVersion; v++ {
			if !had[v] {
				t.Fatalf("the version %d is not given to classes of %v", v, bases)
			}
		}
		if s.Next != impl.MaxVersion+1 {
			t.Fatalf("Next = %d", s.Next)
		}
	}
}

func TestPromise86ChangesAreToldToAllBelow(t *testing.T) {
	n := tally{}
	forSoundClasses(t, func(s impl.Cached, c int) {
		got := impl.UntagClass(s, c)
		if want := untagByRule(s, c); !equalCached(got, want) {
			t.Fatalf("UntagClass(%v, %d) = %v, not %v", s, c, got, want)
		}
		checkSound(t, "UntagClass", s, got)
		below := impl.BelowOf(s.World.Bases, c)
		for _, d := range below {
			if got.Versions[d] != 0 {
				t.Fatalf("UntagClass(%v, %d) = %v leaves %d as it was", s, c, got, d)
			}
			if d != c && s.Versions[d] > 0 {
				n["below"]++
			}
		}
		if !keepsVersions(s, got, below) {
			t.Fatalf("UntagClass(%v, %d) = %v changes others", s, c, got)
		}
		switch {
		case s.Versions[c] == 0:
			n["had none"]++
		case c == 0 && len(s.Versions) > 1:
			n["the root"]++
		case slices.Max(got.Versions) > 0:
			n["others kept theirs"]++
		}
	})
	n.need(t, 300, "below", "had none", "the root", "others kept theirs")
}

func TestPromise87CachesFindWhatIsThere(t *testing.T) {
	n := tally{}
	forLooks(t, func(s impl.Cached, c, name int) {
		got, owner := impl.LookCached(s, c, name)
		want, wantOwner := lookByRule(s, c, name)
		if plain, _ := impl.FindIn(s.World, c, name); owner != plain || owner != wantOwner || !equalCached(got, want) {
			t.Fatalf("LookCached(%v, %d, %d) = %v, %d, not %v, %d", s, c, name, got, owner, want, wantOwner)
		}
		checkSound(t, "LookCached", s, got)
		again, ownerAgain := impl.LookCached(got, c, name)
		wantAgain := counted(got, min(1000, got.Hits+1), got.Misses)
		if got.Versions[c] == 0 {
			wantAgain = counted(got, got.Hits, min(1000, got.Misses+1))
			n["without a version"]++
		}
		if ownerAgain != owner || !equalCached(again, wantAgain) {
			t.Fatalf("LookCached(%v, %d, %d) = %v, %d", got, c, name, again, ownerAgain)
		}
		_, known := knownByRule(s, c, name)
		switch {
		case known && owner < 0:
			n["known to be in none"]++
		case known:
			n["known"]++
		case owner < 0:
			n["in none"]++
		default:
			n["learned"]++
		}
	})
	n.need(t, 100, "without a version", "known to be in none", "known", "in none", "learned")
}

// TestPromise87AnyCacheIsLookedInByRule has caches that are not sound, in which an entry is believed if it is one of the class and the name at its place.
func TestPromise87AnyCacheIsLookedInByRule(t *testing.T) {
	n := tally{}
	r := source(83)
	for range 10000 {
		s := randomCache(r)
		c, name := r.Intn(len(s.Versions)), r.Intn(impl.MaxName+1)
		if e := s.Table[r.Intn(8)]; r.Intn(2) == 0 && isInUse(s, e.Version) {
			c, name = slices.Index(s.Versions, e.Version), e.Name
		}
		got, owner := impl.LookCached(s, c, name)
		want, wantOwner := lookByRule(s, c, name)
		if owner != wantOwner || !equalCached(got, want) {
			t.Fatalf("LookCached(%v, %d, %d) = %v, %d, not %v, %d", s, c, name, got, owner, want, wantOwner)
		}
		if plain, _ := findByRule(s.World, c, name); plain != owner {
			n["lies"]++
		}
		if sound := impl.IsSound(s); sound != isSoundByRule(s) {
			t.Fatalf("IsSound(%v) = %v", s, sound)
		} else if sound {
			n["sound"]++
		} else {
			n["not sound"]++
		}
		if with, bare := impl.TagClass(s, c), impl.UntagClass(s, c); !equalCached(with, tagByRule(s, c)) || !equalCached(bare, untagByRule(s, c)) {
			t.Fatalf("TagClass and UntagClass of %v, %d = %v, %v", s, c, with, bare)
		}
	}
	n.need(t, 50, "lies", "sound", "not sound")
}

func TestPromise88LookingDoesNotDisturb(t *testing.T) {
	n := tally{}
	r := source(84)
	forLooks(t, func(s impl.Cached, c, name int) {
		if len(s.Versions) > 2 && r.Intn(4) > 0 {
			return
		}
		next, _ := impl.LookCached(s, c, name)
		for d := range s.Versions {
			for _, other := range numbers(name, r.Intn(impl.MaxName+1)) {
				_, before := impl.LookCached(s, d, other)
				_, after := impl.LookCached(next, d, other)
				if want, _ := findByRule(s.World, d, other); before != want || after != want {
					t.Fatalf("LookCached(%v, %d, %d) = %d, and was %d before %d, %d", next, d, other, after, before, c, name)
				}
				_, was := knownByRule(s, d, other)
				_, is := knownByRule(next, d, other)
				switch {
				case was && !is:
					n["forgotten"]++
				case d != c && other == name && is:
					n["known of another class"]++
				}
			}
		}
	})
	n.need(t, 20, "forgotten")
	n.need(t, 200, "known of another class")
}

// TestPromise88AllNamesAfterOne has all names of all classes of larger caches after one name was looked for.
func TestPromise88AllNamesAfterOne(t *testing.T) {
	r := source(85)
	for range 60 {
		s := randomSound(r)
		next, _ := impl.LookCached(s, r.Intn(len(s.Versions)), r.Intn(impl.MaxName+1))
		for d := range s.Versions {
			for name := range impl.MaxName + 1 {
				want, _ := findByRule(s.World, d, name)
				if _, owner := impl.LookCached(next, d, name); owner != want {
					t.Fatalf("LookCached(%v, %d, %d) = %d, not %d", next, d, name, owner, want)
				}
			}
		}
	}
}

// checkAllFound fails if some class of a cache finds anything but what is there under a name.
func checkAllFound(t *testing.T, s impl.Cached, name int) {
	t.Helper()
	for d := range s.Versions {
		want, _ := findByRule(s.World, d, name)
		if _, owner := impl.LookCached(s, d, name); owner != want {
			t.Fatalf("LookCached(%v, %d, %d) = %d, not %d", s, d, name, owner, want)
		}
	}
}

func TestPromise89ChangedClassesAreNotBelieved(t *testing.T) {
	n := tally{}
	i := 0
	forLooks(t, func(s impl.Cached, c, name int) {
		i++
		a := attr(name, i%6, i%100)
		got, ok := impl.SetCached(s, c, a)
		want, can := setCachedByRule(s, c, a)
		if ok != can || ok && !equalCached(got, want) || !ok && !isZeroCached(got) {
			t.Fatalf("SetCached(%v, %d, %v) = %v, %v, not %v, %v", s, c, a, got, ok, want, can)
		}
		if !ok {
			n["refused"]++
			return
		}
		checkSound(t, "SetCached", s, got)
		if w, _ := impl.SetClassAttr(s.World, c, a); !equalWorlds(got.World, w) {
			t.Fatalf("SetCached(%v, %d, %v) = %v, not of %v", s, c, a, got, w)
		}
		if _, owner := impl.LookCached(got, c, name); owner != c {
			t.Fatalf("LookCached(%v, %d, %d) = %d", got, c, name, owner)
		}
		if e, known := knownByRule(s, c, name); known && e.Owner != c {
			n["known to be above"]++
		}
		for d := c + 1; d < len(s.Versions); d++ {
			if e, known := knownByRule(s, d, name); known && isAboveClass(s.World.Bases, d, c) && e.Owner != c {
				n["known below"]++
				checkAllFound(t, got, name)
				break
			}
		}
	})
	n.need(t, 3, "refused")
	n.need(t, 200, "known to be above", "known below")
}

func TestPromise90WhatIsTakenAwayIsNotFoundAnyMore(t *testing.T) {
	n := tally{}
	forLooks(t, func(s impl.Cached, c, name int) {
		got, ok := impl.DropCached(s, c, name)
		want, can := dropCachedByRule(s, c, name)
		if ok != can || ok && !equalCached(got, want) || !ok && !isZeroCached(got) {
			t.Fatalf("DropCached(%v, %d, %d) = %v, %v, not %v, %v", s, c, name, got, ok, want, can)
		}
		if !ok {
			n["refused"]++
			return
		}
		checkSound(t, "DropCached", s, got)
		rest := append(impl.OwnersOf(s.World, c, name)[1:], -1)
		if _, owner := impl.LookCached(got, c, name); owner != rest[0] {
			t.Fatalf("LookCached(%v, %d, %d) = %d, of %v", got, c, name, owner, rest)
		}
		if len(rest) > 1 {
			n["found next"]++
		}
		for d := c; d < len(s.Versions); d++ {
			if e, known := knownByRule(s, d, name); known && e.Owner == c {
				n["known"]++
				checkAllFound(t, got, name)
				break
			}
		}
	})
	n.need(t, 300, "refused", "found next", "known")
}

func TestPromise91SoundCachesCanForget(t *testing.T) {
	n := tally{}
	forSound(t, func(s impl.Cached, _ []int) {
		checkSound(t, "a sound cache", s, s)
		checkSound(t, "no versions", s, withVersions(s, make([]int, len(s.Versions))...))
		for place, e := range s.Table {
			if isInUse(s, e.Version) {
				n["true entries"]++
			} else if e.Version > 0 {
				n["stale entries"]++
			}
			checkSound(t, "one entry less", s, withEntry(s, place, impl.Entry{}))
		}
	})
	n.need(t, 300, "true entries", "stale entries")
}

// TestPromise91LiesAreTold makes each entry of a class of sound caches an untrue one, and each a misplaced one, which are not sound any more.
func TestPromise91LiesAreTold(t *testing.T) {
	n := tally{}
	forSound(t, func(s impl.Cached, _ []int) {
		for place, e := range s.Table {
			if !isInUse(s, e.Version) {
				continue
			}
			n["entries"]++
			// Another owner, from -1 up to the last class, or the same one.
			lie := withEntry(s, place, entry(e.Version, e.Name, len(s.Versions)-2-e.Owner))
			misplaced := withEntry(withEntry(s, place, impl.Entry{}), (place+1)%8, e)
			if impl.IsSound(lie) != (lie.Table[place] == e) || impl.IsSound(misplaced) {
				t.Fatalf("IsSound(%v) = %v, and misplaced %v", lie, impl.IsSound(lie), impl.IsSound(misplaced))
			}
		}
		for c := range s.Versions {
			bare := cloneCached(s)
			bare.Versions[c] = 0
			isNeeded := false
			for _, d := range impl.BelowOf(s.World.Bases, c) {
				isNeeded = isNeeded || bare.Versions[d] > 0
			}
			if isNeeded {
				n["versions"]++
			}
			if got := impl.IsSound(bare); got == isNeeded {
				t.Fatalf("IsSound(%v) = %v", bare, got)
			}
		}
	})
	n.need(t, 300, "entries", "versions")
}

func TestPromise92AsksCanBeLeftOut(t *testing.T) {
	n := tally{}
	forAsks(t, func(s impl.Cached, list []impl.Ask) {
		if !impl.ValidAsks(s.World, list) {
			t.Fatalf("ValidAsks(%v, %v)", s.World, list)
		}
		if len(list) == impl.MaxAsks {
			n["as many as can be"]++
		}
		for i := range list {
			if len(list) > 5 && i%5 > 0 {
				continue
			}
			n["left out"]++
			if !impl.ValidAsks(s.World, without(list, i)) {
				t.Fatalf("ValidAsks(%v, %v)", s.World, without(list, i))
			}
		}
	})
	n.need(t, 10, "as many as can be")
	n.need(t, 1000, "left out")
}

func TestPromise93AnswersFollowEachOther(t *testing.T) {
	n := tally{}
	r := source(86)
	forAsks(t, func(s impl.Cached, list []impl.Ask) {
		got := impl.RunPlain(s.World, list)
		if want, _ := plainByRule(s.World, list); !slices.Equal(got, want) {
			t.Fatalf("RunPlain(%v, %v) = %v, not %v", s.World, list, got, want)
		}
		cut := r.Intn(len(list) + 1)
		if first := impl.RunPlain(s.World, list[:cut]); !slices.Equal(first, got[:cut]) {
			t.Fatalf("RunPlain(%v, %v) = %v, but of the first %d %v", s.World, list, got, cut, first)
		}
		for i, a := range list {
			switch {
			case a.Kind != impl.AsLook && got[i] == 0:
				n["refused"]++
			case a.Kind != impl.AsLook:
				n["changes"]++
			case got[i] < 0:
				n["found in none"]++
			default:
				n["found"]++
				if !isAboveClass(s.World.Bases, a.Class, got[i]) {
					t.Fatalf("RunPlain(%v, %v) = %v: %d is not above %d", s.World, list, got, got[i], a.Class)
				}
			}
		}
	})
	n.need(t, 1000, "refused", "changes", "found in none", "found")
}

func TestPromise94CachesAreNotSeen(t *testing.T) {
	n := tally{}
	forAsks(t, func(s impl.Cached, list []impl.Ask) {
		got, next := impl.RunCached(s, list)
		if plain := impl.RunPlain(s.World, list); !slices.Equal(got, plain) {
			t.Fatalf("RunCached(%v, %v) = %v, and RunPlain %v", s, list, got, plain)
		}
		want, wantNext := asksByRule(s, list)
		if !slices.Equal(got, want) || !equalCached(next, wantNext) {
			t.Fatalf("RunCached(%v, %v) = %v, %v, not %v, %v", s, list, got, next, want, wantNext)
		}
		checkSound(t, "RunCached", s, next)
		if _, w := plainByRule(s.World, list); !equalWorlds(next.World, w) {
			t.Fatalf("RunCached(%v, %v) = %v, not of %v", s, list, next, w)
		}
		if next.Next == 31 {
			n["used up"]++
		}
		if next.Hits > s.Hits {
			n["with hits"]++
		}
	})
	n.need(t, 500, "used up", "with hits")
}

// TestPromise94AsksFollowEachOther has that asks are LookCached, SetCached and DropCached, one after the other, also where a cache is not sound.
func TestPromise94AsksFollowEachOther(t *testing.T) {
	n := tally{}
	r := source(87)
	for range 800 {
		s := randomCache(r)
		list := randomAsks(r, s.World)
		got, next := impl.RunCached(s, list)
		var want []int
		by := s
		for _, a := range list {
			answer, ok := 0, true
			changed := by
			switch a.Kind {
			case impl.AsLook:
				changed, answer = impl.LookCached(by, a.Class, a.Attr.Name)
			case impl.AsSet:
				changed, ok = impl.SetCached(by, a.Class, a.Attr)
			case impl.AsDrop:
				changed, ok = impl.DropCached(by, a.Class, a.Attr.Name)
			}
			if ok {
				by = changed
			}
			if ok && a.Kind != impl.AsLook {
				answer = 1
			}
			want = append(want, answer)
		}
		if !slices.Equal(got, want) || !equalCached(next, by) {
			t.Fatalf("RunCached(%v, %v) = %v, %v, not %v, %v", s, list, got, next, want, by)
		}
		if !slices.Equal(got, impl.RunPlain(s.World, list)) {
			n["lies"]++
		}
	}
	n.need(t, 5, "lies")
}

func TestPromise95EachLookIsAHitOrAMiss(t *testing.T) {
	n := tally{}
	forAsks(t, func(s impl.Cached, list []impl.Ask) {
		_, counted0 := impl.RunCached(counted(s, 0, 0), list)
		looks := countLooks(list)
		if counted0.Hits+counted0.Misses != looks {
			t.Fatalf("RunCached(%v, %v): %d hits and %d misses", s, list, counted0.Hits, counted0.Misses)
		}
		// Each of both is counted up to where it stops, whatever the other one is.
		_, next := impl.RunCached(s, list)
		if next.Hits != min(1000, s.Hits+counted0.Hits) || next.Misses != min(1000, s.Misses+counted0.Misses) {
			t.Fatalf("RunCached(%v, %v): %d hits and %d misses", s, list, next.Hits, next.Misses)
		}
		switch {
		case next.Hits+next.Misses < s.Hits+s.Misses+looks:
			n["not counted any more"]++
		case counted0.Hits > 0 && counted0.Misses > 0:
			n["both"]++
		}
	})
	n.need(t, 300, "not counted any more", "both")
}

func TestPromise96StaleEntriesAreNeverUsed(t *testing.T) {
	n := tally{}
	check := func(s impl.Cached, c, name int) {
		stale := impl.StaleOf(s)
		if want := staleByRule(s); !slices.Equal(stale, want) {
			t.Fatalf("StaleOf(%v) = %v, not %v", s, stale, want)
		}
		fresh := cloneCached(s)
		for _, place := range stale {
			fresh.Table[place] = impl.Entry{}
			if s.Table[place].Name == name {
				n["stale entries of the name"]++
			}
		}
		next, owner := impl.LookCached(s, c, name)
		freshNext, freshOwner := impl.LookCached(fresh, c, name)
		if owner != freshOwner || next.Hits != freshNext.Hits || next.Misses != freshNext.Misses || !slices.Equal(next.Versions, freshNext.Versions) {
			t.Fatalf("LookCached(%v, %d, %d) = %v, %d, and without stale entries %v, %d", s, c, name, next, owner, freshNext, freshOwner)
		}
		if len(stale) > 0 && next.Hits > s.Hits {
			n["hits beside stale entries"]++
		}
	}
	forLooks(t, check)
	r := source(88)
	for range 2000 {
		s := randomCache(r)
		check(s, r.Intn(len(s.Versions)), r.Intn(impl.MaxName+1))
	}
	n.need(t, 50, "stale entries of the name", "hits beside stale entries")
}

// TestPromise96EntriesGetStale has that a change makes just those entries stale whose classes are below, and that all asks are answered as without them.
func TestPromise96EntriesGetStale(t *testing.T) {
	n := tally{}
	r := source(89)
	for range 800 {
		s := randomSound(r)
		c := r.Intn(len(s.Versions))
		next := impl.UntagClass(s, c)
		var want []int
		for place, e := range s.Table {
			owner := slices.Index(s.Versions, e.Version)
			if e.Version > 0 && (owner < 0 || isAboveClass(s.World.Bases, owner, c)) {
				want = append(want, place)
			}
		}
		stale := impl.StaleOf(next)
		if !slices.Equal(stale, want) {
			t.Fatalf("StaleOf(%v) = %v, not %v", next, stale, want)
		}
		if len(stale) > len(impl.StaleOf(s)) {
			n["got stale"]++
		}
		fresh := cloneCached(next)
		for _, place := range stale {
			fresh.Table[place] = impl.Entry{}
		}
		list := randomAsks(r, s.World)
		answers, after := impl.RunCached(next, list)
		freshAnswers, freshAfter := impl.RunCached(fresh, list)
		if !slices.Equal(answers, freshAnswers) || after.Hits != freshAfter.Hits || after.Misses != freshAfter.Misses {
			t.Fatalf("RunCached(%v, %v) = %v, %v, and without stale entries %v, %v", next, list, answers, after, freshAnswers, freshAfter)
		}
	}
	n.need(t, 50, "got stale")
}
