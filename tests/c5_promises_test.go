package tests

import (
	"slices"
	"testing"

	"loop.example/objectmodel/impl"
)

func TestPromise56FunctionsCanBeLeftOut(t *testing.T) {
	n := tally{}
	forDrops(t, func(s impl.Script, c, name int, next impl.Script) {
		n["bodies"]++
		if len(s.Bodies[c]) > 1 {
			n["one of several"]++
		}
		want := withBodies(s, c, without(s.Bodies[c], bodyAt(s, c, name)))
		if !impl.ValidScript(s) || !impl.ValidScript(next) || !equalScripts(next, want) {
			t.Fatalf("DropBody(%v, %d, %d) = %v", s, c, name, next)
		}
		if again := impl.DropBody(next, c, name); !isZeroScript(again) {
			t.Fatalf("DropBody(%v, %d, %d) = %v", next, c, name, again)
		}
	})
	n.need(t, 2000, "bodies", "one of several")
}

// TestPromise56BodiesThatAreNotThere has that only a body of the class itself can be dropped, and not one of a class above it.
func TestPromise56BodiesThatAreNotThere(t *testing.T) {
	n := tally{}
	forCalls(t, func(s impl.Script, c, name int) {
		if bodyAt(s, c, name) >= 0 {
			return
		}
		if len(impl.ChainOf(s, c, name)) > 0 {
			n["above"]++
		}
		if got := impl.DropBody(s, c, name); !isZeroScript(got) {
			t.Fatalf("DropBody(%v, %d, %d) = %v", s, c, name, got)
		}
	})
	n.need(t, 500, "above")
}

func TestPromise57NextClassesMakeTheOrder(t *testing.T) {
	n := tally{}
	forClasses(t, func(bases [][]int, c int) {
		order, ok := impl.OrderOf(bases, c)
		made := numbers(c)
		for next := impl.NextAfter(bases, c, c); next >= 0 && len(made) <= len(bases); next = impl.NextAfter(bases, c, next) {
			made = append(made, next)
		}
		switch {
		case !ok && len(made) > 1:
			t.Fatalf("NextAfter tells %v of %v, %d", made, bases, c)
		case ok && !slices.Equal(made, order):
			t.Fatalf("NextAfter tells %v of %v, %d, not %v", made, bases, c, order)
		case !ok:
			n["without order"]++
		case len(order) > 3:
			n["long"]++
		}
		for after := -1; after <= len(bases); after++ {
			i := slices.Index(order, after)
			if got := impl.NextAfter(bases, c, after); (got == -1) != (i < 0 || i == len(order)-1) {
				t.Fatalf("NextAfter(%v, %d, %d) = %d", bases, c, after, got)
			}
		}
	})
	n.need(t, 500, "without order", "long")
}

func TestPromise58ChainsAreMadeBySuper(t *testing.T) {
	n := tally{}
	forCalls(t, func(s impl.Script, c, name int) {
		chain := impl.ChainOf(s, c, name)
		if want := chainByRule(s, c, name); !slices.Equal(chain, want) {
			t.Fatalf("ChainOf(%v, %d, %d) = %v, not %v", s, c, name, chain, want)
		}
		var made []int
		first := impl.OwnerAfter(s, c, c, name)
		if bodyAt(s, c, name) >= 0 {
			first = c
		}
		for o := first; o >= 0 && len(made) <= len(s.Bases); o = impl.OwnerAfter(s, c, o, name) {
			made = append(made, o)
		}
		if !slices.Equal(chain, made) {
			t.Fatalf("ChainOf(%v, %d, %d) = %v, and %v by OwnerAfter", s, c, name, chain, made)
		}
		if len(chain) > 2 {
			n["long"]++
		}
	})
	n.need(t, 500, "long")
}

func TestPromise59SuperDependsOnTheObject(t *testing.T) {
	n := tally{}
	forCalls(t, func(s impl.Script, c, name int) {
		order := orderOfScript(s, c)
		for behind := range s.Bases {
			got := impl.OwnerAfter(s, c, behind, name)
			at := slices.Index(order, behind)
			if got == -1 {
				n["none"]++
				if at >= 0 && slices.ContainsFunc(order[at+1:], func(o int) bool { return bodyAt(s, o, name) >= 0 }) {
					t.Fatalf("OwnerAfter(%v, %d, %d, %d) = -1", s, c, behind, name)
				}
				continue
			}
			place := slices.Index(order, got)
			if at < 0 || place <= at || bodyAt(s, got, name) < 0 {
				t.Fatalf("OwnerAfter(%v, %d, %d, %d) = %d", s, c, behind, name, got)
			}
			for _, between := range order[at+1 : place] {
				if bodyAt(s, between, name) >= 0 {
					t.Fatalf("OwnerAfter(%v, %d, %d, %d) = %d, behind %d", s, c, behind, name, got, between)
				}
			}
			n["found"]++
			if impl.OwnerAfter(s, behind, behind, name) != got {
				n["another one for an object of the class itself"]++
			}
		}
	})
	n.need(t, 100, "none", "found", "another one for an object of the class itself")
}

func TestPromise60MoreFuelRunsOn(t *testing.T) {
	n := tally{}
	i := 0
	forCalls(t, func(s impl.Script, c, name int) {
		i++
		last := impl.Run{}
		for _, fuel := range numbers(0, 1, 2, 3, 4, 5+i%5, 10+i%190, impl.MaxFuel) {
			run := impl.RunCall(s, c, name, fuel)
			if want := runByRule(s, c, name, fuel); !equalRuns(run, want) {
				t.Fatalf("RunCall(%v, %d, %d, %d) = %v, not %v", s, c, name, fuel, run, want)
			}
			if len(last.Said) > len(run.Said) || !slices.Equal(last.Said, run.Said[:len(last.Said)]) {
				t.Fatalf("RunCall(%v, %d, %d, %d) = %v, and with less fuel %v", s, c, name, fuel, run, last)
			}
			// A run that does not end for want of fuel does nothing else with more.
			if fuel > 0 && last.End != impl.RuFuel && (run.End != last.End || len(run.Said) != len(last.Said)) {
				t.Fatalf("RunCall(%v, %d, %d, %d) = %v, and with less fuel %v", s, c, name, fuel, run, last)
			}
			if done := fuel - run.Left; len(run.Said) > done || run.End == impl.RuFuel && run.Left > 0 {
				t.Fatalf("RunCall(%v, %d, %d, %d) = %v", s, c, name, fuel, run)
			}
			n[[]string{"done", "none", "fuel"}[run.End]]++
			last = run
		}
	})
	n.need(t, 1000, "done", "none", "fuel")
}

// TestPromise60EachFuelOneByOne has each fuel that there may be: one more does one act more, or none.
func TestPromise60EachFuelOneByOne(t *testing.T) {
	n := tally{}
	r := source(51)
	for range 60 {
		s := randomScript(r)
		c, name := len(s.Bases)-1, r.Intn(impl.MaxName+1)
		if chain := impl.ChainOf(s, c, name); len(chain) == 0 {
			continue
		}
		n["calls"]++
		last := impl.RunCall(s, c, name, 0)
		for fuel := 1; fuel <= impl.MaxFuel; fuel++ {
			run := impl.RunCall(s, c, name, fuel)
			if want := runByRule(s, c, name, fuel); !equalRuns(run, want) {
				t.Fatalf("RunCall(%v, %d, %d, %d) = %v, not %v", s, c, name, fuel, run, want)
			}
			more, rest := len(run.Said)-len(last.Said), run.Left-last.Left
			if last.End == impl.RuFuel && (more > 1 || rest != 0) || last.End != impl.RuFuel && (more != 0 || rest != 1) {
				t.Fatalf("RunCall(%v, %d, %d, %d) = %v, and %v with 1 less", s, c, name, fuel, run, last)
			}
			last = run
		}
	}
	n.need(t, 10, "calls")
}

func TestPromise61EachClassSpeaksOnceInOrderAndBack(t *testing.T) {
	n := tally{}
	forPolite(t, func(s impl.Script, c, name int) {
		says := impl.PoliteSays(s, c, name)
		least := impl.LeastFuel(s, c, name)
		for _, fuel := range numbers(least, least+1, impl.MaxFuel) {
			run := impl.RunCall(s, c, name, fuel)
			if want := (impl.Run{Said: says, End: impl.RuDone, Left: fuel - least}); !equalRuns(run, want) {
				t.Fatalf("RunCall(%v, %d, %d, %d) = %v, not %v", s, c, name, fuel, run, want)
			}
		}
		// Each act but those of super is said once: there is one of these less than classes.
		chain := impl.ChainOf(s, c, name)
		if least != len(says)+len(chain)-1 {
			t.Fatalf("LeastFuel(%v, %d, %d) = %d, of %v that say %v", s, c, name, least, chain, says)
		}
		for _, o := range chain {
			count := 0
			for _, a := range s.Bodies[o][bodyAt(s, o, name)].Acts {
				if a.Kind == impl.AcSay {
					count++
				}
			}
			for _, one := range says {
				if one.Class == o {
					count--
				}
			}
			if count != 0 {
				t.Fatalf("PoliteSays(%v, %d, %d) = %v", s, c, name, says)
			}
		}
		if len(chain) > 2 {
			n["long"]++
		}
	})
	n.need(t, 200, "long")
}

func TestPromise61BodiesWorkTogetherByTheirActs(t *testing.T) {
	n := tally{}
	forCalls(t, func(s impl.Script, c, name int) {
		polite, want := impl.IsPolite(s, c, name), isPoliteByRule(s, c, name)
		if polite != want {
			t.Fatalf("IsPolite(%v, %d, %d) = %v", s, c, name, polite)
		}
		if says := impl.PoliteSays(s, c, name); !polite && says != nil {
			t.Fatalf("PoliteSays(%v, %d, %d) = %v", s, c, name, says)
		}
		if polite {
			n["polite"]++
		} else {
			n["not"]++
		}
	})
	n.need(t, 1000, "polite", "not")
}

func TestPromise62CallsWithoutBodiesEndAtOnce(t *testing.T) {
	n := tally{}
	forScripts(t, func(s impl.Script, _ []int) {
		c := len(s.Bases) - 1
		for name := -1; name <= impl.MaxName+1; name++ {
			run := impl.RunCall(s, c, name, 7)
			if none := equalRuns(run, impl.Run{End: impl.RuNone, Left: 7}); len(impl.ChainOf(s, c, name)) == 0 {
				n["none"]++
				if !none || impl.LeastFuel(s, c, name) != 0 || impl.IsPolite(s, c, name) {
					t.Fatalf("RunCall(%v, %d, %d, 7) = %v", s, c, name, run)
				}
			} else if n["some"]++; none {
				t.Fatalf("RunCall(%v, %d, %d, 7) = %v", s, c, name, run)
			}
		}
	})
	n.need(t, 1000, "none", "some")
}

func TestPromise63JustEnoughFuelIsEnough(t *testing.T) {
	n := tally{}
	forCalls(t, func(s impl.Script, c, name int) {
		least := impl.LeastFuel(s, c, name)
		if least < 0 {
			n["never"]++
			if run := impl.RunCall(s, c, name, impl.MaxFuel); least != -1 || run.End != impl.RuFuel || run.Left != 0 {
				t.Fatalf("LeastFuel(%v, %d, %d) = %d, and RunCall %v", s, c, name, least, run)
			}
			return
		}
		enough := impl.RunCall(s, c, name, least)
		if enough.End == impl.RuFuel || enough.Left != 0 {
			t.Fatalf("LeastFuel(%v, %d, %d) = %d, and RunCall %v", s, c, name, least, enough)
		}
		n[[]string{"done", "none"}[enough.End]]++
		if least == 0 {
			n["without fuel"]++
			return
		}
		if less := impl.RunCall(s, c, name, least-1); less.End != impl.RuFuel || less.Left != 0 {
			t.Fatalf("LeastFuel(%v, %d, %d) = %d, and RunCall with 1 less %v", s, c, name, least, less)
		}
	})
	n.need(t, 500, "never", "done", "none", "without fuel")
}

func TestPromise63TheLeastFuelByTrying(t *testing.T) {
	n := tally{}
	r := source(52)
	for range 3000 {
		s := randomScript(r)
		c, name := r.Intn(len(s.Bases)), r.Intn(impl.MaxName+1)
		want := leastByTrying(s, c, name)
		if got := impl.LeastFuel(s, c, name); got != want {
			t.Fatalf("LeastFuel(%v, %d, %d) = %d, not %d", s, c, name, got, want)
		}
		switch {
		case want < 0:
			n["never"]++
		case want > 5:
			n["long"]++
		}
	}
	n.need(t, 20, "never", "long")
}

func TestPromise64BodiesThatWorkTogetherDoSoForEachClassBehind(t *testing.T) {
	n := tally{}
	forPolite(t, func(s impl.Script, c, name int) {
		chain := impl.ChainOf(s, c, name)
		for i, o := range chain {
			if !slices.Equal(impl.ChainOf(s, o, name), chain[i:]) {
				n["another chain"]++
				continue
			}
			if !impl.IsPolite(s, o, name) {
				t.Fatalf("IsPolite(%v, %d, %d) is false, and true for %d", s, o, name, c)
			}
			if i > 0 {
				n["rest"]++
			}
		}
	})
	n.need(t, 40, "another chain", "rest")
}

func TestPromise65WhoeverSpeaksIsInTheChain(t *testing.T) {
	n := tally{}
	forPolite(t, func(s impl.Script, c, name int) {
		chain, says := impl.ChainOf(s, c, name), impl.PoliteSays(s, c, name)
		for _, one := range says {
			if !slices.Contains(chain, one.Class) {
				t.Fatalf("PoliteSays(%v, %d, %d) = %v, of %v", s, c, name, says, chain)
			}
		}
		if len(chain) == 1 {
			n["the only one"]++
			return
		}
		less := impl.DropBody(s, chain[0], name)
		others := slices.DeleteFunc(slices.Clone(says), func(one impl.Said) bool { return one.Class == chain[0] })
		if got := impl.PoliteSays(less, c, name); !slices.Equal(got, others) || !impl.IsPolite(less, c, name) {
			t.Fatalf("PoliteSays(%v, %d, %d) = %v, not %v", less, c, name, got, others)
		}
		if len(others) > 0 && len(others) < len(says) {
			n["others"]++
		}
	})
	n.need(t, 200, "the only one", "others")
}

func TestPromise66DroppedBodiesAreSkipped(t *testing.T) {
	n := tally{}
	forDrops(t, func(s impl.Script, c, name int, next impl.Script) {
		for d := range s.Bases {
			chain := impl.ChainOf(s, d, name)
			want := slices.DeleteFunc(slices.Clone(chain), func(o int) bool { return o == c })
			if got := impl.ChainOf(next, d, name); !slices.Equal(got, want) {
				t.Fatalf("ChainOf(%v, %d, %d) = %v after %d lost its body, and was %v", next, d, name, got, c, chain)
			}
			if len(want) < len(chain) {
				n["skipped"]++
			} else {
				n["as before"]++
			}
		}
		for other := range impl.MaxName + 1 {
			if other != name && !slices.Equal(impl.ChainOf(s, c, other), impl.ChainOf(next, c, other)) {
				t.Fatalf("ChainOf(%v, %d, %d) changed with the name %d", next, c, other, name)
			}
		}
	})
	n.need(t, 1000, "skipped", "as before")
}

// superByRule returns what super finds for an object: what the object finds without its pairs and without the attributes of all other classes.
func superByRule(w impl.World, x, behind, name int) impl.Found {
	order := orderIn(w, w.Objects[x].Class)
	at := slices.Index(order, behind)
	alone := withPairs(w, x, nil)
	for i := range alone.Attrs {
		if at < 0 || slices.Index(order, i) <= at {
			alone.Attrs[i] = nil
		}
	}
	return getByRule(alone, x, name)
}

func TestPromise67SuperLooksBehind(t *testing.T) {
	n := tally{}
	forGets(t, func(w impl.World, x, name int) {
		order := orderIn(w, w.Objects[x].Class)
		for behind := range w.Bases {
			got := impl.SuperAttr(w, x, behind, name)
			if want := superByRule(w, x, behind, name); got != want {
				t.Fatalf("SuperAttr(%v, %d, %d, %d) = %v, not %v", w, x, behind, name, got, want)
			}
			at := slices.Index(order, behind)
			rest := slices.DeleteFunc(impl.OwnersOf(w, w.Objects[x].Class, name), func(o int) bool {
				return at < 0 || slices.Index(order, o) <= at
			})
			if got.Owner != append(rest, -1)[0] || got.How == impl.FoOwn || (got.How == impl.FoNone) != (len(rest) == 0) {
				t.Fatalf("SuperAttr(%v, %d, %d, %d) = %v, of %v", w, x, behind, name, got, rest)
			}
			switch {
			case at < 0:
				n["not in the order"]++
			case len(rest) == 0:
				n["none behind"]++
			case pairAt(w, x, name) >= 0:
				n["not the pair"]++
			default:
				n["behind"]++
			}
		}
	})
	n.need(t, 500, "not in the order", "none behind", "not the pair", "behind")
}

func TestPromise68SuperOfAClassThatHasNoneOfItsOwnIsAsWithoutSuper(t *testing.T) {
	n := tally{}
	forGets(t, func(w impl.World, x, name int) {
		c := w.Objects[x].Class
		if ownAt(w, c, name) >= 0 {
			return
		}
		bare := withPairs(w, x, nil)
		got, want := impl.SuperAttr(bare, x, c, name), impl.GetAttr(bare, x, name)
		if got != want || impl.SuperAttr(w, x, c, name) != want {
			t.Fatalf("SuperAttr(%v, %d, %d, %d) = %v, and GetAttr %v", bare, x, c, name, got, want)
		}
		n[[]string{"none", "own", "class", "bound", "data"}[got.How]]++
	})
	n.need(t, 100, "none", "class", "bound", "data")
}
