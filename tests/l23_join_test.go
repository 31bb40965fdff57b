package tests

import (
	"math/rand"
	"slices"
	"testing"

	"loop.example/g00505/impl"
)

// modelJoin returns the path of these parts, leaving out those without hops.
func modelJoin(up impl.Segment, core impl.Segment, reversed bool, down impl.Segment) impl.Path {
	kind := impl.PaCore
	if reversed {
		kind = impl.PaReversedCore
	}
	p := impl.Path{}
	for i, s := range []impl.Segment{up, core, down} {
		if len(s.Hops) > 0 {
			p.Parts = append(p.Parts, modelPart(s, []int{impl.PaUp, kind, impl.PaDown}[i], 0))
		}
	}
	return p
}

// modelJoinUpDown returns the path by the words of the document.
func modelJoinUpDown(up impl.Segment, down impl.Segment) impl.Path {
	p := impl.Path{}
	for i, h := range up.Hops {
		for k, g := range down.Hops {
			if h.AS == g.AS {
				p = pathOfParts(modelPart(up, impl.PaUp, i), modelPart(down, impl.PaDown, k))
			}
		}
	}
	return p
}

// modelCombine combines by the words of the document.
func modelCombine(p impl.Topology, k impl.SegmentDatabase, a int, b int) []impl.Path {
	l := []impl.Path{}
	if a == b || a < 0 || b < 0 || a >= len(p.ASes) || b >= len(p.ASes) {
		return l
	}
	none := impl.Segment{}
	ups, downs := impl.DownSegments(k, a), impl.DownSegments(k, b)
	through := func(segments []impl.Segment, kind int, r int) {
		for _, s := range segments {
			if i := slices.Index(impl.SegmentASes(s), r); i >= 0 {
				l = append(l, pathOfParts(modelPart(s, kind, i)))
			}
		}
	}
	over := func(up impl.Segment, x int, y int, down impl.Segment) {
		for _, reversed := range []bool{false, true} {
			for _, s := range k.Core {
				if impl.FirstAS(s) == x && impl.LastAS(s) == y {
					l = append(l, modelJoin(up, s, reversed, down))
				}
			}
			x, y = y, x
		}
	}
	through(ups, impl.PaUp, b)
	through(downs, impl.PaDown, a)
	over(none, a, b, none)
	for _, up := range ups {
		for _, down := range downs {
			if path := modelJoinUpDown(up, down); len(path.Parts) > 0 {
				l = append(l, path)
			}
		}
	}
	for _, down := range downs {
		if p.ASes[a].Core {
			over(none, a, impl.FirstAS(down), down)
		}
	}
	for _, up := range ups {
		if p.ASes[b].Core {
			over(up, impl.FirstAS(up), b, none)
		}
	}
	for _, up := range ups {
		for _, down := range downs {
			over(up, impl.FirstAS(up), impl.FirstAS(down), down)
		}
	}
	return l
}

// modelFind selects by the words of the document.
func modelFind(p impl.Topology, k impl.SegmentDatabase, a int, b int, now int) []impl.Path {
	l := []impl.Path{}
	for _, path := range modelCombine(p, k, a, b) {
		if len(l) == 24 {
			break
		}
		repeated := slices.ContainsFunc(l, func(x impl.Path) bool { return same(x, path) })
		if impl.PathUsable(p, path, now) && !repeated {
			l = append(l, path)
		}
	}
	return l
}

func TestMaxPaths(t *testing.T) {
	expectInt(t, "MaxPaths", impl.MaxPaths, 24)
}

func TestJoinUpDown(t *testing.T) {
	p := world()
	up, down := along(p, "0:0>3 3:1>3 4:1>0"), along(p, "1:0>3 3:2>0")
	expectSame(t, "JoinUpDown at AS 3", impl.JoinUpDown(up, down), pathOfParts(modelPart(up, impl.PaUp, 1), modelPart(down, impl.PaDown, 1)))
	expectSame(t, "JoinUpDown at AS 3", impl.JoinUpDown(down, up), pathOfParts(modelPart(down, impl.PaUp, 1), modelPart(up, impl.PaDown, 1)))
	other := along(p, "0:0>4 4:4>0")
	expectSame(t, "JoinUpDown at AS 4, though 0 is common, too", impl.JoinUpDown(up, other), pathOfParts(modelPart(up, impl.PaUp, 2), modelPart(other, impl.PaDown, 1)))
	child := along(p, "0:0>3 3:1>0")
	expectSame(t, "JoinUpDown at AS 0", impl.JoinUpDown(child, other), pathOfParts(modelPart(child, impl.PaUp, 0), modelPart(other, impl.PaDown, 0)))
	expectSame(t, "JoinUpDown of nothing in common", impl.JoinUpDown(up, along(p, "2:0>3 5:1>0")), impl.Path{})
	expectSame(t, "JoinUpDown with itself", impl.JoinUpDown(up, up), pathOfParts(modelPart(up, impl.PaUp, 2), modelPart(up, impl.PaDown, 2)))
	for _, none := range []impl.Segment{{}, {Timestamp: 5, Hops: []impl.Hop{}}} {
		expectSame(t, "JoinUpDown without hops", impl.JoinUpDown(none, down), impl.Path{})
		expectSame(t, "JoinUpDown without hops", impl.JoinUpDown(up, none), impl.Path{})
		expectSame(t, "JoinUpDown without hops", impl.JoinUpDown(none, none), impl.Path{})
	}
}

// The last hop of up counts whose AS occurs in down, and the last hop of down with this AS.
func TestJoinUpDownWithASesTwice(t *testing.T) {
	up, down := passing(1, 7, 2, 5, 2, 9, 6), passing(2, 5, 2, 8, 2, 7, 5, 7)
	want := pathOfParts(modelPart(up, impl.PaUp, 3), modelPart(down, impl.PaDown, 3))
	expectSame(t, "JoinUpDown", impl.JoinUpDown(up, down), want)
	expectSame(t, "the model", modelJoinUpDown(up, down), want)
	up = passing(1, -1, 3)
	expectSame(t, "JoinUpDown at no AS", impl.JoinUpDown(up, passing(2, -1, -1, 4)), pathOfParts(modelPart(up, impl.PaUp, 0), modelPart(passing(2, -1, -1, 4), impl.PaDown, 1)))
	r := rand.New(rand.NewSource(30))
	for range 2000 {
		up, down := passing(1), passing(2)
		for range r.Intn(7) {
			up.Hops = append(up.Hops, randomHop(r))
		}
		for range r.Intn(7) {
			down.Hops = append(down.Hops, randomHop(r))
		}
		expectSame(t, "JoinUpDown", impl.JoinUpDown(up, down), modelJoinUpDown(up, down))
	}
}

func TestJoinThree(t *testing.T) {
	p := world()
	up, core, down := along(p, "0:0>3 3:1>3 4:1>0"), along(p, "0:0>2 2:2>0"), along(p, "2:0>3 5:1>0")
	for _, reversed := range []bool{false, true} {
		kind := impl.PaCore
		if reversed {
			kind = impl.PaReversedCore
		}
		parts := []impl.PathPart{modelPart(up, impl.PaUp, 0), modelPart(core, kind, 0), modelPart(down, impl.PaDown, 0)}
		for n := range 8 {
			l, want := []impl.Segment{up, core, down}, impl.Path{}
			for i := range l {
				if n>>i&1 == 0 {
					l[i] = impl.Segment{Timestamp: 7, Beta: 8}
				} else {
					want.Parts = append(want.Parts, parts[i])
				}
			}
			expectSame(t, "JoinThree", impl.JoinThree(l[0], l[1], reversed, l[2]), want)
		}
	}
	// They need not fit.
	expectSame(t, "JoinThree of what does not fit", impl.JoinThree(down, up, true, up), modelJoin(down, up, true, up))
}

// book returns the database of these down and core segments of the world.
func book(down []string, core []string) impl.SegmentDatabase {
	k := impl.SegmentDatabase{}
	for _, text := range down {
		k.Down = append(k.Down, along(world(), text))
	}
	for _, text := range core {
		k.Core = append(k.Core, along(world(), text))
	}
	return k
}

func TestEachRuleOfCombinePathsAlone(t *testing.T) {
	p := world()
	cases := []struct {
		what       string
		down, core []string
		a, b       int
		want       [][]string
	}{
		{"1, up to an ancestor", []string{"0:0>3 3:1>3 4:1>0"}, nil, 4, 3, [][]string{{"up1 0:0>3 3:1>3 4:1>0"}}},
		{"1, up to the core", []string{"0:0>3 3:1>3 4:1>0"}, nil, 4, 0, [][]string{{"up 0:0>3 3:1>3 4:1>0"}}},
		{"1, down to a descendant", []string{"0:0>3 3:1>3 4:1>0"}, nil, 3, 4, [][]string{{"down1 0:0>3 3:1>3 4:1>0"}}},
		{"1, down from the core", []string{"0:0>3 3:1>3 4:1>0"}, nil, 0, 4, [][]string{{"down 0:0>3 3:1>3 4:1>0"}}},
		{"2, in its direction", nil, []string{"0:0>2 2:2>0"}, 0, 2, [][]string{{"core 0:0>2 2:2>0"}}},
		{"2, back", nil, []string{"0:0>2 2:2>0"}, 2, 0, [][]string{{"back 0:0>2 2:2>0"}}},
		{"2, both", nil, []string{"2:0>2 0:2>0", "0:0>2 2:2>0"}, 0, 2, [][]string{{"core 0:0>2 2:2>0"}, {"back 2:0>2 0:2>0"}}},
		{"3", []string{"0:0>3 3:1>0", "0:0>4 4:4>0"}, nil, 3, 4, [][]string{{"up 0:0>3 3:1>0", "down 0:0>4 4:4>0"}}},
		{"4", []string{"2:0>3 5:1>0"}, []string{"0:0>2 2:2>0", "2:0>2 0:2>0"}, 0, 5, [][]string{{"core 0:0>2 2:2>0", "down 2:0>3 5:1>0"}, {"back 2:0>2 0:2>0", "down 2:0>3 5:1>0"}}},
		{"5", []string{"2:0>3 5:1>0"}, []string{"0:0>2 2:2>0", "2:0>2 0:2>0"}, 5, 0, [][]string{{"up 2:0>3 5:1>0", "core 2:0>2 0:2>0"}, {"up 2:0>3 5:1>0", "back 0:0>2 2:2>0"}}},
		{"6", []string{"0:0>3 3:1>0", "2:0>3 5:1>0"}, []string{"2:0>2 0:2>0"}, 3, 5, [][]string{{"up 0:0>3 3:1>0", "back 2:0>2 0:2>0", "down 2:0>3 5:1>0"}}},
		{"no rule", []string{"0:0>3 3:1>0", "2:0>3 5:1>0"}, []string{"0:0>1 1:1>0"}, 3, 5, nil},
		{"no rule for an AS without segments", []string{"0:0>3 3:1>0"}, []string{"0:0>1 1:1>0"}, 0, 6, nil},
		{"no rule between ASes that are not core", []string{"2:0>3 5:1>0"}, []string{"0:0>2 2:2>0"}, 3, 5, nil},
	}
	for _, c := range cases {
		k, want := book(c.down, c.core), []impl.Path{}
		for _, texts := range c.want {
			want = append(want, pathAlong(p, texts...))
		}
		expectSame(t, "CombinePaths by rule "+c.what, impl.CombinePaths(p, k, c.a, c.b), want)
		expectSame(t, "FindPaths by rule "+c.what, impl.FindPaths(p, k, c.a, c.b, 50), want)
		expectSame(t, "the model of rule "+c.what, modelCombine(p, k, c.a, c.b), want)
	}
}

// A database, though not a valid one, in which all rules yield paths from AS 0 to AS 1.
func TestAllRulesOfCombinePaths(t *testing.T) {
	p := world()
	up, up2 := passing(1, 2, 1, 5, 1, 0), passing(2, 7, 0)
	down, down2 := passing(3, 2, 0, 0, 1), passing(4, 1)
	there, back := passing(5, 0, 1), passing(6, 1, 0)
	from, to, loop := passing(7, 0, 2), passing(8, 1, 2), passing(9, 2)
	k := impl.SegmentDatabase{Down: []impl.Segment{up, down, up2, passing(10, 3), down2}, Core: []impl.Segment{back, loop, from, there, to}}
	none := impl.Segment{}
	want := []impl.Path{
		pathOfParts(modelPart(up, impl.PaUp, 1)), pathOfParts(modelPart(down, impl.PaDown, 1)),
		modelJoin(none, there, false, none), modelJoin(none, back, true, none),
		pathOfParts(modelPart(up, impl.PaUp, 4), modelPart(down, impl.PaDown, 2)), pathOfParts(modelPart(up, impl.PaUp, 3), modelPart(down2, impl.PaDown, 0)), pathOfParts(modelPart(up2, impl.PaUp, 1), modelPart(down, impl.PaDown, 2)),
		modelJoin(none, from, false, down), modelJoin(none, there, false, down2), modelJoin(none, back, true, down2),
		modelJoin(up, to, true, none),
		modelJoin(up, loop, false, down), modelJoin(up, loop, true, down), modelJoin(up, to, true, down2),
	}
	expectSame(t, "CombinePaths", impl.CombinePaths(p, k, 0, 1), want)
	expectSame(t, "the model", modelCombine(p, k, 0, 1), want)
	// If neither is a core AS, rules 4 and 5 do not apply.
	p.ASes[0].Core, p.ASes[1].Core = false, false
	expectSame(t, "CombinePaths without rules 4 and 5", impl.CombinePaths(p, k, 0, 1), slices.Concat(want[:7], want[11:]))
	p.ASes[0].Core = true
	expectSame(t, "CombinePaths without rule 5", impl.CombinePaths(p, k, 0, 1), slices.Concat(want[:10], want[11:]))
	p.ASes[0].Core, p.ASes[1].Core = false, true
	expectSame(t, "CombinePaths without rule 4", impl.CombinePaths(p, k, 0, 1), slices.Concat(want[:7], want[10:]))
}

func TestCombinePathsOfNothing(t *testing.T) {
	p, k := world(), worldDatabase()
	for r := range p.ASes {
		expectSame(t, "CombinePaths from an AS to itself", impl.CombinePaths(p, k, r, r), nil)
		expectSame(t, "FindPaths from an AS to itself", impl.FindPaths(p, k, r, r, 50), nil)
		for _, other := range append(strange(), 8, 9) {
			expectSame(t, "CombinePaths from no AS", impl.CombinePaths(p, k, other, r), nil)
			expectSame(t, "CombinePaths to no AS", impl.CombinePaths(p, k, r, other), nil)
			expectSame(t, "FindPaths from no AS", impl.FindPaths(p, k, other, r, 50), nil)
			expectSame(t, "FindPaths to no AS", impl.FindPaths(p, k, r, other, 50), nil)
		}
		expectSame(t, "CombinePaths with an empty database", impl.CombinePaths(p, impl.SegmentDatabase{}, r, 4), nil)
		expectSame(t, "FindPaths with an empty database", impl.FindPaths(p, impl.SegmentDatabase{}, r, 4, 50), nil)
		expectSame(t, "CombinePaths without ASes", impl.CombinePaths(impl.Topology{}, k, r, 4), nil)
	}
	// Segments without hops begin and end at -1.
	hollow := impl.SegmentDatabase{Down: []impl.Segment{{}, passing(3, -1, 4)}, Core: []impl.Segment{{}, passing(5, 4)}}
	expectSame(t, "CombinePaths with a hollow database", impl.CombinePaths(p, hollow, -1, 4), nil)
	expectSame(t, "CombinePaths with a hollow database", impl.CombinePaths(p, hollow, 3, 4), nil)
	// Segments may lead to ASes that do not exist.
	beyond := impl.SegmentDatabase{Down: []impl.Segment{passing(3, 3, 99), passing(4, 3, -1), passing(5, 99, 3), passing(6, 3)}, Core: []impl.Segment{passing(7, 3, 99), passing(8, -1, 3)}}
	for _, r := range []int{-1, 99} {
		expectSame(t, "CombinePaths to no AS", impl.CombinePaths(p, beyond, 3, r), nil)
		expectSame(t, "CombinePaths from no AS", impl.CombinePaths(p, beyond, r, 3), nil)
	}
	two := impl.SegmentDatabase{Down: []impl.Segment{passing(3, -1, 4), passing(4, -1, 5)}, Core: []impl.Segment{{Timestamp: 9}}}
	join := pathOfParts(modelPart(two.Down[0], impl.PaUp, 0), modelPart(two.Down[1], impl.PaDown, 0))
	expectSame(t, "CombinePaths over a segment without hops", impl.CombinePaths(p, two, 4, 5), []impl.Path{join, join, join})
}

// randomBook has segments of the topology of any times, some of which are forged, repeated or of the other kind.
func randomBook(r *rand.Rand, p impl.Topology) impl.SegmentDatabase {
	k := impl.SegmentDatabase{}
	for range 25 {
		s, ok := randomWalk(r, p)
		if !ok {
			continue
		}
		for i := range s.Hops {
			s.Hops[i].Expiry = 40 + r.Intn(40)
		}
		s = build(p, r.Intn(60), r.Intn(3), s.Hops...)
		if r.Intn(10) == 0 {
			s.Hops[r.Intn(len(s.Hops))].MAC ^= 1
		}
		for range 1 + r.Intn(12)/10 {
			if (impl.SegmentKind(p, s) == impl.SgDown) != (r.Intn(10) == 0) {
				k.Down = append(k.Down, s)
			} else {
				k.Core = append(k.Core, s)
			}
		}
	}
	return k
}

func TestManyCombinations(t *testing.T) {
	r := rand.New(rand.NewSource(31))
	combined, found := 0, 0
	for i := range 200 {
		p := world()
		if i%3 == 0 {
			p = randomValidTopology(r)
		}
		k := randomBook(r, p)
		for a := range p.ASes {
			for b := range p.ASes {
				want := modelCombine(p, k, a, b)
				expectSame(t, "CombinePaths", impl.CombinePaths(p, k, a, b), want)
				combined += len(want)
				now := 20 + r.Intn(50)
				want = modelFind(p, k, a, b, now)
				expectSame(t, "FindPaths", impl.FindPaths(p, k, a, b, now), want)
				found += len(want)
			}
		}
		if t.Failed() {
			t.Fatalf("%+v, %+v", p, k)
		}
	}
	if combined < 10000 || found < 1000 {
		t.Errorf("too few paths: %d, %d", combined, found)
	}
}

// A combined path leads from the one AS to the other and consists of segments of the database.
func TestCombinedPathsConsistOfSegments(t *testing.T) {
	r := rand.New(rand.NewSource(32))
	for range 60 {
		p := randomValidTopology(r)
		if r.Intn(4) == 0 {
			p = world()
		}
		k := impl.BuildDatabase(p, nil, impl.RunBeaconing(p, nil, 10))
		for a := range p.ASes {
			for b := range p.ASes {
				for _, path := range impl.CombinePaths(p, k, a, b) {
					from, to := impl.Endpoints(path)
					if from != a || to != b || !impl.WellFormedPath(p, path) || !impl.VerifyPath(p, path) {
						t.Fatalf("from %d to %d: %+v", a, b, path)
					}
					for _, part := range path.Parts {
						expectBool(t, "a part of a segment", isPartOf(k, part), true)
					}
				}
				if l := impl.FindPaths(p, k, a, b, 10); a != b && len(l) == 0 && len(impl.ReachableCores(p, a)) == 1 && slices.Equal(impl.ReachableCores(p, a), impl.ReachableCores(p, b)) {
					t.Fatalf("no path from %d to %d in %+v", a, b, p)
				}
			}
		}
	}
}

// isPartOf reports whether the part is one of a segment of the database.
func isPartOf(k impl.SegmentDatabase, part impl.PathPart) bool {
	l := k.Core
	if part.Kind == impl.PaUp || part.Kind == impl.PaDown {
		l = k.Down
	}
	return slices.ContainsFunc(l, func(s impl.Segment) bool {
		for from := range s.Hops {
			if same(part, modelPart(s, part.Kind, from)) {
				return true
			}
		}
		return false
	})
}

func TestFindPathsWithoutRepetitions(t *testing.T) {
	p := world()
	k := book([]string{"0:0>3 3:1>3 4:1>0", "0:0>3 3:1>3 4:1>0", "1:0>3 3:2>3 4:1>0"}, nil)
	// Of the second segment, the part from AS 3 on is the same; of the third one it is not.
	expectInt(t, "CombinePaths", len(impl.CombinePaths(p, k, 4, 3)), 3)
	want := []impl.Path{pathAlong(p, "up1 0:0>3 3:1>3 4:1>0"), pathAlong(p, "up1 1:0>3 3:2>3 4:1>0")}
	expectSame(t, "FindPaths", impl.FindPaths(p, k, 4, 3, 50), want)
}

func TestFindPathsFindsTheFirst(t *testing.T) {
	p := world()
	k := impl.SegmentDatabase{}
	for beta := range 30 {
		expiry := 100 + beta%2*20
		k.Down = append(k.Down, build(p, 10, beta, impl.Hop{AS: 0, Egress: 4, Expiry: expiry}, impl.Hop{AS: 4, Ingress: 4, Expiry: expiry}))
	}
	all := impl.CombinePaths(p, k, 4, 0)
	expectInt(t, "CombinePaths", len(all), 30)
	expectSame(t, "FindPaths", impl.FindPaths(p, k, 4, 0, 50), all[:24])
	expectSame(t, "FindPaths at the ends of time", impl.FindPaths(p, k, 4, 0, 10), all[:24])
	expectSame(t, "FindPaths at the ends of time", impl.FindPaths(p, k, 4, 0, 100), all[:24])
	// Afterwards, only every other one is usable.
	odd := []impl.Path{}
	for i := 1; i < 30; i += 2 {
		odd = append(odd, all[i])
	}
	expectSame(t, "FindPaths of some", impl.FindPaths(p, k, 4, 0, 101), odd)
	expectSame(t, "FindPaths of some", impl.FindPaths(p, k, 4, 0, 120), odd)
	for _, now := range []int{9, 121, -1, impl.MaxTime} {
		expectSame(t, "FindPaths out of time", impl.FindPaths(p, k, 4, 0, now), nil)
	}
	for n := 23; n <= 25; n++ {
		fewer := impl.SegmentDatabase{Down: k.Down[:n]}
		expectSame(t, "FindPaths", impl.FindPaths(p, fewer, 4, 0, 50), all[:min(n, 24)])
	}
}

// crowdedBook has some segments, with different betas, of each of some ways, and sometimes many; core segments stand under Down, too.
func crowdedBook(r *rand.Rand) impl.SegmentDatabase {
	k := impl.SegmentDatabase{}
	core, down := worldRoutes()
	for i, text := range append(core, down...) {
		for beta := range r.Intn(4)*r.Intn(4) + 26*(r.Intn(9)/8) {
			if s := build(world(), 10, beta, route(text)...); i < len(core) && r.Intn(2) == 0 {
				k.Core = append(k.Core, s)
			} else {
				k.Down = append(k.Down, s)
			}
		}
	}
	return k
}

// Any of the rules may yield the last path that is found, and all others may follow.
func TestFindPathsStopsInEachRule(t *testing.T) {
	r := rand.New(rand.NewSource(41))
	p, full := world(), 0
	for range 12 {
		k := crowdedBook(r)
		for a := range p.ASes {
			for b := range p.ASes {
				want := modelFind(p, k, a, b, 50)
				expectSame(t, "FindPaths", impl.FindPaths(p, k, a, b, 50), want)
				if len(want) == 24 {
					full++
				}
			}
		}
	}
	if full < 50 {
		t.Errorf("too few full lists: %d", full)
	}
}

// If the hops that have expired are not used, a segment is of use.
func TestFindPathsWithoutTheExpiredHops(t *testing.T) {
	p := world()
	hops := route("0:0>3 3:1>3 4:1>0")
	hops[0].Expiry = 20
	k := impl.SegmentDatabase{Down: []impl.Segment{build(p, 10, 500, hops...)}}
	expectSame(t, "FindPaths from AS 3 on", impl.FindPaths(p, k, 4, 3, 50), []impl.Path{pathOfParts(modelPart(k.Down[0], impl.PaUp, 1))})
	expectSame(t, "FindPaths to AS 0", impl.FindPaths(p, k, 4, 0, 50), nil)
	expectInt(t, "FindPaths to AS 0", len(impl.FindPaths(p, k, 4, 0, 20)), 1)
}

func TestHasPath(t *testing.T) {
	l := worldPaths()
	for i, p := range l {
		expectBool(t, "HasPath", impl.HasPath(l, copyOf(p)), true)
		expectBool(t, "HasPath", impl.HasPath(l[:i], p), false)
		expectBool(t, "HasPath", impl.HasPath(l[i+1:], p), false)
		for _, change := range pathChanges(p) {
			q := copyOf(p)
			change(&q)
			expectBool(t, "HasPath of another path", impl.HasPath(l, q), false)
		}
	}
	expectBool(t, "HasPath of nothing", impl.HasPath(nil, impl.Path{}), false)
	expectBool(t, "HasPath of nil and empty parts", impl.HasPath([]impl.Path{{}}, impl.Path{Parts: []impl.PathPart{}}), true)
}

func TestCountParts(t *testing.T) {
	expectInt(t, "CountParts of nothing", impl.CountParts(nil), 0)
	expectInt(t, "CountParts of nothing", impl.CountParts([]impl.Path{}), 0)
	l := []impl.Path{longPath(), {}, pathOfParts(impl.PathPart{}, impl.PathPart{}), {Parts: make([]impl.PathPart, 9)}}
	expectInt(t, "CountParts", impl.CountParts(l), 14)
}

func TestEqualPathLists(t *testing.T) {
	l := worldPaths()
	expectBool(t, "EqualPathLists", impl.EqualPathLists(l, copyOf(l)), true)
	expectBool(t, "EqualPathLists of nil and empty", impl.EqualPathLists(nil, []impl.Path{}), true)
	expectBool(t, "EqualPathLists of nil and empty parts", impl.EqualPathLists([]impl.Path{{}}, []impl.Path{{Parts: []impl.PathPart{}}}), true)
	turned := copyOf(l)
	slices.Reverse(turned)
	for _, m := range [][]impl.Path{nil, l[1:], l[:len(l)-1], append(copyOf(l), impl.Path{}), turned} {
		expectBool(t, "EqualPathLists", impl.EqualPathLists(l, m), false)
		expectBool(t, "EqualPathLists", impl.EqualPathLists(m, l), false)
	}
	for i, p := range l {
		for _, change := range pathChanges(p) {
			m := copyOf(l)
			change(&m[i])
			expectBool(t, "EqualPathLists with another path", impl.EqualPathLists(l, m), false)
		}
	}
}

func TestCombinationSharesNoMemory(t *testing.T) {
	p, k := world(), worldDatabase()
	k.Core = append(k.Core, k.Core...)
	for range 20 {
		for a := range p.ASes {
			expectPure(t, "CombinePaths", impl.CombinePaths, p, k, a, 4)
			expectPure(t, "FindPaths", impl.FindPaths, p, k, 6, a, 50)
		}
	}
	s := along(p, "0:0>3 3:1>3 4:1>0")
	expectPure(t, "JoinUpDown", impl.JoinUpDown, s, along(p, "0:0>4 4:4>0"))
	expectUnsharedParts(t, "JoinUpDown with itself", impl.JoinUpDown(s, s))
	expectPure(t, "JoinThree", impl.JoinThree, s, along(p, "0:0>2 2:2>0"), false, along(p, "2:0>3 5:1>0"))
	expectUnsharedParts(t, "JoinThree with itself", impl.JoinThree(s, s, true, s))
	expectPure(t, "HasPath", impl.HasPath, worldPaths(), longPath())
	expectPure(t, "CountParts", impl.CountParts, worldPaths())
	expectPure(t, "EqualPathLists", impl.EqualPathLists, worldPaths(), worldPaths())
}
