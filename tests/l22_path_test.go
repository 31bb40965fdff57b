package tests

import (
	"math"
	"math/rand"
	"slices"
	"testing"

	"loop.example/g00505/impl"
)

func expectSteps(t *testing.T, what string, p impl.Path, want string) {
	t.Helper()
	if got := impl.PathSteps(p); !slices.Equal(got, stepsAlong(want)) {
		t.Errorf("%s: PathSteps = %+v; want %s", what, got, want)
	}
}

// onePart returns a part with a hop for each AS, entered through interface 1 and left through interface 2 in the direction of travel.
func onePart(kind int, ases ...int) impl.PathPart {
	p := impl.PathPart{Kind: kind}
	for _, r := range ases {
		h := impl.Hop{AS: r, Ingress: 1, Egress: 2}
		if modelReversed(kind) {
			h.Ingress, h.Egress = 2, 1
		}
		p.Hops = append(p.Hops, h)
	}
	return p
}

func pathOfParts(parts ...impl.PathPart) impl.Path {
	return impl.Path{Parts: parts}
}

func TestPathSteps(t *testing.T) {
	expectSteps(t, "the long path", longPath(), "0>4>1 3>3>1 3>0>2 2>2>3 1>5>2 1>6>0")
	expectSteps(t, "a reversed core part", pathAlong(world(), "up 2:0>3 5:1>0", "back 0:0>2 2:2>0", "down 0:0>3 3:1>4 4:2>0"), "0>5>1 3>2>2 2>0>3 1>3>4 2>4>0")
	expectSteps(t, "the end of a segment", pathAlong(world(), "up1 0:0>3 3:1>3 4:1>0"), "0>4>1 3>3>0")
	expectSteps(t, "the end of a segment", pathAlong(world(), "down1 2:0>3 5:1>2 6:1>0"), "0>5>2 1>6>0")
	expectSteps(t, "no parts", impl.Path{}, "")
	expectSteps(t, "one hop", pathOfParts(onePart(impl.PaUp, 3)), "0>3>0")
	expectSteps(t, "two hops", pathOfParts(onePart(impl.PaDown, 3, 4)), "0>3>2 1>4>0")
	for _, kind := range append(strange(), 0, 1, 2, 3, 4, 5) {
		expectSteps(t, "a part of some kind", pathOfParts(onePart(kind, 3, 4, 5)), "0>3>2 1>4>2 1>5>0")
	}
	for _, p := range worldPaths() {
		expectSame(t, "PathSteps", impl.PathSteps(p), modelSteps(p))
	}
}

func TestPathStepsWherePartsMeet(t *testing.T) {
	up, down := impl.PaUp, impl.PaDown
	expectSteps(t, "parts that meet", pathOfParts(onePart(up, 1, 2), onePart(down, 2, 3)), "0>1>2 1>2>2 1>3>0")
	expectSteps(t, "parts that do not meet", pathOfParts(onePart(up, 1, 2), onePart(down, 3, 4)), "0>1>2 1>2>2 1>3>2 1>4>0")
	expectSteps(t, "three parts that meet at an AS", pathOfParts(onePart(up, 1, 2), onePart(impl.PaCore, 2), onePart(down, 2, 3)), "0>1>2 1>2>2 1>3>0")
	expectSteps(t, "three parts of one hop", pathOfParts(onePart(up, 2), onePart(impl.PaCore, 2), onePart(down, 2)), "0>2>0")
	expectSteps(t, "five parts", pathOfParts(onePart(up, 2), onePart(up, 2), onePart(up, 2), onePart(up, 2, 3), onePart(up, 3)), "0>2>2 1>3>0")
	// Within a part, an AS may stand twice.
	expectSteps(t, "an AS twice", pathOfParts(onePart(up, 2, 2), onePart(up, 2, 2)), "0>2>2 1>2>2 1>2>0")
	// Only the first hop of a part is merged, and only with the last step.
	expectSteps(t, "an AS that comes again", pathOfParts(onePart(up, 1, 2), onePart(up, 3, 2), onePart(up, 1)), "0>1>2 1>2>2 1>3>2 1>2>2 1>1>0")
	// The merged step keeps its ingress and gets the egress.
	a, b := onePart(up, 1, 2), onePart(down, 2, 3)
	a.Hops[1] = impl.Hop{AS: 2, Ingress: 5, Egress: 6}
	b.Hops[0] = impl.Hop{AS: 2, Ingress: 3, Egress: 4}
	expectSteps(t, "other interfaces", pathOfParts(a, b), "0>1>2 6>2>4 1>3>0")
	negative := pathOfParts(onePart(up, -1), onePart(up, -1, -2))
	expectSame(t, "PathSteps of no ASes", impl.PathSteps(negative), []impl.Step{{AS: -1, Egress: 2}, {AS: -2, Ingress: 1}})
}

func TestPathStepsOfPartsWithoutHops(t *testing.T) {
	none, a, b := onePart(impl.PaUp), onePart(impl.PaUp, 1, 2), onePart(impl.PaDown, 2, 3)
	want := "0>1>2 1>2>2 1>3>0"
	for _, p := range []impl.Path{
		pathOfParts(none, a, b), pathOfParts(a, none, b), pathOfParts(a, b, none), pathOfParts(none, none, a, none, none, b, none),
	} {
		expectSteps(t, "parts without hops", p, want)
	}
	expectSteps(t, "only parts without hops", pathOfParts(none), "")
	expectSteps(t, "only parts without hops", pathOfParts(none, none, none), "")
}

func TestWellFormedPath(t *testing.T) {
	p := world()
	for _, path := range append(worldPaths(), longPath()) {
		expectBool(t, "WellFormedPath", impl.WellFormedPath(p, path), true)
		for i := range path.Parts {
			other := copyOf(path)
			other.Parts[i].Timestamp = -1
			expectBool(t, "WellFormedPath with an invalid part", impl.WellFormedPath(p, other), false)
			other.Parts[i].Hops = nil
			expectBool(t, "WellFormedPath with a part without hops", impl.WellFormedPath(p, other), false)
		}
		expectBool(t, "WellFormedPath without ASes", impl.WellFormedPath(impl.Topology{}, path), false)
	}
	expectBool(t, "WellFormedPath without parts", impl.WellFormedPath(p, impl.Path{}), false)
	expectBool(t, "WellFormedPath of the zero part", impl.WellFormedPath(p, pathOfParts(impl.PathPart{})), false)
}

// Any parts of a single hop of the same AS meet, so that only the order of the kinds counts.
func TestWellFormedPathAsksForTheOrderOfKinds(t *testing.T) {
	p := world()
	hop := func(kind int) impl.PathPart {
		return impl.PathPart{Kind: kind, Hops: []impl.Hop{{AS: 2, Ingress: 1, Egress: 2}}}
	}
	ordered := [][]int{{1}, {2}, {3}, {4}, {1, 2}, {1, 3}, {1, 4}, {2, 4}, {3, 4}, {1, 2, 4}, {1, 3, 4}}
	for n := range 5 * 5 * 5 * 5 {
		kinds, path := []int{}, impl.Path{}
		for m := n; m > 0; m /= 5 {
			if m%5 > 0 {
				kinds = append(kinds, m%5)
				path.Parts = append(path.Parts, hop(m%5))
			}
		}
		want := slices.ContainsFunc(ordered, func(l []int) bool { return slices.Equal(l, kinds) })
		if ok := impl.WellFormedPath(p, path); ok != want {
			t.Errorf("WellFormedPath of the kinds %v = %v", kinds, ok)
		}
	}
	for _, kind := range append(strange(), 0, 5) {
		expectBool(t, "WellFormedPath of another kind", impl.WellFormedPath(p, pathOfParts(hop(kind))), false)
		expectBool(t, "WellFormedPath of another kind", impl.WellFormedPath(p, pathOfParts(hop(1), hop(kind))), false)
	}
}

func TestWellFormedPathAsksWherePartsMeet(t *testing.T) {
	p := world()
	up, core, down := "up 0:0>3 3:1>3 4:1>0", "core 0:0>2 2:2>0", "down 2:0>3 5:1>2 6:1>0"
	cases := []struct {
		texts []string
		want  bool
	}{
		{[]string{up, core, down}, true}, {[]string{up, core}, true}, {[]string{core, down}, true}, {[]string{up, down}, false},
		{[]string{up, "core 1:0>2 2:1>0", down}, false}, {[]string{up, "back 0:0>2 2:2>0", down}, false}, {[]string{up, "core 0:0>1 1:1>0", down}, false},
		{[]string{up, core, "down1 2:0>3 5:1>2 6:1>0"}, false}, {[]string{"up1 0:0>3 3:1>3 4:1>0", core, down}, false},
		{[]string{"up1 0:0>3 3:1>3 4:1>0", "down1 1:0>3 3:2>4 4:2>0"}, true}, {[]string{"up1 0:0>3 3:1>3 4:1>0", "down 0:0>4 4:4>0"}, false},
	}
	for _, c := range cases {
		if ok := impl.WellFormedPath(p, pathAlong(p, c.texts...)); ok != c.want {
			t.Errorf("WellFormedPath of %v = %v", c.texts, ok)
		}
	}
}

func TestEveryStepLeadsToTheNextOne(t *testing.T) {
	manyPaths(t, 29, func(r *rand.Rand, p impl.Topology, path impl.Path) {
		expectBool(t, "WellFormedPath", impl.WellFormedPath(p, path), true)
		steps := impl.PathSteps(path)
		expectSame(t, "PathSteps", steps, modelSteps(path))
		for i := 1; i < len(steps); i++ {
			_, far, in, _ := modelEnd(p, steps[i-1].AS, steps[i-1].Egress)
			if steps[i-1].Egress == 0 || far != steps[i].AS || in != steps[i].Ingress {
				t.Fatalf("step %d of %+v", i, steps)
			}
		}
		// Some other paths are well-formed, too.
		other := copyOf(path)
		part := &other.Parts[r.Intn(len(other.Parts))]
		h := &part.Hops[r.Intn(len(part.Hops))]
		for _, change := range hopChanges() {
			change(h, r.Intn(3)-1)
		}
		steps = impl.PathSteps(other)
		for i := 1; i < len(steps) && impl.WellFormedPath(p, other); i++ {
			_, far, in, _ := modelEnd(p, steps[i-1].AS, steps[i-1].Egress)
			expectSame(t, "the next step", []int{steps[i].AS, steps[i].Ingress}, []int{far, in})
		}
	})
}

func TestInterfacesUsed(t *testing.T) {
	expectInts(t, "InterfacesUsed of the long path", impl.InterfacesUsed(longPath()), 33, 27, 25, 3, 2, 18, 19, 41, 42, 49)
	expectInts(t, "InterfacesUsed of nothing", impl.InterfacesUsed(impl.Path{}))
	expectInts(t, "InterfacesUsed of one hop", impl.InterfacesUsed(pathOfParts(onePart(impl.PaUp, 3))))
	expectInts(t, "InterfacesUsed of two hops", impl.InterfacesUsed(pathOfParts(onePart(impl.PaUp, 0, 7))), 2, 57)
	// Those that are 0 are left out, wherever they are.
	odd := pathOfParts(impl.PathPart{Kind: impl.PaCore, Hops: []impl.Hop{{AS: 1, Ingress: 3}, {AS: 2, Egress: 5}, {AS: 3}, {AS: 4, Ingress: 6, Egress: 2}}})
	expectInts(t, "InterfacesUsed with interfaces 0", impl.InterfacesUsed(odd), 21, 38)
	wild := pathOfParts(impl.PathPart{Kind: impl.PaCore, Hops: []impl.Hop{{AS: -1, Egress: -2}, {AS: math.MaxInt, Ingress: 99, Egress: 99}, {AS: 16, Ingress: 9}}})
	expectInts(t, "InterfacesUsed of no ASes", impl.InterfacesUsed(wild), -10, 91, 91, 137)
}

func TestSimplePath(t *testing.T) {
	p := world()
	for _, path := range worldPaths() {
		expectBool(t, "SimplePath", impl.SimplePath(p, path), true)
	}
	// Up to AS 0 and down again through the same interfaces, or some of them.
	for _, texts := range [][]string{
		{"up 0:0>3 3:1>3 4:1>0", "down 0:0>3 3:1>3 4:1>0"}, {"up 0:0>3 3:1>3 4:1>0", "down 0:0>3 3:1>4 4:2>0"}, {"up1 0:0>3 3:1>3 4:1>0", "down1 0:0>3 3:1>3 4:1>0"},
		{"up 0:0>3 3:1>0", "core 0:0>1 1:1>0", "down 1:0>3 3:2>3 4:1>0"}, {"up 0:0>3 3:1>3 4:1>0", "core 0:0>1 1:1>0", "down 1:0>3 3:2>3 4:1>0"}, {"core 0:0>1 1:1>2 2:1>0"},
	} {
		path := pathAlong(p, texts...)
		expectBool(t, "WellFormedPath", impl.WellFormedPath(p, path), true)
		seen := map[int]bool{}
		twice := false
		for _, n := range impl.InterfacesUsed(path) {
			twice = twice || seen[n]
			seen[n] = true
		}
		expectBool(t, "SimplePath", impl.SimplePath(p, path), !twice)
	}
	same := pathAlong(p, "up 0:0>3 3:1>3 4:1>0", "down 0:0>3 3:1>4 4:2>0")
	expectBool(t, "SimplePath through the same interfaces", impl.SimplePath(p, same), false)
	later := pathAlong(p, "up 0:0>3 3:1>3 4:1>0", "core 0:0>1 1:1>0", "down1 1:0>3 3:2>3 4:1>0")
	expectBool(t, "SimplePath of parts that do not meet", impl.SimplePath(p, later), false)
	later = pathAlong(p, "up 0:0>3 3:1>3 4:1>0", "core 0:0>1 1:1>0", "down 1:0>3 3:2>3 4:1>0")
	expectBool(t, "SimplePath through the same interface later", impl.SimplePath(p, later), false)
	// Through AS 3 and AS 4 twice, but by other interfaces.
	other := pathAlong(p, "up 0:0>3 3:1>3 4:1>0", "core 0:0>1 1:1>0", "down 1:0>3 3:2>4 4:2>0")
	expectBool(t, "SimplePath through other interfaces", impl.SimplePath(p, other), true)
	turn := pathAlong(p, "up1 0:0>3 3:1>3 4:1>0", "down1 1:0>3 3:2>4 4:2>0")
	expectBool(t, "SimplePath back to an AS", impl.SimplePath(p, turn), true)
	expectBool(t, "SimplePath without parts", impl.SimplePath(p, impl.Path{}), false)
	apart := pathAlong(p, "up 0:0>3 3:1>3 4:1>0", "down 2:0>3 5:1>0")
	expectBool(t, "SimplePath of parts that do not meet", impl.SimplePath(p, apart), false)
}

func TestVerifyPath(t *testing.T) {
	p := world()
	expectBool(t, "VerifyPath without parts", impl.VerifyPath(p, impl.Path{}), true)
	for _, path := range worldPaths() {
		expectBool(t, "VerifyPath", impl.VerifyPath(p, path), true)
		for i := range path.Parts {
			other := copyOf(path)
			other.Parts[i].Beta = (other.Parts[i].Beta + 1) % impl.Prime
			expectBool(t, "VerifyPath with another beta", impl.VerifyPath(p, other), false)
			other = copyOf(path)
			other.Parts[i].Hops[0].MAC ^= 1
			expectBool(t, "VerifyPath with another MAC", impl.VerifyPath(p, other), false)
		}
	}
	// The path need not be well-formed.
	l := worldPaths()
	odd := impl.Path{Parts: slices.Concat(l[0].Parts, l[4].Parts, l[2].Parts, l[0].Parts, []impl.PathPart{{}})}
	expectBool(t, "VerifyPath of an odd path", impl.VerifyPath(p, odd), true)
}

// timed returns the long path with these times, in the order of its hops in the direction of building, part by part.
func timed(timestamps [3]int, expiries [8]int) impl.Path {
	p, path, next := world(), impl.Path{}, 0
	kinds := []int{impl.PaUp, impl.PaCore, impl.PaDown}
	for i, text := range []string{"0:0>3 3:1>3 4:1>0", "0:0>2 2:2>0", "2:0>3 5:1>2 6:1>0"} {
		hops := route(text)
		for k := range hops {
			hops[k].Expiry = expiries[next]
			next++
		}
		path.Parts = append(path.Parts, modelPart(build(p, timestamps[i], 500, hops...), kinds[i], 0))
	}
	return path
}

func TestPathUsable(t *testing.T) {
	p := world()
	for _, path := range worldPaths() {
		for now, want := range map[int]bool{9: false, 10: true, 100: true, 101: false, -1: false, math.MinInt: false, math.MaxInt: false} {
			expectBool(t, "PathUsable at "+impl.FormatInt(now), impl.PathUsable(p, path, now), want)
		}
	}
	for i := range 3 {
		timestamps := [3]int{5, 5, 5}
		timestamps[i] = 20
		path := timed(timestamps, [8]int{90, 90, 90, 90, 90, 90, 90, 90})
		for now, want := range map[int]bool{5: false, 19: false, 20: true, 90: true, 91: false} {
			expectBool(t, "PathUsable with a late part", impl.PathUsable(p, path, now), want)
		}
	}
	for i := range 8 {
		expiries := [8]int{90, 90, 90, 90, 90, 90, 90, 90}
		expiries[i] = 40
		path := timed([3]int{5, 5, 5}, expiries)
		for now, want := range map[int]bool{4: false, 5: true, 39: true, 40: true, 41: false} {
			expectBool(t, "PathUsable with a short hop", impl.PathUsable(p, path, now), want)
		}
	}
	forged := longPath()
	forged.Parts[1].Hops[1].MAC ^= 1
	expectBool(t, "PathUsable that does not verify", impl.PathUsable(p, forged, 50), false)
	expectBool(t, "PathUsable that is not simple", impl.PathUsable(p, pathAlong(p, "up 0:0>3 3:1>3 4:1>0", "down 0:0>3 3:1>4 4:2>0"), 50), false)
	expectBool(t, "PathUsable without parts", impl.PathUsable(p, impl.Path{}, 50), false)
	expectBool(t, "PathUsable without ASes", impl.PathUsable(impl.Topology{}, longPath(), 50), false)
}

func TestEndpoints(t *testing.T) {
	expect := func(what string, p impl.Path, wantFrom int, wantTo int) {
		t.Helper()
		if from, to := impl.Endpoints(p); from != wantFrom || to != wantTo {
			t.Errorf("Endpoints of %s = %d, %d; want %d, %d", what, from, to, wantFrom, wantTo)
		}
	}
	expect("the long path", longPath(), 4, 6)
	expect("no parts", impl.Path{}, -1, -1)
	expect("parts without hops", pathOfParts(impl.PathPart{}, impl.PathPart{}), -1, -1)
	expect("one hop", pathOfParts(onePart(impl.PaUp, 3)), 3, 3)
	expect("hops between parts without", pathOfParts(impl.PathPart{}, onePart(impl.PaUp, 3, 99), impl.PathPart{}), 3, 99)
	expect("parts that do not meet", pathOfParts(onePart(impl.PaDown, -7, 1), onePart(impl.PaUp, 0, 2)), -7, 2)
}

func TestFormatPath(t *testing.T) {
	p := world()
	expectText(t, "FormatPath", impl.FormatPath(p, longPath()), "0>0-4>1 3>0-3>1 3>0-0>2 2>1-2>3 1>1-5>2 1>1-6>0")
	expectText(t, "FormatPath without parts", impl.FormatPath(p, impl.Path{}), "-")
	expectText(t, "FormatPath without hops", impl.FormatPath(p, pathOfParts(impl.PathPart{})), "-")
	expectText(t, "FormatPath of one hop", impl.FormatPath(p, pathOfParts(onePart(impl.PaUp, 7))), "0>2-7>0")
	expectText(t, "FormatPath of no ASes", impl.FormatPath(p, pathOfParts(onePart(impl.PaUp, -1, 8, 3))), "0>?>2 1>?>2 1>0-3>0")
	expectText(t, "FormatPath without ASes", impl.FormatPath(impl.Topology{}, pathOfParts(onePart(impl.PaUp, 7))), "0>?>0")
	negative := pathOfParts(impl.PathPart{Hops: []impl.Hop{{AS: 1, Egress: -5}, {AS: 2, Ingress: 100}}})
	expectText(t, "FormatPath of odd interfaces", impl.FormatPath(p, negative), "0>0-1>-5 100>1-2>0")
}

// pathChanges change a path with at least one part and one hop in one place each.
func pathChanges(p impl.Path) []func(x *impl.Path) {
	l := []func(x *impl.Path){
		func(x *impl.Path) { x.Parts = nil }, func(x *impl.Path) { x.Parts = x.Parts[1:] }, func(x *impl.Path) { x.Parts = append(x.Parts, impl.PathPart{}) },
	}
	for i, part := range p.Parts {
		l = append(l,
			func(x *impl.Path) { x.Parts[i].Kind++ }, func(x *impl.Path) { x.Parts[i].Timestamp++ }, func(x *impl.Path) { x.Parts[i].Beta++ },
			func(x *impl.Path) { x.Parts[i].Hops = x.Parts[i].Hops[1:] }, func(x *impl.Path) { x.Parts[i].Hops = append(x.Parts[i].Hops, impl.Hop{}) })
		for k := range part.Hops {
			for _, change := range hopChanges() {
				l = append(l, func(x *impl.Path) { change(&x.Parts[i].Hops[k], 1) })
			}
		}
	}
	return l
}

func TestEqualPaths(t *testing.T) {
	for _, p := range worldPaths() {
		expectBool(t, "EqualPaths", impl.EqualPaths(p, copyOf(p)), true)
		for i, change := range pathChanges(p) {
			q := copyOf(p)
			change(&q)
			if impl.EqualPaths(p, q) || impl.EqualPaths(q, p) {
				t.Errorf("change %d is not seen", i)
			}
		}
	}
	p := longPath()
	slices.Reverse(p.Parts)
	expectBool(t, "EqualPaths of another order", impl.EqualPaths(p, longPath()), false)
	empty := []impl.Path{{}, {Parts: []impl.PathPart{}}}
	hollow := []impl.Path{{Parts: []impl.PathPart{{}}}, {Parts: []impl.PathPart{{Hops: []impl.Hop{}}}}}
	for i := range 2 {
		for k := range 2 {
			expectBool(t, "EqualPaths of nil and empty parts", impl.EqualPaths(empty[i], empty[k]), true)
			expectBool(t, "EqualPaths of nil and empty hops", impl.EqualPaths(hollow[i], hollow[k]), true)
			expectBool(t, "EqualPaths of no part and one without hops", impl.EqualPaths(empty[i], hollow[k]), false)
		}
	}
}

func TestPathsShareNoMemory(t *testing.T) {
	p := world()
	for _, path := range append(worldPaths(), impl.Path{}, pathOfParts(impl.PathPart{}, impl.PathPart{})) {
		expectPure(t, "PathSteps", impl.PathSteps, path)
		expectPure(t, "WellFormedPath", impl.WellFormedPath, p, path)
		expectPure(t, "InterfacesUsed", impl.InterfacesUsed, path)
		expectPure(t, "SimplePath", impl.SimplePath, p, path)
		expectPure(t, "VerifyPath", impl.VerifyPath, p, path)
		expectPure(t, "PathUsable", impl.PathUsable, p, path, 50)
		expectPure(t, "Endpoints", impl.Endpoints, path)
		expectPure(t, "FormatPath", impl.FormatPath, p, path)
		expectPure(t, "EqualPaths", impl.EqualPaths, path, longPath())
	}
}
