package tests

import (
	"math/rand"
	"slices"
	"testing"

	"loop.example/g00505/impl"
)

// modelTransit reports what the document permits.
func modelTransit(in int, out int) bool {
	permitted := map[int][]int{
		impl.ToSelf:   {impl.ToCore, impl.ToChild, impl.ToParent, impl.ToSelf},
		impl.ToChild:  {impl.ToCore, impl.ToChild, impl.ToParent, impl.ToSelf},
		impl.ToParent: {impl.ToChild, impl.ToSelf},
		impl.ToCore:   {impl.ToCore, impl.ToChild, impl.ToSelf},
	}
	return slices.Contains(permitted[in], out)
}

func TestTransitAllowed(t *testing.T) {
	kinds := append(strange(), 0, 1, 2, 3, 4, 5, 6, 15, 16)
	allowed := 0
	for _, in := range kinds {
		for _, out := range kinds {
			if ok := impl.TransitAllowed(in, out); ok != modelTransit(in, out) {
				t.Errorf("TransitAllowed(%d, %d) = %v", in, out, ok)
			} else if ok {
				allowed++
			}
		}
	}
	expectInt(t, "the number of pairs", allowed, 13)
}

func TestStepAllowed(t *testing.T) {
	p := world()
	for r := -2; r <= 9; r++ {
		for in := -1; in <= 8; in++ {
			for out := -1; out <= 8; out++ {
				_, _, _, inKind := modelEnd(p, r, in)
				_, _, _, outKind := modelEnd(p, r, out)
				want := modelTransit(inKind, outKind) && (in != out || in == 0)
				if ok := impl.StepAllowed(p, impl.Step{AS: r, Ingress: in, Egress: out}); ok != want {
					t.Errorf("StepAllowed of %d>%d>%d = %v", in, r, out, ok)
				}
			}
		}
	}
}

func TestStepAllowedOfWrittenSteps(t *testing.T) {
	p := world()
	cases := []struct {
		what string
		step string
		want bool
	}{
		{"up", "3>3>1", true}, {"down", "1>3>3", true}, {"up again", "1>3>2", false}, {"the other way up", "2>3>1", false},
		{"over a child", "3>3>4", true}, {"back", "3>3>3", false}, {"back to a parent", "1>3>1", false}, {"back over a core link", "1>0>1", false},
		{"core to core", "1>0>2", true}, {"core to child", "1>0>3", true}, {"child to core", "3>0>1", true}, {"child to child", "3>0>4", true},
		{"to a peer", "3>3>6", false}, {"to a peer from itself", "0>3>6", false}, {"from a peer", "6>3>3", false}, {"from a peer to itself", "6>3>0", false},
		{"from nowhere", "5>3>3", false}, {"to nowhere", "3>3>5", false}, {"from itself to nowhere", "0>3>5", false}, {"from nowhere to itself", "5>3>0", false}, {"from nowhere to nowhere", "5>0>6", false},
		{"from itself up", "0>3>1", true}, {"from itself down", "0>3>4", true}, {"from itself over a core link", "0>0>2", true},
		{"to itself from a parent", "1>3>0", true}, {"to itself from a child", "4>3>0", true}, {"to itself over a core link", "2>0>0", true}, {"from itself to itself", "0>3>0", true},
	}
	for _, c := range cases {
		expectBool(t, "StepAllowed "+c.what, impl.StepAllowed(p, stepsAlong(c.step)[0]), c.want)
	}
	// Interface 0 is its own, whether or not the AS exists; other interfaces it has not.
	for _, r := range append(strange(), 8) {
		expectBool(t, "StepAllowed of no AS", impl.StepAllowed(p, impl.Step{AS: r}), true)
		expectBool(t, "StepAllowed of no AS", impl.StepAllowed(p, impl.Step{AS: r, Egress: 1}), false)
		expectBool(t, "StepAllowed of no AS", impl.StepAllowed(p, impl.Step{AS: r, Ingress: 1}), false)
		expectBool(t, "StepAllowed through no interface", impl.StepAllowed(p, impl.Step{AS: 3, Ingress: 3, Egress: r}), false)
		expectBool(t, "StepAllowed through no interface", impl.StepAllowed(p, impl.Step{AS: 3, Ingress: r, Egress: 3}), false)
		expectBool(t, "StepAllowed through no interface", impl.StepAllowed(p, impl.Step{AS: 3, Ingress: r, Egress: r}), false)
	}
	p.Links = append(p.Links, impl.Link{A: 3, AInterface: 5, B: 7, BInterface: 1, Kind: 9}, impl.Link{A: 9, AInterface: 1, B: 10, BInterface: 1, Kind: impl.LkChild})
	expectBool(t, "StepAllowed over a link without a kind", impl.StepAllowed(p, impl.Step{AS: 3, Egress: 5}), false)
	expectBool(t, "StepAllowed of an AS that only a link names", impl.StepAllowed(p, impl.Step{AS: 9, Egress: 1}), true)
}

// throughSteps returns a path with these steps, as a part of the kind PaCore.
func throughSteps(text string) impl.Path {
	part := impl.PathPart{Kind: impl.PaCore}
	for _, s := range stepsAlong(text) {
		part.Hops = append(part.Hops, impl.Hop{AS: s.AS, Ingress: s.Ingress, Egress: s.Egress})
	}
	return pathOfParts(part)
}

func TestFirstForbiddenStep(t *testing.T) {
	p := world()
	cases := []struct {
		what string
		path impl.Path
		want int
	}{
		{"no steps", impl.Path{}, -1}, {"no hops", pathOfParts(impl.PathPart{}), -1}, {"one step", throughSteps("0>3>0"), -1}, {"the long path", longPath(), -1},
		{"up after down", throughSteps("0>0>3 1>3>2 3>1>0"), 1},
		{"up after down, further on", throughSteps("0>4>1 3>3>1 3>0>4 4>4>2 4>3>0"), 3},
		{"over a core link after down", throughSteps("0>2>3 1>5>1 3>2>0"), 1},
		{"up after a core link", throughSteps("0>0>1 1>1>3 2>3>1 3>0>0"), 2},
		{"the first step to a peer", throughSteps("0>3>6 6>5>0"), 0},
		{"the second step to a peer", throughSteps("0>4>1 3>3>6 6>5>0"), 1},
		{"only the last step from a peer", throughSteps("0>5>1 6>3>0"), 1},
		{"the last step from nowhere", throughSteps("0>4>1 3>3>1 5>0>0"), 2},
		{"two forbidden steps", throughSteps("0>4>1 5>3>5 5>3>5 3>0>0"), 1},
		{"back through the same interface", throughSteps("0>4>1 3>3>3 1>4>0"), 1},
	}
	for _, c := range cases {
		expectInt(t, "FirstForbiddenStep of "+c.what, impl.FirstForbiddenStep(p, c.path), c.want)
		expectBool(t, "PathAllowed of "+c.what, impl.PathAllowed(p, c.path), c.want == -1)
	}
	// In a topology without links, only a path of one step is allowed.
	expectInt(t, "FirstForbiddenStep without links", impl.FirstForbiddenStep(impl.Topology{}, longPath()), 0)
	expectInt(t, "FirstForbiddenStep without links", impl.FirstForbiddenStep(impl.Topology{}, throughSteps("0>3>0")), -1)
}

func TestCountsOfSteps(t *testing.T) {
	p := world()
	cases := []struct {
		what           string
		path           impl.Path
		up, core, down int
	}{
		{"no steps", impl.Path{}, 0, 0, 0}, {"the long path", longPath(), 2, 1, 2},
		{"one part", pathAlong(p, "up 0:0>3 3:1>3 4:1>0"), 2, 0, 0}, {"one part", pathAlong(p, "down1 0:0>3 3:1>3 4:1>0"), 0, 0, 1}, {"one part", pathAlong(p, "back 0:0>1 1:1>2 2:1>6 7:3>0"), 0, 3, 0},
		{"two parts", pathAlong(p, "up 0:0>3 3:1>0", "down 0:0>4 4:4>0"), 1, 0, 1}, {"two parts", pathAlong(p, "back 1:0>2 2:1>0", "down 1:0>3 3:2>4 4:2>0"), 0, 1, 2},
		{"peers", throughSteps("0>4>3 3>6>0"), 0, 0, 0}, {"no kind", throughSteps("0>3>5 5>3>9 1>9>1 1>-1>0"), 0, 0, 0}, {"itself", throughSteps("0>3>0 0>3>0"), 0, 0, 0},
		{"a mixture", throughSteps("0>3>1 3>0>3 1>3>2 3>1>2 9>3>2 1>2>1 0>0>0"), 3, 2, 1},
	}
	for _, c := range cases {
		expectInts(t, "the steps of "+c.what, []int{impl.UpSteps(p, c.path), impl.CoreSteps(p, c.path), impl.DownSteps(p, c.path)}, c.up, c.core, c.down)
		expectInts(t, "the steps without links", []int{impl.UpSteps(impl.Topology{}, c.path), impl.CoreSteps(impl.Topology{}, c.path), impl.DownSteps(impl.Topology{}, c.path)}, 0, 0, 0)
	}
}

// Every path of a database goes up, then over core links, then down.
func TestPathsGoUpOverAndDown(t *testing.T) {
	manyPaths(t, 38, func(r *rand.Rand, p impl.Topology, path impl.Path) {
		order := []int{}
		for _, s := range modelSteps(path) {
			switch _, _, _, kind := modelEnd(p, s.AS, s.Egress); kind {
			case impl.ToParent:
				order = append(order, 1)
			case impl.ToCore:
				order = append(order, 2)
			case impl.ToChild:
				order = append(order, 3)
			default:
				order = append(order, 4)
			}
		}
		n := len(order)
		if !slices.IsSorted(order) || slices.Index(order, 4) != n-1 {
			t.Fatalf("%v, %+v", order, path)
		}
		expectInt(t, "the number of steps", impl.UpSteps(p, path)+impl.CoreSteps(p, path)+impl.DownSteps(p, path), n-1)
		// What is forbidden is to go back through the same interface.
		back := slices.ContainsFunc(modelSteps(path), func(s impl.Step) bool { return s.Ingress == s.Egress && s.Ingress != 0 })
		expectBool(t, "PathAllowed", impl.PathAllowed(p, path), !back)
	})
}

// Whatever comes from a parent or over a core link never goes up again, whichever steps an AS permits.
func TestNoPacketGoesUpAgain(t *testing.T) {
	r := rand.New(rand.NewSource(39))
	for range 300 {
		p := randomValidTopology(r)
		for as := range p.ASes {
			for in := range 7 {
				for out := range 7 {
					_, _, _, inKind := modelEnd(p, as, in)
					_, _, _, outKind := modelEnd(p, as, out)
					allowed := impl.StepAllowed(p, impl.Step{AS: as, Ingress: in, Egress: out})
					if allowed && outKind == impl.ToParent && (inKind == impl.ToParent || inKind == impl.ToCore || inKind == impl.ToPeer) {
						t.Fatalf("%d>%d>%d in %+v", in, as, out, p)
					}
				}
			}
		}
	}
}

func TestTransitLeavesArgumentsAlone(t *testing.T) {
	p := world()
	for _, path := range append(worldPaths(), impl.Path{}) {
		expectPure(t, "PathAllowed", impl.PathAllowed, p, path)
		expectPure(t, "FirstForbiddenStep", impl.FirstForbiddenStep, p, path)
		expectPure(t, "UpSteps", impl.UpSteps, p, path)
		expectPure(t, "DownSteps", impl.DownSteps, p, path)
		expectPure(t, "CoreSteps", impl.CoreSteps, p, path)
	}
	expectPure(t, "StepAllowed", impl.StepAllowed, p, impl.Step{AS: 3, Ingress: 1, Egress: 3})
}
