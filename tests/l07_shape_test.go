package tests

import (
	"math"
	"math/rand"
	"testing"

	"loop.example/g00505/impl"
)

// modelStep returns, for every AS from 0 to 15, whether it stands behind an interface of this kind of r.
func modelStep(p impl.Topology, r int, kind int) [16]bool {
	var near [16]bool
	// A topology that is not valid may have links at interfaces beyond the range.
	for iface := -2; iface <= impl.MaxInterfaces+2; iface++ {
		_, far, _, k := modelEnd(p, r, iface)
		if k == kind && far >= 0 && far < 16 {
			near[far] = true
		}
	}
	return near
}

// modelLevels returns the ASes that are exactly 1, 2, 3 .. steps away from r, each level as a set.
func modelLevels(p impl.Topology, r int, kind int, most int) []int {
	levels := []int{}
	from := []int{r}
	for range most {
		level := 0
		for _, a := range from {
			for b, ok := range modelStep(p, a, kind) {
				if ok {
					level |= 1 << b
				}
			}
		}
		levels = append(levels, level)
		from = impl.Elements(level)
	}
	return levels
}

func unionOf(levels []int) int {
	all := 0
	for _, level := range levels {
		all |= level
	}
	return all
}

func modelCoreAS(p impl.Topology, r int) bool {
	return r >= 0 && r < len(p.ASes) && p.ASes[r].Core
}

// ladder returns a topology of n core ASes, of which each is a parent of the next one; it is not valid.
func ladder(n int) impl.Topology {
	p := impl.Topology{}
	for i := range n {
		p.ASes = append(p.ASes, impl.AS{Core: true, Key: i + 1})
		if i > 0 {
			p.Links = append(p.Links, impl.Link{A: i - 1, AInterface: 2, B: i, BInterface: 1, Kind: impl.LkChild})
		}
	}
	return p
}

// ring returns a topology of n core ASes, of which each has a link of this kind to the next one.
func ring(n int, kind int) impl.Topology {
	p := impl.Topology{}
	for i := range n {
		p.ASes = append(p.ASes, impl.AS{Core: true, Key: i + 1})
		p.Links = append(p.Links, impl.Link{A: i, AInterface: 2, B: (i + 1) % n, BInterface: 1, Kind: kind})
	}
	return p
}

func TestParentsAndChildrenOfTheWorld(t *testing.T) {
	p := world()
	parents := [][]int{{}, {}, {}, {0, 1}, {0, 3}, {2}, {5}, {}}
	children := [][]int{{3, 4}, {3}, {5}, {4}, {}, {6}, {}, {}}
	for r := range p.ASes {
		expectInts(t, "Parents", impl.Parents(p, r), parents[r]...)
		expectInts(t, "Children", impl.Children(p, r), children[r]...)
	}
	for _, r := range append(strange(), 8, 15, 16) {
		expectInts(t, "Parents of no AS", impl.Parents(p, r))
		expectInts(t, "Children of no AS", impl.Children(p, r))
	}
}

func TestHierarchyOfTheWorld(t *testing.T) {
	p := world()
	ancestors := [][]int{{}, {}, {}, {0, 1}, {0, 1, 3}, {2}, {2, 5}, {}}
	descendants := [][]int{{3, 4}, {3, 4}, {5, 6}, {4}, {}, {6}, {}, {}}
	cores := [][]int{{0}, {1}, {2}, {0, 1}, {0, 1}, {2}, {2}, {7}}
	depths := []int{0, 0, 0, 1, 2, 1, 2, 0}
	for r := range p.ASes {
		expectInts(t, "Ancestors", impl.Elements(impl.Ancestors(p, r)), ancestors[r]...)
		expectInts(t, "Descendants", impl.Elements(impl.Descendants(p, r)), descendants[r]...)
		expectInts(t, "ReachableCores", impl.ReachableCores(p, r), cores[r]...)
		expectInt(t, "Depth", impl.Depth(p, r), depths[r])
		want := 0
		if p.ASes[r].Core {
			want = 128 + 7
		}
		expectInt(t, "CoreComponent", impl.CoreComponent(p, r), want)
	}
}

func TestHierarchyWithoutLinks(t *testing.T) {
	p := impl.Topology{ASes: world().ASes}
	for r, a := range p.ASes {
		expectInt(t, "Ancestors", impl.Ancestors(p, r), 0)
		expectInt(t, "Descendants", impl.Descendants(p, r), 0)
		expectInt(t, "Depth", impl.Depth(p, r), 0)
		if a.Core {
			expectInts(t, "ReachableCores", impl.ReachableCores(p, r), r)
			expectInt(t, "CoreComponent", impl.CoreComponent(p, r), 1<<r)
		} else {
			expectInts(t, "ReachableCores", impl.ReachableCores(p, r))
			expectInt(t, "CoreComponent", impl.CoreComponent(p, r), 0)
		}
	}
}

func TestHierarchyOfNoAS(t *testing.T) {
	for _, p := range []impl.Topology{world(), {}} {
		for _, r := range append(strange(), 8, 15, 16) {
			expectInt(t, "Ancestors", impl.Ancestors(p, r), 0)
			expectInt(t, "Descendants", impl.Descendants(p, r), 0)
			expectInt(t, "Depth", impl.Depth(p, r), 0)
			expectInts(t, "ReachableCores", impl.ReachableCores(p, r))
			expectInt(t, "CoreComponent", impl.CoreComponent(p, r), 0)
		}
	}
}

func TestAnAncestorHasTheASAsADescendant(t *testing.T) {
	r := rand.New(rand.NewSource(8))
	pairs := 0
	for range 500 {
		p := randomValidTopology(r)
		for as := range p.ASes {
			for other := range p.ASes {
				up, down := impl.Contains(impl.Ancestors(p, as), other), impl.Contains(impl.Descendants(p, other), as)
				if up != down {
					t.Fatalf("%d is an ancestor of %d: %v; the other way round: %v", other, as, up, down)
				}
				if up {
					pairs++
				}
			}
			for _, parent := range impl.Parents(p, as) {
				if impl.Depth(p, as) <= impl.Depth(p, parent) {
					t.Fatalf("the parent %d of %d is as deep", parent, as)
				}
			}
		}
	}
	if pairs < 500 {
		t.Errorf("only %d pairs were seen", pairs)
	}
}

// An AS with two parents that have a common parent; the longer way counts for Depth.
func TestSeveralPaths(t *testing.T) {
	p := impl.Topology{ASes: []impl.AS{{Core: true, Key: 1}, {Key: 2}, {Key: 3}, {Key: 4}, {Key: 5}}}
	p.Links = []impl.Link{
		{A: 0, AInterface: 1, B: 1, BInterface: 1, Kind: impl.LkChild},
		{A: 0, AInterface: 2, B: 2, BInterface: 1, Kind: impl.LkChild},
		{A: 1, AInterface: 2, B: 3, BInterface: 2, Kind: impl.LkChild},
		{A: 2, AInterface: 2, B: 3, BInterface: 1, Kind: impl.LkChild},
		{A: 3, AInterface: 3, B: 4, BInterface: 1, Kind: impl.LkChild},
		{A: 0, AInterface: 3, B: 4, BInterface: 2, Kind: impl.LkChild},
	}
	expectInts(t, "Parents of 3", impl.Parents(p, 3), 1, 2)
	expectInt(t, "Ancestors of 3", impl.Ancestors(p, 3), 7)
	expectInt(t, "Ancestors of 4", impl.Ancestors(p, 4), 15)
	expectInt(t, "Descendants of 0", impl.Descendants(p, 0), 30)
	expectInt(t, "Depth of 3", impl.Depth(p, 3), 2)
	expectInt(t, "Depth of 4", impl.Depth(p, 4), 3)
	expectInts(t, "ReachableCores of 4", impl.ReachableCores(p, 4), 0)
}

// More than one link between two ASes: each AS is there once.
func TestSeveralLinksBetweenTwoASes(t *testing.T) {
	p := impl.Topology{ASes: []impl.AS{{Core: true, Key: 1}, {Key: 2}}}
	for i := 1; i <= impl.MaxInterfaces; i++ {
		p.Links = append(p.Links, impl.Link{A: 0, AInterface: i, B: 1, BInterface: 7 - i, Kind: impl.LkChild})
	}
	expectInts(t, "Parents", impl.Parents(p, 1), 0)
	expectInts(t, "Children", impl.Children(p, 0), 1)
	expectInt(t, "Depth", impl.Depth(p, 1), 1)
}

func TestStepsOfALadder(t *testing.T) {
	p := ladder(16)
	for r := range 16 {
		up, down := 0, 0
		for k := range 16 {
			if k < r && k >= r-10 {
				up |= 1 << k
			}
			if k > r && k <= r+10 {
				down |= 1 << k
			}
		}
		expectInt(t, "Ancestors on a ladder", impl.Ancestors(p, r), up)
		expectInt(t, "Descendants on a ladder", impl.Descendants(p, r), down)
		expectInt(t, "Depth on a ladder", impl.Depth(p, r), min(r, 8))
		expectInts(t, "ReachableCores on a ladder", impl.ReachableCores(p, r), impl.Elements(up|1<<r)...)
	}
}

// Sets hold the ASes 0 to 15 alone; others are not gone on from, but a walk may begin at one.
func TestASesBeyondSets(t *testing.T) {
	p := ladder(19)
	expectInts(t, "Parents of 16", impl.Parents(p, 16), 15)
	expectInts(t, "Parents of 17", impl.Parents(p, 17))
	expectInts(t, "Children of 14", impl.Children(p, 14), 15)
	expectInts(t, "Children of 15", impl.Children(p, 15))
	expectInt(t, "Ancestors of 16", impl.Ancestors(p, 16), 65535&^63)
	expectInt(t, "Ancestors of 17", impl.Ancestors(p, 17), 0)
	expectInt(t, "Descendants of 14", impl.Descendants(p, 14), 1<<15)
	expectInt(t, "Descendants of 15", impl.Descendants(p, 15), 0)
	expectInt(t, "Depth of 16", impl.Depth(p, 16), 8)
	expectInt(t, "Depth of 17", impl.Depth(p, 17), 0)
	expectInts(t, "ReachableCores of 16", impl.ReachableCores(p, 16), 6, 7, 8, 9, 10, 11, 12, 13, 14, 15)
	expectInts(t, "ReachableCores of 17", impl.ReachableCores(p, 17))
	// A walk that leaves the sets and would come back.
	p = impl.Topology{Links: []impl.Link{
		{A: 20, AInterface: 1, B: 1, BInterface: 1, Kind: impl.LkChild},
		{A: 2, AInterface: 1, B: 20, BInterface: 2, Kind: impl.LkChild},
		{A: 3, AInterface: 1, B: -4, BInterface: 1, Kind: impl.LkChild},
		{A: -5, AInterface: 1, B: 3, BInterface: 2, Kind: impl.LkChild},
	}}
	expectInt(t, "Ancestors of 1", impl.Ancestors(p, 1), 0)
	expectInt(t, "Ancestors of 20", impl.Ancestors(p, 20), 4)
	expectInt(t, "Descendants of 20", impl.Descendants(p, 20), 2)
	expectInt(t, "Ancestors of -4", impl.Ancestors(p, -4), 8)
	expectInt(t, "Ancestors of 3", impl.Ancestors(p, 3), 0)
	expectInt(t, "Depth of 1", impl.Depth(p, 1), 0)
	expectInt(t, "Depth of 20", impl.Depth(p, 20), 1)
}

func TestCycles(t *testing.T) {
	for n := 1; n <= 14; n++ {
		p := ring(n, impl.LkChild)
		for r := range n {
			up, down := 0, 0
			for k := 1; k <= 10; k++ {
				up |= 1 << ((r - k + 2*n*k) % n)
				down |= 1 << ((r + k) % n)
			}
			expectInt(t, "Ancestors in a cycle", impl.Ancestors(p, r), up)
			expectInt(t, "Descendants in a cycle", impl.Descendants(p, r), down)
			expectInt(t, "Depth in a cycle", impl.Depth(p, r), impl.MaxASes)
		}
	}
	// AS 1 leads to a cycle of AS 0 with itself.
	p := impl.Topology{Links: []impl.Link{{A: 0, AInterface: 1, B: 0, BInterface: 2, Kind: impl.LkChild}, {A: 0, AInterface: 3, B: 1, BInterface: 1, Kind: impl.LkChild}}}
	expectInt(t, "Ancestors of 1", impl.Ancestors(p, 1), 1)
	expectInt(t, "Ancestors of 0", impl.Ancestors(p, 0), 1)
	expectInt(t, "Depth of 1", impl.Depth(p, 1), impl.MaxASes)
}

func TestCoreComponentsOfRings(t *testing.T) {
	for n := 2; n <= 16; n++ {
		p := ring(n, impl.LkCore)
		for r := range n {
			want := 0
			for k := -9; k <= 9; k++ {
				want |= 1 << ((r + k + 16*n) % n)
			}
			expectInt(t, "CoreComponent in a ring", impl.CoreComponent(p, r), want)
		}
	}
	p := ring(14, impl.LkCore)
	p.Links = p.Links[:13]
	expectInt(t, "CoreComponent in a row", impl.CoreComponent(p, 0), 1<<10-1)
	expectInt(t, "CoreComponent in a row", impl.CoreComponent(p, 13), 1<<14-1<<4)
}

func TestCoreComponentsOfOtherTopologies(t *testing.T) {
	p := world()
	p.Links = p.Links[:2]
	expectInt(t, "CoreComponent of 1", impl.CoreComponent(p, 1), 7)
	expectInt(t, "CoreComponent of 7", impl.CoreComponent(p, 7), 128)
	p.Links = append(p.Links, impl.Link{A: 2, AInterface: 5, B: 12, BInterface: 1, Kind: impl.LkCore})
	expectInt(t, "CoreComponent with an AS that does not exist", impl.CoreComponent(p, 1), 1<<12+7)
	p = ring(8, impl.LkCore)
	p.ASes[3].Core = false
	expectInt(t, "CoreComponent of 3, not a core AS", impl.CoreComponent(p, 3), 0)
}

// No set holds a core AS beyond 15: it is not gone on from, even if the way begins there.
func TestCoreComponentsBeyondSets(t *testing.T) {
	p := ring(20, impl.LkCore)
	for r := 16; r <= 20; r++ {
		expectInt(t, "CoreComponent beyond 15", impl.CoreComponent(p, r), 0)
	}
	expectInt(t, "CoreComponent of 15", impl.CoreComponent(p, 15), 1<<16-1<<6)
	expectInt(t, "CoreComponent of 0", impl.CoreComponent(p, 0), 1<<10-1)
	p.Links = []impl.Link{{A: 3, AInterface: 1, B: 16, BInterface: 1, Kind: impl.LkCore}, {A: 16, AInterface: 2, B: 5, BInterface: 1, Kind: impl.LkCore}}
	expectInt(t, "CoreComponent of 16", impl.CoreComponent(p, 16), 0)
	expectInt(t, "CoreComponent of 3", impl.CoreComponent(p, 3), 1<<3)
	expectInt(t, "CoreComponent of 5", impl.CoreComponent(p, 5), 1<<5)
	expectInt(t, "CoreComponent of 15 without links", impl.CoreComponent(p, 15), 1<<15)
}

// The hierarchy steps over the interfaces that have a link, in the range 1 to MaxInterfaces or not.
func TestHierarchyOverInterfacesBeyondTheRange(t *testing.T) {
	p := impl.Topology{ASes: []impl.AS{{Core: true, Key: 1}, {Key: 2}, {Key: 3}, {Core: true, Key: 4}}, Links: []impl.Link{
		{A: 0, AInterface: 7, B: 1, BInterface: -2, Kind: impl.LkChild},
		{A: 1, AInterface: math.MaxInt, B: 2, BInterface: 0, Kind: impl.LkChild},
		{A: 0, AInterface: math.MinInt, B: 3, BInterface: 8, Kind: impl.LkCore},
	}}
	expectInts(t, "Children of 0", impl.Children(p, 0), 1)
	expectInts(t, "Parents of 1", impl.Parents(p, 1), 0)
	expectInt(t, "Descendants of 0", impl.Descendants(p, 0), 6)
	expectInt(t, "Ancestors of 1", impl.Ancestors(p, 1), 1)
	expectInt(t, "Depth of 1", impl.Depth(p, 1), 1)
	expectInts(t, "ReachableCores of 1", impl.ReachableCores(p, 1), 0)
	expectInt(t, "CoreComponent of 0", impl.CoreComponent(p, 0), 9)
	expectInt(t, "CoreComponent of 3", impl.CoreComponent(p, 3), 9)
	// The interface 0 leads to the AS itself.
	expectInts(t, "Parents of 2", impl.Parents(p, 2))
	expectInt(t, "Ancestors of 2", impl.Ancestors(p, 2), 0)
}

func TestReachableCoresAreCoreASesThatExist(t *testing.T) {
	p := ladder(12)
	p.ASes = p.ASes[:9]
	p.ASes[6].Core = false
	expectInts(t, "ReachableCores of 8", impl.ReachableCores(p, 8), 0, 1, 2, 3, 4, 5, 7, 8)
	expectInts(t, "ReachableCores of 11", impl.ReachableCores(p, 11), 1, 2, 3, 4, 5, 7, 8)
	expectInts(t, "ReachableCores of 6", impl.ReachableCores(p, 6), 0, 1, 2, 3, 4, 5)
}

func TestHierarchyOfManyTopologies(t *testing.T) {
	r := rand.New(rand.NewSource(9))
	for range 200 {
		p := randomTopology(r)
		for as := -3; as < 21; as++ {
			compareHierarchy(t, p, as)
		}
		if t.Failed() {
			t.Fatal(p)
		}
	}
}

func compareHierarchy(t *testing.T, p impl.Topology, as int) {
	t.Helper()
	up, down := modelLevels(p, as, impl.ToParent, 10), modelLevels(p, as, impl.ToChild, 10)
	expectInts(t, "Parents", impl.Parents(p, as), impl.Elements(up[0])...)
	expectInts(t, "Children", impl.Children(p, as), impl.Elements(down[0])...)
	expectInt(t, "Ancestors", impl.Ancestors(p, as), unionOf(up))
	expectInt(t, "Descendants", impl.Descendants(p, as), unionOf(down))
	depth := 0
	for depth < 8 && up[depth] != 0 {
		depth++
	}
	expectInt(t, "Depth", impl.Depth(p, as), depth)
	cores, component := []int{}, 0
	for a := range 16 {
		if modelCoreAS(p, a) && (a == as || unionOf(up)>>a&1 == 1) {
			cores = append(cores, a)
		}
	}
	expectInts(t, "ReachableCores", impl.ReachableCores(p, as), cores...)
	if modelCoreAS(p, as) && as < 16 {
		component = 1<<as | unionOf(modelLevels(p, as, impl.ToCore, 9))
	}
	expectInt(t, "CoreComponent", impl.CoreComponent(p, as), component)
}

func TestHierarchyOfFarLinks(t *testing.T) {
	p := impl.Topology{Links: []impl.Link{{A: math.MaxInt, AInterface: 1, B: math.MinInt, BInterface: 1, Kind: impl.LkChild}}}
	for _, r := range strange() {
		expectInts(t, "Parents", impl.Parents(p, r))
		expectInts(t, "Children", impl.Children(p, r))
		expectInt(t, "Ancestors", impl.Ancestors(p, r), 0)
		expectInt(t, "Depth", impl.Depth(p, r), 0)
	}
}
