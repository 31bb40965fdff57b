package tests

import (
	"math"
	"math/rand"
	"slices"
	"testing"

	"loop.example/g00505/impl"
)

func TestPathLength(t *testing.T) {
	expectInt(t, "PathLength without parts", impl.PathLength(impl.Path{}), 0)
	expectInt(t, "PathLength without hops", impl.PathLength(pathOfParts(impl.PathPart{})), 0)
	expectInt(t, "PathLength of one hop", impl.PathLength(pathOfParts(onePart(impl.PaUp, 3))), 1)
	expectInt(t, "PathLength with merged steps", impl.PathLength(longPath()), 6)
	expectInt(t, "PathLength of parts that do not meet", impl.PathLength(pathOfParts(onePart(impl.PaUp, 1, 2), onePart(impl.PaDown, 3, 2))), 4)
	expectInt(t, "PathLength of parts at one AS", impl.PathLength(pathOfParts(onePart(1, 2), onePart(2, 2), onePart(4, 2))), 1)
	for _, p := range worldPaths() {
		expectInt(t, "PathLength", impl.PathLength(p), len(modelSteps(p)))
	}
}

func TestPathExpiry(t *testing.T) {
	of := func(expiries ...int) impl.PathPart {
		p := impl.PathPart{}
		for _, n := range expiries {
			p.Hops = append(p.Hops, impl.Hop{Expiry: n})
		}
		return p
	}
	expectInt(t, "PathExpiry without parts", impl.PathExpiry(impl.Path{}), 0)
	expectInt(t, "PathExpiry without hops", impl.PathExpiry(pathOfParts(of(), of())), 0)
	expectInt(t, "PathExpiry of one hop", impl.PathExpiry(pathOfParts(of(7))), 7)
	expectInt(t, "PathExpiry of the first", impl.PathExpiry(pathOfParts(of(7, 9), of(), of(8))), 7)
	expectInt(t, "PathExpiry of the last", impl.PathExpiry(pathOfParts(of(), of(9, 10), of(8, 6))), 6)
	expectInt(t, "PathExpiry of negative times", impl.PathExpiry(pathOfParts(of(-5), of(-7, 3))), -7)
	expectInt(t, "PathExpiry of far times", impl.PathExpiry(pathOfParts(of(math.MaxInt), of(math.MaxInt-1))), math.MaxInt-1)
	expectInt(t, "PathExpiry of early times", impl.PathExpiry(pathOfParts(of(math.MinInt))), math.MinInt)
}

// modelPathDigest computes by the words of the document.
func modelPathDigest(p impl.Path) int {
	l := []int{}
	for _, part := range p.Parts {
		l = append(l, part.Kind, part.Timestamp, part.Beta)
		for _, h := range part.Hops {
			l = append(l, h.AS, h.Ingress, h.Egress)
		}
	}
	return modelDigest(l)
}

func TestPathDigest(t *testing.T) {
	expectInt(t, "PathDigest without parts", impl.PathDigest(impl.Path{}), 7)
	expectInt(t, "PathDigest of the zero part", impl.PathDigest(pathOfParts(impl.PathPart{})), modelDigest([]int{0, 0, 0}))
	wild := pathOfParts(impl.PathPart{Kind: -1, Timestamp: math.MinInt, Beta: impl.Prime + 5, Hops: []impl.Hop{{AS: -3, Ingress: math.MaxInt, Egress: impl.Prime, Expiry: 9, MAC: 9}}}, impl.PathPart{})
	expectInt(t, "PathDigest of a wild path", impl.PathDigest(wild), modelDigest([]int{-1, math.MinInt, impl.Prime + 5, -3, math.MaxInt, impl.Prime, 0, 0, 0}))
	for _, p := range worldPaths() {
		digest := impl.PathDigest(p)
		expectInt(t, "PathDigest", digest, modelPathDigest(p))
		for i, part := range p.Parts {
			for k := range part.Hops {
				for name, change := range hopChanges() {
					q := copyOf(p)
					change(&q.Parts[i].Hops[k], 1)
					expectBool(t, "PathDigest with another "+name, impl.PathDigest(q) == digest, name == "Expiry" || name == "MAC")
				}
			}
			q := copyOf(p)
			q.Parts[i].Beta++
			expectBool(t, "PathDigest with another beta", impl.PathDigest(q) == digest, false)
		}
	}
}

// ranked returns a path of this many steps, with this expiry and this beta.
func ranked(length int, expiry int, beta int) impl.Path {
	p := onePart(impl.PaDown)
	for i := range length {
		p.Hops = append(p.Hops, impl.Hop{AS: i, Ingress: 1, Egress: 2, Expiry: expiry})
	}
	p.Beta = beta
	return pathOfParts(p)
}

// compareRanks orders paths by the words of the document.
func compareRanks(a, b impl.Path) int {
	keys := [][2]int{{len(modelSteps(a)), len(modelSteps(b))}, {impl.PathExpiry(b), impl.PathExpiry(a)}, {modelPathDigest(a), modelPathDigest(b)}}
	for _, k := range keys {
		if k[0] < k[1] {
			return -1
		} else if k[0] > k[1] {
			return 1
		}
	}
	return 0
}

func TestBetterPath(t *testing.T) {
	// Each path is better than the following ones.
	low, high := ranked(2, 50, 1), ranked(2, 50, 2)
	if impl.PathDigest(low) > impl.PathDigest(high) {
		low, high = high, low
	}
	order := []impl.Path{{}, ranked(1, -5, 0), ranked(2, 51, 9), low, high, ranked(2, 49, 3), ranked(2, -1, 3), ranked(2, math.MinInt, 3), ranked(3, math.MaxInt, 5), ranked(3, math.MinInt, 5), ranked(9, 1000, 5)}
	for i, a := range order {
		for k, b := range order {
			if ok := impl.BetterPath(a, b); ok != (i < k) {
				t.Errorf("BetterPath of %d and %d = %v", i, k, ok)
			}
		}
	}
	// Neither Expiry beyond the least one nor MACs count.
	other := copyOf(low)
	other.Parts[0].Hops[1].Expiry, other.Parts[0].Hops[1].MAC = 99, 7
	expectBool(t, "BetterPath of equivalent paths", impl.BetterPath(low, other) || impl.BetterPath(other, low), false)
	for _, a := range worldPaths() {
		for _, b := range worldPaths() {
			expectBool(t, "BetterPath", impl.BetterPath(a, b), compareRanks(a, b) < 0)
		}
	}
}

func TestSortPaths(t *testing.T) {
	expectSame(t, "SortPaths of nothing", impl.SortPaths(nil), nil)
	expectSame(t, "SortPaths of nothing", impl.SortPaths([]impl.Path{}), nil)
	expectSame(t, "SortPaths of one", impl.SortPaths([]impl.Path{longPath()}), []impl.Path{longPath()})
	sorted := []impl.Path{{}, ranked(1, 5, 0), ranked(2, 51, 9), ranked(2, 49, 3), ranked(3, 100, 5), longPath()}
	turned := slices.Clone(sorted)
	slices.Reverse(turned)
	expectSame(t, "SortPaths of what is sorted", impl.SortPaths(sorted), sorted)
	expectSame(t, "SortPaths of what is sorted the other way round", impl.SortPaths(turned), sorted)
	twice := impl.SortPaths(append(turned, sorted...))
	for i, p := range sorted {
		expectSame(t, "SortPaths of each twice", twice[2*i:2*i+2], []impl.Path{p, p})
	}
}

// marked returns a path that is equivalent to all others of the same length, and has this MAC.
func marked(length int, mac int) impl.Path {
	p := ranked(length, 50, 0)
	p.Parts[0].Hops[0].MAC = mac
	return p
}

func TestEquivalentPathsKeepTheirOrder(t *testing.T) {
	r := rand.New(rand.NewSource(33))
	for range 50 {
		l, want := []impl.Path{}, []impl.Path{}
		for i := range 40 {
			l = append(l, marked(1+r.Intn(3), i))
		}
		for length := 1; length <= 3; length++ {
			for _, p := range l {
				if impl.PathLength(p) == length {
					want = append(want, p)
				}
			}
		}
		expectSame(t, "SortPaths", impl.SortPaths(l), want)
	}
}

func TestSortingKeepsAllPaths(t *testing.T) {
	r := rand.New(rand.NewSource(34))
	all := worldPaths()
	for range 200 {
		l := []impl.Path{}
		for range r.Intn(30) {
			p := copyOf(all[r.Intn(len(all))])
			p.Parts[0].Hops[0].Expiry = 95 + r.Intn(10)
			p.Parts[0].Hops[0].MAC = len(l)
			l = append(l, p)
		}
		want := slices.Clone(l)
		slices.SortStableFunc(want, compareRanks)
		expectSame(t, "SortPaths", impl.SortPaths(l), want)
		for i, p := range want {
			for _, q := range want[i:] {
				expectBool(t, "BetterPath of a later path", impl.BetterPath(q, p), false)
			}
		}
	}
}

func TestSharedInterfaces(t *testing.T) {
	p := world()
	up, down := pathAlong(p, "up 0:0>3 3:1>3 4:1>0"), pathAlong(p, "down 0:0>3 3:1>3 4:1>0")
	expectInt(t, "SharedInterfaces", impl.SharedInterfaces(up, down), 4)
	expectInt(t, "SharedInterfaces", impl.SharedInterfaces(longPath(), up), 4)
	expectInt(t, "SharedInterfaces", impl.SharedInterfaces(pathAlong(p, "up1 0:0>3 3:1>3 4:1>0"), longPath()), 2)
	expectInt(t, "SharedInterfaces of different paths", impl.SharedInterfaces(up, pathAlong(p, "down 2:0>3 5:1>0")), 0)
	expectInt(t, "SharedInterfaces with nothing", impl.SharedInterfaces(up, impl.Path{}), 0)
	expectInt(t, "SharedInterfaces of nothing", impl.SharedInterfaces(impl.Path{}, up), 0)
	// The interfaces of a are counted: 2, 9, 10, 9 and 10, 9 there, and 10 and 9 here.
	often, once := pathOfParts(onePart(impl.PaDown, 0, 1, 1, 1)), pathOfParts(onePart(impl.PaDown, 1, 1))
	expectInts(t, "InterfacesUsed", impl.InterfacesUsed(often), 2, 9, 10, 9, 10, 9)
	expectInts(t, "InterfacesUsed", impl.InterfacesUsed(once), 10, 9)
	expectInt(t, "SharedInterfaces of one that is often in a", impl.SharedInterfaces(often, once), 5)
	expectInt(t, "SharedInterfaces of one that is often in b", impl.SharedInterfaces(once, often), 2)
}

// modelDisjoint selects by the words of the document.
func modelDisjoint(l []impl.Path, n int) []impl.Path {
	sorted := slices.Clone(l)
	slices.SortStableFunc(sorted, compareRanks)
	selected := []impl.Path{}
	for len(selected) < n && len(sorted) > 0 {
		best, least := 0, math.MaxInt
		for i, p := range sorted {
			sum := 0
			for _, q := range selected {
				sum += impl.SharedInterfaces(p, q)
			}
			if sum < least {
				best, least = i, sum
			}
		}
		selected = append(selected, sorted[best])
		sorted = slices.Delete(sorted, best, best+1)
	}
	return selected
}

func TestDisjointPaths(t *testing.T) {
	p := world()
	// From AS 4 to AS 0: 1 step over the link between them, and over AS 3 through two interfaces.
	direct, first, second := pathAlong(p, "up 0:0>4 4:4>0"), pathAlong(p, "up 0:0>3 3:1>3 4:1>0"), pathAlong(p, "up 0:0>3 3:1>4 4:2>0")
	around := pathAlong(p, "up 1:0>3 3:2>4 4:2>0", "core 1:0>1 0:1>0")
	l := []impl.Path{around, second, direct, first}
	expectSame(t, "SortPaths", impl.SortPaths(l), []impl.Path{direct, first, second, around})
	// The last one shares nothing with the first two.
	want := []impl.Path{direct, first, around, second}
	for n := 1; n <= 6; n++ {
		expectSame(t, "DisjointPaths", impl.DisjointPaths(l, n), want[:min(n, 4)])
		expectSame(t, "the model", modelDisjoint(l, n), want[:min(n, 4)])
	}
	for _, n := range append(strange(), 0) {
		if n < 1 {
			expectSame(t, "DisjointPaths of no number", impl.DisjointPaths(l, n), nil)
		} else {
			expectSame(t, "DisjointPaths of all", impl.DisjointPaths(l, n), want)
		}
		expectSame(t, "DisjointPaths of nothing", impl.DisjointPaths(nil, n), nil)
	}
}

func TestDisjointPathsWithEqualSums(t *testing.T) {
	// All of them are equivalent and share all interfaces.
	l := []impl.Path{marked(3, 4), marked(3, 2), marked(3, 9), marked(3, 2)}
	for n := 1; n <= 5; n++ {
		expectSame(t, "DisjointPaths", impl.DisjointPaths(l, n), l[:min(n, 4)])
	}
	apart := []impl.Path{pathOfParts(onePart(impl.PaDown, 1, 2)), pathOfParts(onePart(impl.PaDown, 3, 4)), pathOfParts(onePart(impl.PaDown, 5, 6))}
	sorted := impl.SortPaths(apart)
	expectSame(t, "DisjointPaths of disjoint ones", impl.DisjointPaths(apart, 2), sorted[:2])
	expectSame(t, "DisjointPaths of each twice", impl.DisjointPaths(append(apart, apart...), 4), slices.Concat(sorted, sorted[:1]))
}

// The interfaces of the remaining path are counted, not those of the selected ones.
func TestDisjointPathsCountsTheRemainingPath(t *testing.T) {
	first := pathOfParts(onePart(impl.PaDown, 1, 1, 1))
	a, b := pathOfParts(onePart(impl.PaDown, 0, 1, 1, 0)), pathOfParts(onePart(impl.PaDown, 1, 1, 1, 0))
	expectInts(t, "SharedInterfaces", []int{impl.SharedInterfaces(a, first), impl.SharedInterfaces(first, a)}, 4, 4)
	expectInts(t, "SharedInterfaces", []int{impl.SharedInterfaces(b, first), impl.SharedInterfaces(first, b)}, 5, 4)
	for impl.BetterPath(a, b) {
		b.Parts[0].Beta++
	}
	expectSame(t, "DisjointPaths", impl.DisjointPaths([]impl.Path{b, a, first}, 2), []impl.Path{first, a})
}

func TestManyDisjointPaths(t *testing.T) {
	r := rand.New(rand.NewSource(35))
	all := worldPaths()
	for range 200 {
		l := []impl.Path{}
		for range r.Intn(12) {
			l = append(l, all[r.Intn(len(all))])
			if r.Intn(3) == 0 {
				l[len(l)-1] = pathOfParts(onePart(impl.PaUp, r.Intn(3), r.Intn(3), r.Intn(3)))
			}
		}
		n := r.Intn(14)
		expectSame(t, "DisjointPaths", impl.DisjointPaths(l, n), modelDisjoint(l, n))
	}
}

func TestSelectionSharesNoMemory(t *testing.T) {
	l := append(worldPaths(), longPath(), impl.Path{})
	for n := -1; n < len(l)+2; n++ {
		expectPure(t, "DisjointPaths", impl.DisjointPaths, l, n)
	}
	expectPure(t, "SortPaths", impl.SortPaths, l)
	for _, p := range l {
		expectPure(t, "PathLength", impl.PathLength, p)
		expectPure(t, "PathExpiry", impl.PathExpiry, p)
		expectPure(t, "PathDigest", impl.PathDigest, p)
		expectPure(t, "BetterPath", impl.BetterPath, p, longPath())
		expectPure(t, "SharedInterfaces", impl.SharedInterfaces, p, longPath())
	}
	same := []impl.Path{l[0], l[0], l[0]}
	expectUnsharedParts(t, "SortPaths", impl.SortPaths(same))
	expectUnsharedParts(t, "DisjointPaths", impl.DisjointPaths(same, 3))
}
