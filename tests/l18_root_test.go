package tests

import (
	"math"
	"slices"
	"testing"

	"loop.example/g00505/impl"
)

// council has four core ASes in ISD 1 (0 to 3), which may vote, and AS 4 there that is no core AS; AS 5 is a core AS of ISD 2, and AS 6 is in ISD 0.
func council() impl.Topology {
	return impl.Topology{
		ASes: []impl.AS{
			{ISD: 1, Core: true, Key: 21}, {ISD: 1, Core: true, Key: 22}, {ISD: 1, Core: true, Key: 23}, {ISD: 1, Core: true, Key: 24},
			{ISD: 1, Key: 25}, {ISD: 2, Core: true, Key: 26}, {ISD: 0, Key: 27},
		},
		Links: []impl.Link{{A: 0, AInterface: 1, B: 4, BInterface: 1, Kind: impl.LkChild}, {A: 0, AInterface: 2, B: 5, BInterface: 1, Kind: impl.LkCore}},
	}
}

// voted returns the root with the signatures of these ASes of the council.
func voted(x impl.TrustRoot, ases ...int) impl.TrustRoot {
	x.Signatures = nil
	for _, r := range ases {
		x.Signatures = append(x.Signatures, impl.Signature{AS: r, Value: modelSign(council().ASes[r].Key, rootFields(x))})
	}
	return x
}

func rootFields(x impl.TrustRoot) []int {
	return []int{x.ISD, x.Version, x.NotBefore, x.NotAfter, x.Voters, x.Quorum}
}

// council's roots: the first one is valid from 100 to 200, with the voters 0, 1 and 2 of whom two are needed; the second one from 150 to 300, with the voters 1, 2 and 3.
func firstRoot() impl.TrustRoot {
	return voted(impl.TrustRoot{ISD: 1, Version: 1, NotBefore: 100, NotAfter: 200, Voters: 7, Quorum: 2}, 0, 1, 2)
}

func secondRoot() impl.TrustRoot {
	return voted(impl.TrustRoot{ISD: 1, Version: 2, NotBefore: 150, NotAfter: 300, Voters: 14, Quorum: 1}, 0, 2)
}

func thirdRoot() impl.TrustRoot {
	return voted(impl.TrustRoot{ISD: 1, Version: 3, NotBefore: 250, NotAfter: 400, Voters: 1, Quorum: 1}, 3)
}

func threeRoots() []impl.TrustRoot {
	return []impl.TrustRoot{firstRoot(), secondRoot(), thirdRoot()}
}

func TestValidRoot(t *testing.T) {
	p := council()
	for _, x := range append(threeRoots(), impl.TrustRoot{ISD: 2, Version: 1, Voters: 32, Quorum: 1}) {
		expectBool(t, "ValidRoot", impl.ValidRoot(p, x), true)
		x.Signatures = nil
		expectBool(t, "ValidRoot without signatures", impl.ValidRoot(p, x), true)
	}
	expectBool(t, "ValidRoot of the zero root", impl.ValidRoot(p, impl.TrustRoot{}), false)
	expectBool(t, "ValidRoot without ASes", impl.ValidRoot(impl.Topology{}, firstRoot()), false)
	fields := []struct {
		name string
		set  func(x *impl.TrustRoot, n int)
		ok   []int
		bad  []int
	}{
		{"ISD", func(x *impl.TrustRoot, n int) { x.ISD = n }, []int{1}, []int{-1, 0, 2, 3}},
		{"Version", func(x *impl.TrustRoot, n int) { x.Version = n }, []int{1, 2, impl.MaxTime}, []int{-1, 0, impl.MaxTime + 1}},
		{"NotBefore", func(x *impl.TrustRoot, n int) { x.NotBefore = n }, []int{0, 1, 199, 200}, []int{-1, 201}},
		{"NotAfter", func(x *impl.TrustRoot, n int) { x.NotAfter = n }, []int{100, 101, impl.MaxTime}, []int{-1, 99, impl.MaxTime + 1}},
		{"Voters", func(x *impl.TrustRoot, n int) { x.Voters = n }, []int{3, 5, 6, 12, 15}, []int{-1, 0, 1, 8, 16, 16 + 3, 32, 32 + 3, 64 + 3, 128 + 3, 1<<15 + 3, fullSet, fullSet + 1, 65536 + 3}},
		{"Quorum", func(x *impl.TrustRoot, n int) { x.Quorum = n }, []int{1, 2, 3}, []int{-1, 0, 4}},
	}
	for _, f := range fields {
		for _, n := range f.ok {
			x := firstRoot()
			f.set(&x, n)
			expectBool(t, "ValidRoot with "+f.name+" "+impl.FormatInt(n), impl.ValidRoot(p, x), true)
		}
		for _, n := range append(f.bad, math.MinInt, math.MaxInt) {
			x := firstRoot()
			f.set(&x, n)
			expectBool(t, "ValidRoot with "+f.name+" "+impl.FormatInt(n), impl.ValidRoot(p, x), false)
		}
	}
}

func TestValidRootAtTheEndsOfTheISDs(t *testing.T) {
	for isd := -1; isd <= 4; isd++ {
		p := impl.Topology{ASes: []impl.AS{{ISD: isd, Core: true, Key: 1}}}
		x := impl.TrustRoot{ISD: isd, Version: 1, Voters: 1, Quorum: 1}
		expectBool(t, "ValidRoot of the ISD "+impl.FormatInt(isd), impl.ValidRoot(p, x), isd >= 0 && isd < impl.MaxISDs)
	}
}

func TestRootData(t *testing.T) {
	x := impl.TrustRoot{ISD: 1, Version: 2, NotBefore: 3, NotAfter: 4, Voters: 5, Quorum: -6, Signatures: []impl.Signature{{AS: 7, Value: 8}}}
	expectInts(t, "RootData", impl.RootData(x), 1, 2, 3, 4, 5, -6)
	expectInts(t, "RootData of the zero root", impl.RootData(impl.TrustRoot{}), 0, 0, 0, 0, 0, 0)
}

func TestIsInitialRoot(t *testing.T) {
	p := council()
	expectBool(t, "IsInitialRoot", impl.IsInitialRoot(p, firstRoot()), true)
	for _, ases := range [][]int{{2, 1, 0}, {0, 0, 1, 2}, {0, 1, 2, 3, 4, 5, 6}} {
		expectBool(t, "IsInitialRoot with more than are needed", impl.IsInitialRoot(p, voted(firstRoot(), ases...)), true)
	}
	for _, ases := range [][]int{{}, {0}, {0, 1}, {1, 2}, {0, 2}, {0, 0, 1}, {1, 2, 3}, {3, 4, 5, 6}} {
		expectBool(t, "IsInitialRoot with too few", impl.IsInitialRoot(p, voted(firstRoot(), ases...)), false)
	}
	for i := range 3 {
		x := firstRoot()
		x.Signatures[i].Value++
		expectBool(t, "IsInitialRoot with a wrong signature", impl.IsInitialRoot(p, x), false)
		x.Signatures = append(x.Signatures, firstRoot().Signatures[i])
		expectBool(t, "IsInitialRoot with a wrong and a right one", impl.IsInitialRoot(p, x), true)
	}
	second := secondRoot()
	expectBool(t, "IsInitialRoot of the version 2", impl.IsInitialRoot(p, voted(second, 0, 1, 2, 3)), false)
	second.Version = 1
	expectBool(t, "IsInitialRoot of the version 1", impl.IsInitialRoot(p, voted(second, 0, 1, 2, 3)), true)
	// The signatures are for all fields of the root.
	for i, change := range []func(x *impl.TrustRoot){
		func(x *impl.TrustRoot) { x.NotBefore++ }, func(x *impl.TrustRoot) { x.NotAfter++ }, func(x *impl.TrustRoot) { x.Voters = 3 }, func(x *impl.TrustRoot) { x.Quorum++ },
	} {
		x := firstRoot()
		change(&x)
		if !impl.ValidRoot(p, x) || impl.IsInitialRoot(p, x) {
			t.Errorf("change %d is not seen", i)
		}
	}
	invalid := firstRoot()
	invalid.Quorum = 4
	expectBool(t, "IsInitialRoot of an invalid root", impl.IsInitialRoot(p, voted(invalid, 0, 1, 2)), false)
	nobody := impl.TrustRoot{ISD: 1, Version: 1, NotAfter: 5}
	expectBool(t, "IsInitialRoot without voters", impl.IsInitialRoot(p, nobody), false)
}

func TestIsSuccessor(t *testing.T) {
	p := council()
	a, b := firstRoot(), secondRoot()
	expectBool(t, "IsSuccessor", impl.IsSuccessor(p, a, b), true)
	expectBool(t, "IsSuccessor", impl.IsSuccessor(p, b, thirdRoot()), true)
	// Two of the voters of a are needed.
	for _, ases := range [][]int{{0, 1}, {1, 2}, {2, 0}, {0, 1, 2}, {0, 3, 1, 4, 5}, {0, 0, 1}} {
		expectBool(t, "IsSuccessor with enough votes", impl.IsSuccessor(p, a, voted(b, ases...)), true)
	}
	// AS 3 is a voter of b only.
	for _, ases := range [][]int{{}, {0}, {1}, {2}, {0, 0}, {2, 2, 2}, {0, 3}, {1, 3}, {3, 4, 5, 6}, {3, 0, 6}} {
		expectBool(t, "IsSuccessor with too few votes", impl.IsSuccessor(p, a, voted(b, ases...)), false)
	}
	wrong := secondRoot()
	wrong.Signatures[1].Value++
	expectBool(t, "IsSuccessor with a wrong signature", impl.IsSuccessor(p, a, wrong), false)
	for from, want := range map[int]bool{98: false, 99: false, 100: true, 101: true, 199: true, 200: true, 201: false, 300: false} {
		x := b
		x.NotBefore = from
		expectBool(t, "IsSuccessor from "+impl.FormatInt(from), impl.IsSuccessor(p, a, voted(x, 0, 1)), want)
	}
	for version, want := range map[int]bool{0: false, 1: false, 2: true, 3: false} {
		x := b
		x.Version = version
		expectBool(t, "IsSuccessor of version "+impl.FormatInt(version), impl.IsSuccessor(p, a, voted(x, 0, 1)), want)
	}
	for name, change := range map[string]func(x *impl.TrustRoot){
		"another ISD":       func(x *impl.TrustRoot) { x.ISD, x.Voters = 2, 32 },
		"an invalid quorum": func(x *impl.TrustRoot) { x.Quorum = 4 },
		"an invalid time":   func(x *impl.TrustRoot) { x.NotAfter = x.NotBefore - 1 },
		"invalid voters":    func(x *impl.TrustRoot) { x.Voters = 16 },
	} {
		x := b
		change(&x)
		expectBool(t, "IsSuccessor with "+name, impl.IsSuccessor(p, a, voted(x, 0, 1, 2)), false)
	}
	// It may end before the previous one, and begin with it.
	x := b
	x.NotBefore, x.NotAfter = 100, 100
	expectBool(t, "IsSuccessor of a short root", impl.IsSuccessor(p, a, voted(x, 0, 1)), true)
	expectBool(t, "IsSuccessor of itself", impl.IsSuccessor(p, a, a), false)
}

// The previous root need not be valid.
func TestIsSuccessorOfAnInvalidRoot(t *testing.T) {
	p := council()
	a := impl.TrustRoot{ISD: 1, Version: 1, NotBefore: 100, NotAfter: 200}
	expectBool(t, "IsSuccessor without a quorum", impl.IsSuccessor(p, a, voted(secondRoot())), true)
	a.Quorum = 1
	expectBool(t, "IsSuccessor without voters", impl.IsSuccessor(p, a, secondRoot()), false)
	a.Voters = 16
	expectBool(t, "IsSuccessor by a voter that is no core AS", impl.IsSuccessor(p, a, voted(secondRoot(), 4)), true)
	a.Version = math.MaxInt
	expectBool(t, "IsSuccessor beyond all versions", impl.IsSuccessor(p, a, voted(secondRoot(), 4)), false)
	a = impl.TrustRoot{ISD: 1, Version: 0, NotBefore: -5, NotAfter: 200}
	expectBool(t, "IsSuccessor of the version 0", impl.IsSuccessor(p, a, firstRoot()), true)
}

func TestValidRootChain(t *testing.T) {
	p := council()
	l := threeRoots()
	for n := range 4 {
		expectBool(t, "ValidRootChain", impl.ValidRootChain(p, l[:n]), n > 0)
	}
	expectBool(t, "ValidRootChain of nothing", impl.ValidRootChain(p, nil), false)
	expectBool(t, "ValidRootChain without ASes", impl.ValidRootChain(impl.Topology{}, l), false)
	for i := range l {
		broken := threeRoots()
		broken[i] = voted(broken[i])
		expectBool(t, "ValidRootChain without the votes of a root", impl.ValidRootChain(p, broken), false)
		expectBool(t, "ValidRootChain without a root", impl.ValidRootChain(p, slices.Delete(threeRoots(), i, i+1)), i == 2)
		expectBool(t, "ValidRootChain with a root twice", impl.ValidRootChain(p, slices.Insert(threeRoots(), i, l[i])), false)
	}
	slices.Reverse(l)
	expectBool(t, "ValidRootChain in another order", impl.ValidRootChain(p, l), false)
	// Every version has other voters, of whom some vote for the next one.
	long := []impl.TrustRoot{firstRoot()}
	for version := 2; version < 60; version++ {
		x := impl.TrustRoot{ISD: 1, Version: version, NotBefore: 100 + version, NotAfter: 200 + version, Voters: 7 << (version % 2), Quorum: 2}
		long = append(long, voted(x, 1, 2))
		expectBool(t, "ValidRootChain of many roots", impl.ValidRootChain(p, long), true)
	}
	long[30].Signatures = long[30].Signatures[1:]
	expectBool(t, "ValidRootChain of many roots", impl.ValidRootChain(p, long), false)
	expectBool(t, "ValidRootChain of many roots", impl.ValidRootChain(p, long[:30]), true)
}

func TestActiveRoot(t *testing.T) {
	p := council()
	l := threeRoots()
	wants := map[int]int{-1: -1, 0: -1, 99: -1, 100: 0, 149: 0, 150: 1, 200: 1, 201: 1, 249: 1, 250: 2, 300: 2, 400: 2, 401: -1, impl.MaxTime: -1, math.MinInt: -1, math.MaxInt: -1}
	for now, want := range wants {
		expectInt(t, "ActiveRoot at "+impl.FormatInt(now), impl.ActiveRoot(p, l, now), want)
		expectInt(t, "ActiveRoot of an invalid chain", impl.ActiveRoot(p, l[1:], now), -1)
		expectInt(t, "ActiveRoot of nothing", impl.ActiveRoot(p, nil, now), -1)
	}
	for now, want := range map[int]int{149: 0, 150: 1, 250: 1, 300: 1, 301: -1} {
		expectInt(t, "ActiveRoot of two", impl.ActiveRoot(p, l[:2], now), want)
	}
	// The second root may end before the first one.
	short := secondRoot()
	short.NotAfter = 160
	l = []impl.TrustRoot{firstRoot(), voted(short, 0, 1)}
	for now, want := range map[int]int{149: 0, 150: 1, 160: 1, 161: 0, 200: 0, 201: -1} {
		expectInt(t, "ActiveRoot behind a short root", impl.ActiveRoot(p, l, now), want)
	}
}

func TestUpdateRoots(t *testing.T) {
	p := council()
	l := threeRoots()
	expectSame(t, "UpdateRoots of nothing", impl.UpdateRoots(p, nil, l[0]), l[:1])
	expectSame(t, "UpdateRoots of nothing", impl.UpdateRoots(p, []impl.TrustRoot{}, l[1]), nil)
	expectSame(t, "UpdateRoots", impl.UpdateRoots(p, l[:1], l[1]), l[:2])
	expectSame(t, "UpdateRoots", impl.UpdateRoots(p, l[:2], l[2]), l)
	for i, x := range []impl.TrustRoot{l[0], l[1], {}, voted(l[2]), voted(l[2], 0)} {
		if got := impl.UpdateRoots(p, l[:2], x); !same(got, l[:2]) {
			t.Errorf("root %d was appended", i)
		}
	}
	expectSame(t, "UpdateRoots of an invalid chain", impl.UpdateRoots(p, l[1:2], l[2]), l[1:2])
	expectSame(t, "UpdateRoots without ASes", impl.UpdateRoots(impl.Topology{}, l[:1], l[1]), l[:1])
}

func TestFormatRoot(t *testing.T) {
	expectText(t, "FormatRoot", impl.FormatRoot(firstRoot()), "1.1 2/3")
	expectText(t, "FormatRoot of the zero root", impl.FormatRoot(impl.TrustRoot{}), "0.0 0/0")
	expectText(t, "FormatRoot of a full set", impl.FormatRoot(impl.TrustRoot{ISD: 2, Version: 10, Voters: fullSet, Quorum: 16}), "2.10 16/16")
	expectText(t, "FormatRoot of an invalid set", impl.FormatRoot(impl.TrustRoot{ISD: -2, Version: -10, Voters: fullSet + 1, Quorum: -1}), "-2.-10 -1/0")
	expectText(t, "FormatRoot of a negative set", impl.FormatRoot(impl.TrustRoot{Voters: -1}), "0.0 0/0")
}

func TestRootsShareNoMemory(t *testing.T) {
	p, l := council(), threeRoots()
	expectPure(t, "ValidRoot", impl.ValidRoot, p, l[0])
	expectPure(t, "RootData", impl.RootData, l[0])
	expectPure(t, "IsInitialRoot", impl.IsInitialRoot, p, l[0])
	expectPure(t, "IsSuccessor", impl.IsSuccessor, p, l[0], l[1])
	expectPure(t, "ValidRootChain", impl.ValidRootChain, p, l)
	expectPure(t, "ActiveRoot", impl.ActiveRoot, p, l, 150)
	expectPure(t, "UpdateRoots", impl.UpdateRoots, p, l[:2], l[2])
	expectPure(t, "UpdateRoots of no successor", impl.UpdateRoots, p, l[:2], l[1])
	twice := []impl.TrustRoot{l[0], l[0]}
	expectUnsharedParts(t, "UpdateRoots", impl.UpdateRoots(p, twice, l[0]))
}
