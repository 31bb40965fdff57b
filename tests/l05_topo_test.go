package tests

import (
	"math"
	"math/rand"
	"slices"
	"testing"

	"loop.example/g00505/impl"
)

// randomTopology returns a topology that is seldom valid: interfaces are used twice, links lead to ASes that do not exist, and kinds are not valid.
func randomTopology(r *rand.Rand) impl.Topology {
	t := impl.Topology{}
	for range r.Intn(20) {
		t.ASes = append(t.ASes, impl.AS{ISD: r.Intn(5) - 1, Core: r.Intn(2) == 0, Key: r.Intn(100)})
	}
	for range r.Intn(30) {
		t.Links = append(t.Links, impl.Link{A: r.Intn(21) - 2, AInterface: r.Intn(9) - 1, B: r.Intn(21) - 2, BInterface: r.Intn(9) - 1, Kind: r.Intn(6) - 1})
	}
	return t
}

// randomValidTopology returns a valid topology with as many random links as fit.
func randomValidTopology(r *rand.Rand) impl.Topology {
	t := impl.Topology{}
	for i := range 1 + r.Intn(impl.MaxASes) {
		t.ASes = append(t.ASes, impl.AS{ISD: r.Intn(impl.MaxISDs) * r.Intn(2), Core: r.Intn(3) == 0, Key: 1 + i + 10*r.Intn(1000)})
	}
	n := len(t.ASes)
	for range 60 {
		k := impl.Link{A: r.Intn(n), AInterface: 1 + r.Intn(6), B: r.Intn(n), BInterface: 1 + r.Intn(6), Kind: 1 + r.Intn(3)}
		longer := impl.Topology{ASes: t.ASes, Links: append(slices.Clip(t.Links), k)}
		if impl.ValidTopology(longer) {
			t = longer
		}
	}
	return t
}

func expectFar(t *testing.T, p impl.Topology, r int, iface int, want int, wantInterface int) {
	t.Helper()
	if far, farInterface := impl.RemoteEnd(p, r, iface); far != want || farInterface != wantInterface {
		t.Errorf("RemoteEnd of %d#%d = %d, %d; want %d, %d", r, iface, far, farInterface, want, wantInterface)
	}
}

func expectKind(t *testing.T, p impl.Topology, r int, iface int, want int) {
	t.Helper()
	if kind := impl.InterfaceKind(p, r, iface); kind != want {
		t.Errorf("InterfaceKind of %d#%d = %d; want %d", r, iface, kind, want)
	}
}

func TestTopologyConstants(t *testing.T) {
	expectInts(t, "limits", []int{impl.MaxASes, impl.MaxInterfaces, impl.MaxISDs}, 8, 6, 3)
	expectInts(t, "kinds of links", []int{impl.LkCore, impl.LkChild, impl.LkPeer}, 1, 2, 3)
	expectInts(t, "kinds of interfaces", []int{impl.ToNone, impl.ToCore, impl.ToChild, impl.ToParent, impl.ToPeer, impl.ToSelf}, 0, 1, 2, 3, 4, 5)
}

func TestValidTopologies(t *testing.T) {
	topologies := []impl.Topology{
		family(),
		world(),
		{ASes: []impl.AS{{Key: 1}}},
		{ASes: []impl.AS{{ISD: 2, Core: true, Key: impl.Prime - 1}}, Links: []impl.Link{}},
		{ASes: world().ASes},
		{ASes: []impl.AS{{Key: 1}, {Key: 2}}, Links: []impl.Link{{A: 0, AInterface: impl.MaxInterfaces, B: 1, BInterface: impl.MaxInterfaces, Kind: impl.LkPeer}}},
	}
	for i, p := range topologies {
		if !impl.ValidTopology(p) {
			t.Errorf("topology %d is not valid", i)
		}
	}
}

// Each change alone makes the world invalid.
func TestInvalidTopologies(t *testing.T) {
	changes := map[string]func(p *impl.Topology){
		"no ASes":                  func(p *impl.Topology) { *p = impl.Topology{} },
		"no ASes but links":        func(p *impl.Topology) { p.ASes = nil },
		"more than MaxASes":        func(p *impl.Topology) { p.ASes = append(p.ASes, impl.AS{Key: 999}) },
		"equal keys":               func(p *impl.Topology) { p.ASes[7].Key = 101 },
		"equal keys of neighbours": func(p *impl.Topology) { p.ASes[4].Key = 104 },
		"key 0":                    func(p *impl.Topology) { p.ASes[3].Key = 0 },
		"key -1":                   func(p *impl.Topology) { p.ASes[3].Key = -1 },
		"key Prime":                func(p *impl.Topology) { p.ASes[3].Key = impl.Prime },
		"ISD -1 without links":     func(p *impl.Topology) { p.ASes[3].ISD = -1; p.Links = nil },
		"ISD 3 without links":      func(p *impl.Topology) { p.ASes[7].ISD = impl.MaxISDs; p.Links = nil },
		"A does not exist":         func(p *impl.Topology) { p.Links[0].A = -1 },
		"B does not exist":         func(p *impl.Topology) { p.Links[3].B = 8 },
		"B is -1":                  func(p *impl.Topology) { p.Links[3].B = -1 },
		"A and B do not exist":     func(p *impl.Topology) { p.Links[0].A = 8; p.Links[0].B = 9 },
		"large B":                  func(p *impl.Topology) { p.Links[3].B = math.MaxInt },
		"A is B":                   func(p *impl.Topology) { p.Links[0].A = 1; p.Links[0].AInterface = 4 },
		"A is B, one interface":    func(p *impl.Topology) { p.Links[0].A = 1 },
		"A greater than B": func(p *impl.Topology) {
			p.Links[0] = impl.Link{A: 1, AInterface: 1, B: 0, BInterface: 1, Kind: impl.LkCore}
		},
		"A interface 0":           func(p *impl.Topology) { p.Links[0].AInterface = 0 },
		"A interface 7":           func(p *impl.Topology) { p.Links[0].AInterface = 7 },
		"A interface -1":          func(p *impl.Topology) { p.Links[0].AInterface = -1 },
		"B interface 0":           func(p *impl.Topology) { p.Links[0].BInterface = 0 },
		"B interface 7":           func(p *impl.Topology) { p.Links[0].BInterface = 7 },
		"B interface -1":          func(p *impl.Topology) { p.Links[0].BInterface = -1 },
		"kind 0":                  func(p *impl.Topology) { p.Links[0].Kind = 0 },
		"kind 4":                  func(p *impl.Topology) { p.Links[0].Kind = 4 },
		"kind -1":                 func(p *impl.Topology) { p.Links[10].Kind = -1 },
		"an interface twice, A A": func(p *impl.Topology) { p.Links[4].AInterface = 1 },
		"an interface twice, A B": func(p *impl.Topology) { p.Links[1].AInterface = 1 },
		"an interface twice, B B": func(p *impl.Topology) { p.Links[5].BInterface = 1 },
		"an interface twice, B A": func(p *impl.Topology) { p.Links[9].AInterface = 6 },
		"a link twice":            func(p *impl.Topology) { p.Links = append(p.Links, p.Links[0]) },
		"a core AS as a child":    func(p *impl.Topology) { p.Links[0].Kind = impl.LkChild },
		"a child of another ISD": func(p *impl.Topology) {
			p.Links[8] = impl.Link{A: 1, AInterface: 5, B: 5, BInterface: 1, Kind: impl.LkChild}
		},
		"a core AS as a peer":      func(p *impl.Topology) { p.Links[4].Kind = impl.LkPeer },
		"core ASes as peers":       func(p *impl.Topology) { p.Links[0].Kind = impl.LkPeer },
		"a core link to a child":   func(p *impl.Topology) { p.Links[4].Kind = impl.LkCore },
		"a core link of others":    func(p *impl.Topology) { p.Links[10].Kind = impl.LkCore },
		"a child over a peer link": func(p *impl.Topology) { p.Links[10].Kind = impl.LkChild },
		"the last link only":       func(p *impl.Topology) { p.Links[12].Kind = 0 },
	}
	for name, change := range changes {
		p := world()
		change(&p)
		if impl.ValidTopology(p) {
			t.Errorf("%s: the topology is valid", name)
		}
	}
}

func TestLinksOfEachKindBetweenEachPair(t *testing.T) {
	for bits := range 8 {
		aCore, bCore, sameISD := bits&1 != 0, bits&2 != 0, bits&4 != 0
		b := impl.AS{ISD: 1, Core: bCore, Key: 2}
		if sameISD {
			b.ISD = 0
		}
		for kind := -1; kind <= 5; kind++ {
			p := impl.Topology{
				ASes:  []impl.AS{{ISD: 0, Core: aCore, Key: 1}, b},
				Links: []impl.Link{{A: 0, AInterface: 1, B: 1, BInterface: 1, Kind: kind}},
			}
			want := kind == impl.LkCore && aCore && bCore || kind == impl.LkChild && sameISD && !bCore || kind == impl.LkPeer && !aCore && !bCore
			if ok := impl.ValidTopology(p); ok != want {
				t.Errorf("kind %d, core %v and %v, same ISD %v: %v", kind, aCore, bCore, sameISD, ok)
			}
		}
	}
}

// The numbers of interfaces belong to an AS: the same number at two ASes is no repetition.
func TestInterfacesWithEqualNumbers(t *testing.T) {
	p := impl.Topology{ASes: []impl.AS{{Core: true, Key: 1}, {Core: true, Key: 2}, {Core: true, Key: 3}, {Core: true, Key: 4}}}
	p.Links = []impl.Link{{A: 0, AInterface: 1, B: 1, BInterface: 1, Kind: impl.LkCore}, {A: 2, AInterface: 1, B: 3, BInterface: 1, Kind: impl.LkCore}}
	if !impl.ValidTopology(p) {
		t.Error("not valid")
	}
}

func TestRemoteEndsOfTheWorld(t *testing.T) {
	p := world()
	for i, k := range p.Links {
		expectFar(t, p, k.A, k.AInterface, k.B, k.BInterface)
		expectFar(t, p, k.B, k.BInterface, k.A, k.AInterface)
		expectInt(t, "LinkIndex of end A", impl.LinkIndex(p, k.A, k.AInterface), i)
		expectInt(t, "LinkIndex of end B", impl.LinkIndex(p, k.B, k.BInterface), i)
	}
	for _, none := range [][2]int{{7, 1}, {7, 2}, {0, 0}, {0, 5}, {0, 6}, {0, 7}, {0, -1}, {8, 1}, {-1, 1}, {math.MaxInt, 1}, {math.MinInt, 1}, {1, math.MaxInt}, {1, math.MinInt}} {
		expectFar(t, p, none[0], none[1], -1, 0)
		expectInt(t, "LinkIndex", impl.LinkIndex(p, none[0], none[1]), -1)
	}
	expectFar(t, impl.Topology{}, 0, 1, -1, 0)
	expectInt(t, "LinkIndex without links", impl.LinkIndex(impl.Topology{}, 0, 1), -1)
}

func TestInterfaceKindsOfTheWorld(t *testing.T) {
	p := world()
	cases := []struct{ r, iface, want int }{
		{0, 1, impl.ToCore}, {1, 1, impl.ToCore}, {7, 3, impl.ToCore}, {2, 6, impl.ToCore},
		{0, 3, impl.ToChild}, {0, 4, impl.ToChild}, {3, 3, impl.ToChild}, {3, 4, impl.ToChild}, {5, 2, impl.ToChild},
		{3, 1, impl.ToParent}, {3, 2, impl.ToParent}, {4, 1, impl.ToParent}, {4, 4, impl.ToParent}, {6, 1, impl.ToParent},
		{3, 6, impl.ToPeer}, {5, 6, impl.ToPeer}, {4, 3, impl.ToPeer}, {6, 3, impl.ToPeer},
		{0, 5, impl.ToNone}, {7, 1, impl.ToNone}, {0, 7, impl.ToNone}, {0, -1, impl.ToNone}, {8, 1, impl.ToNone}, {-1, 1, impl.ToNone},
		{math.MaxInt, 1, impl.ToNone}, {0, math.MinInt, impl.ToNone},
		{0, 0, impl.ToSelf}, {7, 0, impl.ToSelf}, {8, 0, impl.ToSelf}, {-1, 0, impl.ToSelf}, {math.MaxInt, 0, impl.ToSelf},
	}
	for _, c := range cases {
		expectKind(t, p, c.r, c.iface, c.want)
	}
}

func TestInterfacesOfTheWorld(t *testing.T) {
	p := world()
	expectInts(t, "Interfaces of 0", impl.Interfaces(p, 0), 1, 2, 3, 4)
	expectInts(t, "Interfaces of 2", impl.Interfaces(p, 2), 1, 2, 3, 6)
	expectInts(t, "Interfaces of 3", impl.Interfaces(p, 3), 1, 2, 3, 4, 6)
	expectInts(t, "Interfaces of 7", impl.Interfaces(p, 7), 3)
	expectInts(t, "Interfaces of 8", impl.Interfaces(p, 8))
	expectInts(t, "Interfaces of -1", impl.Interfaces(p, -1))
	expectInts(t, "Interfaces without links", impl.Interfaces(impl.Topology{ASes: p.ASes}, 0))
	expectInts(t, "core interfaces of 0", impl.InterfacesOfKind(p, 0, impl.ToCore), 1, 2)
	expectInts(t, "child interfaces of 0", impl.InterfacesOfKind(p, 0, impl.ToChild), 3, 4)
	expectInts(t, "parent interfaces of 3", impl.InterfacesOfKind(p, 3, impl.ToParent), 1, 2)
	expectInts(t, "peer interfaces of 3", impl.InterfacesOfKind(p, 3, impl.ToPeer), 6)
	expectInts(t, "peer interfaces of 0", impl.InterfacesOfKind(p, 0, impl.ToPeer))
	for _, kind := range append(strange(), impl.ToNone, impl.ToSelf, 6) {
		expectInts(t, "interfaces of another kind", impl.InterfacesOfKind(p, 0, kind))
	}
}

func TestCoreASes(t *testing.T) {
	p := world()
	expectInts(t, "CoreASes of 0", impl.CoreASes(p, 0), 0, 1)
	expectInts(t, "CoreASes of 1", impl.CoreASes(p, 1), 2)
	expectInts(t, "CoreASes of 2", impl.CoreASes(p, 2), 7)
	for _, isd := range append(strange(), 3) {
		expectInts(t, "CoreASes of another ISD", impl.CoreASes(p, isd))
	}
	expectInts(t, "CoreASes of nothing", impl.CoreASes(impl.Topology{}, 0))
	p.ASes[1].Core = false
	expectInts(t, "CoreASes of 0", impl.CoreASes(p, 0), 0)
}

func TestTheRemoteEndOfTheRemoteEndIsTheInterfaceItself(t *testing.T) {
	r := rand.New(rand.NewSource(5))
	opposite := map[int]int{impl.ToCore: impl.ToCore, impl.ToChild: impl.ToParent, impl.ToParent: impl.ToChild, impl.ToPeer: impl.ToPeer}
	links := 0
	for range 300 {
		p := randomValidTopology(r)
		links += len(p.Links)
		for as := range p.ASes {
			for _, iface := range impl.Interfaces(p, as) {
				far, farInterface := impl.RemoteEnd(p, as, iface)
				expectFar(t, p, far, farInterface, as, iface)
				expectKind(t, p, far, farInterface, opposite[impl.InterfaceKind(p, as, iface)])
				expectInt(t, "LinkIndex of the far end", impl.LinkIndex(p, far, farInterface), impl.LinkIndex(p, as, iface))
			}
		}
	}
	if links < 1000 {
		t.Errorf("only %d links were seen", links)
	}
}

// In a topology that is not valid, the first link at an interface counts.
func TestTwoLinksAtOneInterface(t *testing.T) {
	p := impl.Topology{ASes: world().ASes, Links: []impl.Link{
		{A: 0, AInterface: 2, B: 1, BInterface: 1, Kind: impl.LkPeer},
		{A: 0, AInterface: 1, B: 3, BInterface: 1, Kind: impl.LkChild},
		{A: 1, AInterface: 1, B: 0, BInterface: 1, Kind: impl.LkCore},
		{A: 4, AInterface: 5, B: 3, BInterface: 1, Kind: impl.LkPeer},
	}}
	expectFar(t, p, 0, 1, 3, 1)
	expectFar(t, p, 1, 1, 0, 2)
	expectFar(t, p, 3, 1, 0, 1)
	expectFar(t, p, 4, 5, 3, 1)
	expectKind(t, p, 0, 1, impl.ToChild)
	expectKind(t, p, 1, 1, impl.ToPeer)
	expectKind(t, p, 3, 1, impl.ToParent)
	expectKind(t, p, 4, 5, impl.ToPeer)
	expectInt(t, "LinkIndex of 0#1", impl.LinkIndex(p, 0, 1), 1)
	expectInt(t, "LinkIndex of 1#1", impl.LinkIndex(p, 1, 1), 0)
	expectInt(t, "LinkIndex of 3#1", impl.LinkIndex(p, 3, 1), 1)
	expectInts(t, "Interfaces of 0", impl.Interfaces(p, 0), 1, 2)
	expectInts(t, "child interfaces of 0", impl.InterfacesOfKind(p, 0, impl.ToChild), 1)
	expectInts(t, "core interfaces of 0", impl.InterfacesOfKind(p, 0, impl.ToCore))
}

func TestLinksThatLeadBack(t *testing.T) {
	p := impl.Topology{ASes: world().ASes, Links: []impl.Link{
		{A: 2, AInterface: 3, B: 2, BInterface: 3, Kind: impl.LkChild},
		{A: 2, AInterface: 4, B: 2, BInterface: 5, Kind: impl.LkChild},
		{A: 3, AInterface: 1, B: 3, BInterface: 1, Kind: impl.LkPeer},
	}}
	expectFar(t, p, 2, 3, 2, 3)
	expectKind(t, p, 2, 3, impl.ToChild)
	expectFar(t, p, 2, 4, 2, 5)
	expectKind(t, p, 2, 4, impl.ToChild)
	expectFar(t, p, 2, 5, 2, 4)
	expectKind(t, p, 2, 5, impl.ToParent)
	expectFar(t, p, 3, 1, 3, 1)
	expectKind(t, p, 3, 1, impl.ToPeer)
	expectInts(t, "Interfaces of 2", impl.Interfaces(p, 2), 3, 4, 5)
	expectInts(t, "child interfaces of 2", impl.InterfacesOfKind(p, 2, impl.ToChild), 3, 4)
}

func TestUnusualLinks(t *testing.T) {
	p := impl.Topology{ASes: world().ASes, Links: []impl.Link{
		{A: 0, AInterface: 4, B: 1, BInterface: 6, Kind: 0},
		{A: 0, AInterface: 3, B: 1, BInterface: 5, Kind: 4},
		{A: 0, AInterface: 2, B: 1, BInterface: 4, Kind: -1},
		{A: 0, AInterface: 0, B: 1, BInterface: 7, Kind: impl.LkCore},
		{A: -3, AInterface: 2, B: 1000, BInterface: 1, Kind: impl.LkChild},
		{A: math.MinInt, AInterface: math.MinInt, B: math.MaxInt, BInterface: math.MaxInt, Kind: impl.LkPeer},
	}}
	for iface := 2; iface <= 4; iface++ {
		expectKind(t, p, 0, iface, impl.ToNone)
		expectFar(t, p, 0, iface, 1, iface+2)
	}
	expectInts(t, "interfaces without a kind", impl.InterfacesOfKind(p, 0, impl.ToNone), 2, 3, 4)
	expectInts(t, "interfaces to itself", impl.InterfacesOfKind(p, 0, impl.ToSelf), 0)
	expectInts(t, "Interfaces of 0", impl.Interfaces(p, 0), 0, 2, 3, 4)
	expectInts(t, "Interfaces of 1", impl.Interfaces(p, 1), 4, 5, 6, 7)
	expectFar(t, p, 0, 0, 1, 7)
	expectKind(t, p, 0, 0, impl.ToSelf)
	expectInt(t, "LinkIndex of interface 0", impl.LinkIndex(p, 0, 0), 3)
	expectFar(t, p, 1, 7, 0, 0)
	expectKind(t, p, 1, 7, impl.ToCore)
	expectFar(t, p, -3, 2, 1000, 1)
	expectFar(t, p, 1000, 1, -3, 2)
	expectKind(t, p, -3, 2, impl.ToChild)
	expectKind(t, p, 1000, 1, impl.ToParent)
	expectFar(t, p, math.MinInt, math.MinInt, math.MaxInt, math.MaxInt)
	expectKind(t, p, math.MaxInt, math.MaxInt, impl.ToPeer)
	expectInts(t, "Interfaces of 1000", impl.Interfaces(p, 1000), 1)
	expectInts(t, "Interfaces of the least AS", impl.Interfaces(p, math.MinInt), math.MinInt)
	expectInts(t, "Interfaces of the greatest AS", impl.Interfaces(p, math.MaxInt), math.MaxInt)
	expectInts(t, "peer interfaces of the greatest AS", impl.InterfacesOfKind(p, math.MaxInt, impl.ToPeer), math.MaxInt)
	if impl.ValidTopology(p) {
		t.Error("valid")
	}
}

// In a topology that is not valid, an interface that is not in the range 1 to MaxInterfaces has a link all the same.
func TestInterfacesBeyondTheRange(t *testing.T) {
	p := impl.Topology{ASes: []impl.AS{{Core: true, Key: 1}, {Key: 2}}, Links: []impl.Link{
		{A: 0, AInterface: 7, B: 1, BInterface: 1, Kind: impl.LkChild},
		{A: 0, AInterface: -2, B: 1, BInterface: 0, Kind: impl.LkChild},
	}}
	expectInts(t, "Interfaces of 0", impl.Interfaces(p, 0), -2, 7)
	expectInts(t, "Interfaces of 1", impl.Interfaces(p, 1), 0, 1)
	expectInts(t, "child interfaces of 0", impl.InterfacesOfKind(p, 0, impl.ToChild), -2, 7)
	expectInts(t, "parent interfaces of 1", impl.InterfacesOfKind(p, 1, impl.ToParent), 1)
	expectInts(t, "interfaces of 1 to itself", impl.InterfacesOfKind(p, 1, impl.ToSelf), 0)
	// However many links use an interface, it is there once, with the kind of the first link.
	p.Links = append(p.Links,
		impl.Link{A: 0, AInterface: 7, B: 1, BInterface: 9, Kind: impl.LkPeer},
		impl.Link{A: 1, AInterface: 0, B: 0, BInterface: -2, Kind: impl.LkPeer},
		impl.Link{A: 1, AInterface: 100, B: 1, BInterface: 100, Kind: impl.LkCore},
	)
	expectInts(t, "Interfaces of 0", impl.Interfaces(p, 0), -2, 7)
	expectInts(t, "Interfaces of 1", impl.Interfaces(p, 1), 0, 1, 9, 100)
	expectInts(t, "child interfaces of 0", impl.InterfacesOfKind(p, 0, impl.ToChild), -2, 7)
	expectInts(t, "peer interfaces of 0", impl.InterfacesOfKind(p, 0, impl.ToPeer))
	expectInts(t, "peer interfaces of 1", impl.InterfacesOfKind(p, 1, impl.ToPeer), 9)
	expectInts(t, "core interfaces of 1", impl.InterfacesOfKind(p, 1, impl.ToCore), 100)
}

// modelEnd finds the link, the far end and its kind by the document's words, for topologies of any kind.
func modelEnd(p impl.Topology, r int, iface int) (index int, far int, farInterface int, kind int) {
	index, far = -1, -1
	for i := len(p.Links) - 1; i >= 0; i-- {
		k := p.Links[i]
		kinds := [3]int{impl.ToCore, impl.ToParent, impl.ToPeer}
		if k.B == r && k.BInterface == iface {
			index, far, farInterface = i, k.A, k.AInterface
		}
		if k.A == r && k.AInterface == iface {
			kinds[1] = impl.ToChild
			index, far, farInterface = i, k.B, k.BInterface
		}
		if index == i {
			kind = impl.ToNone
			if k.Kind >= 1 && k.Kind <= 3 {
				kind = kinds[k.Kind-1]
			}
		}
	}
	if iface == 0 {
		kind = impl.ToSelf
	}
	return index, far, farInterface, kind
}

func TestManyTopologies(t *testing.T) {
	r := rand.New(rand.NewSource(6))
	for range 300 {
		p := randomTopology(r)
		for as := -3; as < 21; as++ {
			interfaces, byKind := []int{}, map[int][]int{}
			for iface := -2; iface < 9; iface++ {
				index, far, farInterface, kind := modelEnd(p, as, iface)
				expectFar(t, p, as, iface, far, farInterface)
				expectKind(t, p, as, iface, kind)
				expectInt(t, "LinkIndex", impl.LinkIndex(p, as, iface), index)
				if index >= 0 {
					interfaces = append(interfaces, iface)
					byKind[kind] = append(byKind[kind], iface)
				}
			}
			expectInts(t, "Interfaces", impl.Interfaces(p, as), interfaces...)
			for kind := -1; kind <= 6; kind++ {
				expectInts(t, "InterfacesOfKind", impl.InterfacesOfKind(p, as, kind), byKind[kind]...)
			}
		}
		if t.Failed() {
			t.Fatal(p)
		}
	}
}

func TestTopologiesAreLeftAlone(t *testing.T) {
	p := world()
	p.ASes, p.Links = withSpare(p.ASes, impl.AS{Key: 77}), withSpare(p.Links, impl.Link{Kind: 77})
	impl.ValidTopology(p)
	impl.RemoteEnd(p, 0, 1)
	impl.InterfaceKind(p, 0, 1)
	impl.Interfaces(p, 0)
	impl.InterfacesOfKind(p, 0, impl.ToCore)
	impl.CoreASes(p, 0)
	impl.LinkIndex(p, 0, 1)
	expectUntouched(t, p.ASes, world().ASes, impl.AS{Key: 77})
	expectUntouched(t, p.Links, world().Links, impl.Link{Kind: 77})
}
