package tests

import (
	"math"
	"math/rand"
	"slices"
	"testing"

	"loop.example/g00505/impl"
)

// modelPacketBytes encodes by the words of the document; the packet need not be valid.
func modelPacketBytes(pk impl.Packet) []byte {
	b := encodeAll(pk.Kind, pk.Src, pk.Dst, pk.PartIndex, pk.HopIndex, pk.Beta, pk.ReservationID, pk.Seq, len(pk.Payload))
	return slices.Concat(b, pk.Payload, modelPathBytes(pk.Path))
}

// longPacket is a valid packet on its way along the long path, at AS 2 in its second part.
func longPacket() impl.Packet {
	return impl.Packet{Kind: impl.PkData, Src: 4, Dst: 6, Path: longPath(), PartIndex: 1, HopIndex: 1, Beta: 77, ReservationID: 5, Seq: 300, Payload: []byte("hello")}
}

func expectNotDecoded(t *testing.T, what string, b []byte) {
	t.Helper()
	if pk, ok := impl.DecodePacket(b); ok || !same(pk, impl.Packet{}) {
		t.Errorf("%s: DecodePacket(%v) = %+v, %v; want nothing", what, b, pk, ok)
	}
}

func TestPacketConstants(t *testing.T) {
	expectInts(t, "kinds", []int{impl.PkData, impl.PkAck, impl.PkRevocation}, 1, 2, 3)
	expectInts(t, "limits", []int{impl.MaxPayload, impl.MaxSeq}, 40, 100000)
}

func TestNewPacket(t *testing.T) {
	for i, p := range worldPaths() {
		from, to := impl.Endpoints(p)
		want := impl.Packet{Kind: 1 + i%3, Src: from, Dst: to, Path: p, Beta: p.Parts[0].Beta, ReservationID: i, Seq: 2 * i, Payload: []byte{1, 2, byte(i)}}
		got := impl.NewPacket(1+i%3, p, i, 2*i, []byte{1, 2, byte(i)})
		expectSame(t, "NewPacket", got, want)
		expectBool(t, "ValidPacket", impl.ValidPacket(got), true)
	}
	expectSame(t, "NewPacket without parts", impl.NewPacket(2, impl.Path{}, 3, 4, nil), impl.Packet{Kind: 2, Src: -1, Dst: -1, ReservationID: 3, Seq: 4})
	hollow := pathOfParts(impl.PathPart{Kind: 1, Beta: 9}, impl.PathPart{Beta: 8})
	expectSame(t, "NewPacket without hops", impl.NewPacket(2, hollow, 3, 4, nil), impl.Packet{Kind: 2, Src: -1, Dst: -1, Path: hollow, Beta: 9, ReservationID: 3, Seq: 4})
	// Nothing need be valid.
	wild := pathOfParts(impl.PathPart{Beta: -9}, onePart(7, -3, 99))
	payload := make([]byte, 100)
	expectSame(t, "NewPacket of anything", impl.NewPacket(-1, wild, math.MinInt, math.MaxInt, payload), impl.Packet{Kind: -1, Src: -3, Dst: 99, Path: wild, Beta: -9, ReservationID: math.MinInt, Seq: math.MaxInt, Payload: payload})
}

func TestValidPacketInItsRanges(t *testing.T) {
	expectBool(t, "ValidPacket", impl.ValidPacket(longPacket()), true)
	expectBool(t, "ValidPacket of the zero packet", impl.ValidPacket(impl.Packet{}), false)
	fields := []struct {
		name     string
		set      func(pk *impl.Packet, n int)
		from, to int
	}{
		{"Kind", func(pk *impl.Packet, n int) { pk.Kind = n }, 1, 3},
		{"Src", func(pk *impl.Packet, n int) { pk.Src = n }, 0, 7},
		{"Dst", func(pk *impl.Packet, n int) { pk.Dst = n }, 0, 7},
		{"Beta", func(pk *impl.Packet, n int) { pk.Beta = n }, 0, impl.Prime - 1},
		{"ReservationID", func(pk *impl.Packet, n int) { pk.ReservationID = n }, 0, 100000},
		{"Seq", func(pk *impl.Packet, n int) { pk.Seq = n }, 0, 100000},
		{"PartIndex", func(pk *impl.Packet, n int) { pk.PartIndex, pk.HopIndex = n, 0 }, 0, 2},
		{"HopIndex", func(pk *impl.Packet, n int) { pk.HopIndex = n }, 0, 1},
		{"HopIndex", func(pk *impl.Packet, n int) { pk.PartIndex, pk.HopIndex = 2, n }, 0, 2},
	}
	for _, f := range fields {
		for n, want := range map[int]bool{f.from - 1: false, f.from: true, f.to: true, f.to + 1: false, math.MinInt: false, math.MaxInt: false} {
			pk := longPacket()
			f.set(&pk, n)
			if ok := impl.ValidPacket(pk); ok != want {
				t.Errorf("ValidPacket with %s %d = %v", f.name, n, ok)
			}
		}
	}
}

func TestValidPacketWithOtherPayloads(t *testing.T) {
	for n, want := range map[int]bool{0: true, 1: true, 39: true, 40: true, 41: false, 1000: false} {
		pk := longPacket()
		pk.Payload = make([]byte, n)
		expectBool(t, "ValidPacket with a payload of "+impl.FormatInt(n), impl.ValidPacket(pk), want)
	}
}

func TestValidPacketWithOtherPaths(t *testing.T) {
	at := func(p impl.Path) impl.Packet {
		pk := longPacket()
		pk.Path, pk.PartIndex, pk.HopIndex = p, 0, 0
		return pk
	}
	for _, p := range encodablePaths() {
		hollow := len(p.Parts) == 0 || slices.ContainsFunc(p.Parts, func(part impl.PathPart) bool { return len(part.Hops) == 0 })
		if ok := impl.ValidPacket(at(p)); ok == hollow {
			t.Errorf("ValidPacket with %+v = %v", p, ok)
		}
	}
	for _, p := range append(tooLargePaths(), negativePaths()...) {
		expectBool(t, "ValidPacket with a path that is not encodable", impl.ValidPacket(at(p)), false)
	}
	a, none := onePart(impl.PaUp, 1, 2), impl.PathPart{Kind: impl.PaCore}
	expectBool(t, "ValidPacket", impl.ValidPacket(at(pathOfParts(a, a, a))), true)
	for _, p := range []impl.Path{pathOfParts(a, none), pathOfParts(a, none, a), pathOfParts(a, a, none), pathOfParts(none, a), pathOfParts(none)} {
		expectBool(t, "ValidPacket with a part without hops", impl.ValidPacket(at(p)), false)
	}
	// Neither need the path be well-formed, nor lead from Src to Dst.
	expectBool(t, "ValidPacket with an odd path", impl.ValidPacket(at(pathOfParts(onePart(impl.PaDown, 1, 1), onePart(impl.PaUp, 5)))), true)
}

func TestPositionsOnAPath(t *testing.T) {
	p := longPath()
	ases := [][]int{{4, 3, 0}, {0, 2}, {2, 5, 6}}
	for part := -2; part <= 4; part++ {
		for hop := -2; hop <= 4; hop++ {
			pk := longPacket()
			pk.PartIndex, pk.HopIndex = part, hop
			exists := part >= 0 && part < 3 && hop >= 0 && hop < len(p.Parts[part].Hops)
			want := -1
			if exists {
				want = ases[part][hop]
			}
			expectInt(t, "CurrentAS", impl.CurrentAS(pk), want)
			expectBool(t, "AtLastHop", impl.AtLastHop(pk), part == 2 && hop == 2)
			expectBool(t, "ValidPacket", impl.ValidPacket(pk), exists)
		}
	}
	for _, n := range strange() {
		for _, position := range [][2]int{{n, 0}, {0, n}, {n, n}, {2, n}} {
			pk := longPacket()
			pk.PartIndex, pk.HopIndex = position[0], position[1]
			expectInt(t, "CurrentAS beyond the path", impl.CurrentAS(pk), -1)
			expectBool(t, "AtLastHop beyond the path", impl.AtLastHop(pk), false)
			expectBool(t, "ValidPacket beyond the path", impl.ValidPacket(pk), false)
		}
	}
}

func TestPositionsOnOddPaths(t *testing.T) {
	expect := func(what string, p impl.Path, part int, hop int, as int, last bool) {
		t.Helper()
		pk := impl.Packet{Path: p, PartIndex: part, HopIndex: hop}
		expectInt(t, "CurrentAS of "+what, impl.CurrentAS(pk), as)
		expectBool(t, "AtLastHop of "+what, impl.AtLastHop(pk), last)
	}
	none := impl.PathPart{}
	expect("no parts", impl.Path{}, 0, 0, -1, false)
	expect("no parts", impl.Path{}, -1, -1, -1, false)
	expect("a part without hops", pathOfParts(none), 0, 0, -1, false)
	expect("a part without hops", pathOfParts(none), 0, -1, -1, false)
	expect("a hop ahead of a part without hops", pathOfParts(onePart(1, 3), none), 0, 0, 3, false)
	expect("a hop behind a part without hops", pathOfParts(none, onePart(1, 3)), 1, 0, 3, true)
	expect("one hop", pathOfParts(onePart(1, 3)), 0, 0, 3, true)
	// An AS may be any number; if it is negative, the hop is not the last one.
	expect("a large AS", pathOfParts(onePart(1, 99)), 0, 0, 99, true)
	expect("no AS", pathOfParts(onePart(1, -1)), 0, 0, -1, false)
	expect("another AS that does not exist", pathOfParts(onePart(1, -5)), 0, 0, -5, false)
}

// randomPacket returns a valid packet.
func randomPacket(r *rand.Rand) impl.Packet {
	pk := impl.Packet{Kind: 1 + r.Intn(3), Src: r.Intn(8), Dst: r.Intn(8), Beta: r.Intn(impl.Prime), ReservationID: r.Intn(impl.MaxSeq + 1), Seq: r.Intn(impl.MaxSeq + 1)}
	for range 1 + r.Intn(3) {
		pk.Path.Parts = append(pk.Path.Parts, randomPart(r, 1+r.Intn(8)))
	}
	pk.PartIndex = r.Intn(len(pk.Path.Parts))
	pk.HopIndex = r.Intn(len(pk.Path.Parts[pk.PartIndex].Hops))
	for range r.Intn(41) {
		pk.Payload = append(pk.Payload, byte(r.Intn(256)))
	}
	return pk
}

func TestPacketsAreDecodedFromTheirEncodings(t *testing.T) {
	r := rand.New(rand.NewSource(37))
	packets := []impl.Packet{longPacket(), impl.NewPacket(impl.PkAck, longPath(), 0, 0, nil), impl.NewPacket(impl.PkRevocation, longPath(), impl.MaxSeq, impl.MaxSeq, make([]byte, 40))}
	for range 300 {
		packets = append(packets, randomPacket(r))
	}
	for _, pk := range packets {
		b := impl.EncodePacket(pk)
		if !slices.Equal(b, modelPacketBytes(pk)) {
			t.Fatalf("EncodePacket(%+v) = %v", pk, b)
		}
		if got, ok := impl.DecodePacket(b); !ok || !same(got, pk) || !impl.EqualPackets(got, pk) {
			t.Fatalf("DecodePacket(%v) = %+v, %v", b, got, ok)
		}
		for end := range b {
			expectNotDecoded(t, "a prefix", b[:end])
		}
		for _, more := range []byte{0, 1, 128} {
			expectNotDecoded(t, "a byte more", append(slices.Clone(b), more))
			expectNotDecoded(t, "a byte ahead", append([]byte{more}, b...))
		}
	}
}

// A changed byte yields the packet of which the bytes are the encoding, or none.
func TestDecodePacketWithOneByteChanged(t *testing.T) {
	decodes := 0
	for _, pk := range []impl.Packet{longPacket(), impl.NewPacket(impl.PkAck, worldPaths()[1], 0, 0, nil)} {
		b := impl.EncodePacket(pk)
		for i := range b {
			for by := 1; by < 256; by++ {
				other := slices.Clone(b)
				other[i] += byte(by)
				got, ok := impl.DecodePacket(other)
				if !ok {
					expectNotDecoded(t, "another byte", other)
					continue
				}
				decodes++
				if !impl.ValidPacket(got) || !slices.Equal(modelPacketBytes(got), other) || impl.EqualPackets(got, pk) {
					t.Fatalf("DecodePacket(%v) = %+v", other, got)
				}
			}
		}
	}
	if decodes < 1000 {
		t.Errorf("too few packets: %d", decodes)
	}
}

// invalidPackets have one field out of its range each; the first ones have no negative number.
func invalidPackets() (large []impl.Packet, negative []impl.Packet) {
	add := func(l *[]impl.Packet, change func(pk *impl.Packet)) {
		pk := longPacket()
		change(&pk)
		*l = append(*l, pk)
	}
	for _, change := range []func(pk *impl.Packet){
		func(pk *impl.Packet) { pk.Kind = 0 }, func(pk *impl.Packet) { pk.Kind = 4 }, func(pk *impl.Packet) { pk.Src = 8 }, func(pk *impl.Packet) { pk.Dst = 8 },
		func(pk *impl.Packet) { pk.PartIndex = 3 }, func(pk *impl.Packet) { pk.HopIndex = 2 }, func(pk *impl.Packet) { pk.PartIndex, pk.HopIndex = 2, 3 }, func(pk *impl.Packet) { pk.Beta = impl.Prime },
		func(pk *impl.Packet) { pk.ReservationID = impl.MaxSeq + 1 }, func(pk *impl.Packet) { pk.Seq = impl.MaxSeq + 1 }, func(pk *impl.Packet) { pk.Payload = make([]byte, 41) },
		func(pk *impl.Packet) { pk.Path.Parts[2].Hops = nil }, func(pk *impl.Packet) { pk.Path.Parts[0].Kind = 5 }, func(pk *impl.Packet) { pk.Path = impl.Path{} },
		func(pk *impl.Packet) { pk.Path.Parts = append(pk.Path.Parts, pk.Path.Parts[0]) },
	} {
		add(&large, change)
	}
	for _, change := range []func(pk *impl.Packet){
		func(pk *impl.Packet) { pk.Kind = -1 }, func(pk *impl.Packet) { pk.Src = -1 }, func(pk *impl.Packet) { pk.Dst = -1 }, func(pk *impl.Packet) { pk.PartIndex = -1 }, func(pk *impl.Packet) { pk.HopIndex = -1 },
		func(pk *impl.Packet) { pk.Beta = -1 }, func(pk *impl.Packet) { pk.ReservationID = -1 }, func(pk *impl.Packet) { pk.Seq = -1 }, func(pk *impl.Packet) { pk.Path.Parts[1].Hops[0].MAC = -1 },
	} {
		add(&negative, change)
	}
	return large, negative
}

func TestInvalidPacketsAreNeitherEncodedNorDecoded(t *testing.T) {
	large, negative := invalidPackets()
	for _, pk := range slices.Concat(large, negative, []impl.Packet{{}}) {
		expectBool(t, "ValidPacket", impl.ValidPacket(pk), false)
		if b := impl.EncodePacket(pk); len(b) != 0 {
			t.Errorf("EncodePacket(%+v) = %v", pk, b)
		}
	}
	for _, pk := range large {
		expectNotDecoded(t, "an invalid packet", modelPacketBytes(pk))
	}
	expectNotDecoded(t, "nothing", nil)
	expectNotDecoded(t, "nothing", []byte{})
	expectNotDecoded(t, "zeros", make([]byte, 30))
}

func TestDecodePacketRejectsNeedlessGroups(t *testing.T) {
	pk := longPacket()
	pk.Payload = nil
	b := impl.EncodePacket(pk)
	for i, c := range b {
		if c < 128 {
			// The last byte of each number is followed by a needless group.
			expectNotDecoded(t, "a needless group", slices.Concat(b[:i], []byte{c + 128, 0}, b[i+1:]))
		}
	}
}

// packetChanges change a packet in one place each.
func packetChanges(pk impl.Packet) []func(x *impl.Packet) {
	l := []func(x *impl.Packet){
		func(x *impl.Packet) { x.Kind++ }, func(x *impl.Packet) { x.Src++ }, func(x *impl.Packet) { x.Dst++ }, func(x *impl.Packet) { x.PartIndex++ }, func(x *impl.Packet) { x.HopIndex++ },
		func(x *impl.Packet) { x.Beta++ }, func(x *impl.Packet) { x.ReservationID++ }, func(x *impl.Packet) { x.Seq++ }, func(x *impl.Packet) { x.Payload = append(x.Payload, 0) },
	}
	for i := range pk.Payload {
		l = append(l, func(x *impl.Packet) { x.Payload[i]++ }, func(x *impl.Packet) { x.Payload = x.Payload[:i] })
	}
	for _, change := range pathChanges(pk.Path) {
		l = append(l, func(x *impl.Packet) { change(&x.Path) })
	}
	return l
}

func TestEqualPackets(t *testing.T) {
	pk := longPacket()
	expectBool(t, "EqualPackets", impl.EqualPackets(pk, copyOf(pk)), true)
	for i, change := range packetChanges(pk) {
		other := copyOf(pk)
		change(&other)
		if impl.EqualPackets(pk, other) || impl.EqualPackets(other, pk) {
			t.Errorf("change %d is not seen", i)
		}
	}
	swapped := copyOf(pk)
	swapped.Src, swapped.Dst = pk.Dst, pk.Src
	expectBool(t, "EqualPackets with swapped ends", impl.EqualPackets(pk, swapped), false)
	for _, p := range []impl.Path{{}, {Parts: []impl.PathPart{}}} {
		for _, payload := range [][]byte{nil, {}} {
			expectBool(t, "EqualPackets of nil and empty", impl.EqualPackets(impl.Packet{Path: p, Payload: payload}, impl.Packet{}), true)
			expectBool(t, "EqualPackets of nil and empty", impl.EqualPackets(impl.Packet{}, impl.Packet{Path: p, Payload: payload}), true)
		}
	}
}

func TestFormatPacket(t *testing.T) {
	p := world()
	pk := longPacket()
	for kind, name := range map[int]string{1: "data", 2: "ack", 3: "revocation", 0: "", 4: "", -1: "", math.MaxInt: "", math.MinInt: ""} {
		pk.Kind = kind
		expectText(t, "FormatPacket", impl.FormatPacket(p, pk), name+" 300 0>0-4>1 3>0-3>1 3>0-0>2 2>1-2>3 1>1-5>2 1>1-6>0")
	}
	expectText(t, "FormatPacket of the zero packet", impl.FormatPacket(p, impl.Packet{}), " 0 -")
	expectText(t, "FormatPacket without ASes", impl.FormatPacket(impl.Topology{}, impl.Packet{Kind: 2, Seq: -7, Path: pathOfParts(onePart(1, 3))}), "ack -7 0>?>0")
}

func TestPacketsShareNoMemory(t *testing.T) {
	p := world()
	large, negative := invalidPackets()
	for _, pk := range slices.Concat(large, negative, []impl.Packet{longPacket(), {}}) {
		expectPure(t, "NewPacket", impl.NewPacket, pk.Kind, pk.Path, pk.ReservationID, pk.Seq, pk.Payload)
		expectPure(t, "ValidPacket", impl.ValidPacket, pk)
		expectPure(t, "CurrentAS", impl.CurrentAS, pk)
		expectPure(t, "AtLastHop", impl.AtLastHop, pk)
		expectPure(t, "EncodePacket", impl.EncodePacket, pk)
		expectPure(t, "EqualPackets", impl.EqualPackets, pk, longPacket())
		expectPure(t, "FormatPacket", impl.FormatPacket, p, pk)
	}
	expectPure(t, "DecodePacket", impl.DecodePacket, modelPacketBytes(longPacket()))
	part := onePart(impl.PaUp, 1, 2)
	expectUnsharedParts(t, "NewPacket", impl.NewPacket(1, pathOfParts(part, part), 0, 0, nil))
}
