package tests

import (
	"math/rand"
	"reflect"
	"runtime"
	"slices"
	"sync"
	"testing"

	"loop.example/g00505/impl"
)

// anyNumber is mostly a small number, and sometimes one that is hardly valid anywhere.
func anyNumber(r *rand.Rand) int {
	switch r.Intn(8) {
	case 0:
		l := slices.Concat(strange(), []int{impl.MaxTime, impl.MaxTime + 1, impl.Prime - 1, impl.Prime, 65535, 40, 50})
		return l[r.Intn(len(l))]
	case 1:
		return r.Intn(200)
	}
	return r.Intn(10) - 1
}

func anyTopology(r *rand.Rand) impl.Topology {
	switch r.Intn(6) {
	case 0:
		return randomTopology(r)
	case 1:
		return randomValidTopology(r)
	case 2:
		return family()
	case 3:
		return impl.Topology{}
	}
	return world()
}

// anyHops are those of a valid segment, or of a part of one, some of which may be changed.
func anyHops(r *rand.Rand) []impl.Hop {
	s, _ := randomWalk(r, world())
	if r.Intn(3) == 0 {
		slices.Reverse(s.Hops)
	}
	for i := range s.Hops {
		if r.Intn(20) == 0 {
			s.Hops[i] = anyValue(r, reflect.TypeFor[impl.Hop]()).Interface().(impl.Hop)
		}
	}
	return s.Hops[:r.Intn(len(s.Hops)+1)]
}

func anySegment(r *rand.Rand) impl.Segment {
	p := world()
	if s, ok := randomWalk(r, p); ok && r.Intn(2) == 0 {
		s.Timestamp %= 100
		return build(p, s.Timestamp, s.Beta, s.Hops...)
	}
	return impl.Segment{Timestamp: anyNumber(r), Beta: anyNumber(r), Hops: anyHops(r)}
}

// pathsOnce are paths of the world, which take some time to build.
var pathsOnce = sync.OnceValue(func() []impl.Path {
	return append(worldPaths(), impl.Path{}, valley())
})

func anyPath(r *rand.Rand) impl.Path {
	l := pathsOnce()
	return copyOf(l[r.Intn(len(l))])
}

// anyPacket is one on its way, which may be changed.
func anyPacket(r *rand.Rand) impl.Packet {
	l := stops(impl.NewPacket(1+r.Intn(3), anyPath(r), r.Intn(4), r.Intn(4), encodeAll(r.Intn(9), r.Intn(8), r.Intn(99))))
	pk := l[r.Intn(len(l))]
	if len(pk.Path.Parts) > 0 && r.Intn(3) == 0 {
		changes := packetChanges(pk)
		changes[r.Intn(len(changes))](&pk)
	}
	return pk
}

// invalidOnce is invalidNetworks, which take some time to build.
var invalidOnce = sync.OnceValue(invalidNetworks)

// anyNetwork is mostly valid.
func anyNetwork(r *rand.Rand) impl.Network {
	switch r.Intn(5) {
	case 0:
		l := invalidOnce()
		return l[r.Intn(len(l))]
	case 1:
		return randomNetwork(r)
	case 2:
		w := busy()
		changes := networkChanges(w)
		changes[r.Intn(len(changes))](&w)
		return w
	}
	return busy()
}

// anyValue returns a value of this type, which is valid in some of its parts.
func anyValue(r *rand.Rand, kind reflect.Type) reflect.Value {
	switch kind {
	case reflect.TypeFor[impl.Path]():
		if r.Intn(2) == 0 {
			return reflect.ValueOf(anyPath(r))
		}
	case reflect.TypeFor[impl.Packet]():
		if r.Intn(2) == 0 {
			return reflect.ValueOf(anyPacket(r))
		}
	case reflect.TypeFor[impl.Network]():
		if r.Intn(4) > 0 {
			return reflect.ValueOf(anyNetwork(r))
		}
	case reflect.TypeFor[impl.Topology]():
		return reflect.ValueOf(anyTopology(r))
	case reflect.TypeFor[impl.Segment]():
		return reflect.ValueOf(anySegment(r))
	case reflect.TypeFor[[]impl.Hop]():
		return reflect.ValueOf(anyHops(r))
	}
	v := reflect.New(kind).Elem()
	switch kind.Kind() {
	case reflect.Int:
		v.SetInt(int64(anyNumber(r)))
	case reflect.Uint8:
		v.SetUint(uint64(r.Intn(256)))
	case reflect.Bool:
		v.SetBool(r.Intn(2) == 0)
	case reflect.String:
		v.SetString([]string{"", "-", "0-1", "1-5", "x", "01", familyLines + randomLine(r), "start 4\n" + randomLine(r)}[r.Intn(8)])
	case reflect.Struct:
		for i := range kind.NumField() {
			v.Field(i).Set(anyValue(r, kind.Field(i).Type))
		}
	case reflect.Slice:
		for range r.Intn(5) {
			v = reflect.Append(v, anyValue(r, kind.Elem()))
		}
	}
	return v
}

// TestEveryFunctionIsTotal calls the functions of the chapters 15 to 40 with arguments of any kind.
func TestEveryFunctionIsTotal(t *testing.T) {
	functions := []any{
		impl.NewBeaconing, impl.Originated, impl.Propagated, impl.DeliverBeacons, impl.RunBeaconRound, impl.RunBeaconing, impl.BeaconCount,
		impl.BuildDatabase, impl.DownSegments, impl.CoreSegments, impl.DatabaseUsable, impl.UsableSegments, impl.SegmentCount, impl.AddSegment, impl.HasSegment,
		impl.Sign, impl.VerifySignature, impl.Signers, impl.SignAs, impl.AddSignature, impl.EqualSignatures, impl.SignedData,
		impl.ValidRoot, impl.RootData, impl.IsInitialRoot, impl.IsSuccessor, impl.ValidRootChain, impl.ActiveRoot, impl.UpdateRoots, impl.FormatRoot,
		impl.CertificateData, impl.CertificateValid, impl.IssueCertificate, impl.FindCertificate, impl.CertifiedASes, impl.FormatCertificate,
		impl.SignSegment, impl.FirstBadSignature, impl.SignedSegmentValid, impl.FilterSigned, impl.TruncateSigned, impl.SignedDataSize,
		impl.MakePart, impl.IsReversed, impl.PartIngress, impl.PartEgress, impl.ValidPart, impl.VerifyPart, impl.BetaAfter, impl.EqualParts,
		impl.PathSteps, impl.WellFormedPath, impl.InterfacesUsed, impl.SimplePath, impl.VerifyPath, impl.PathUsable, impl.Endpoints, impl.FormatPath, impl.EqualPaths,
		impl.JoinUpDown, impl.JoinThree, impl.CombinePaths, impl.FindPaths, impl.HasPath, impl.CountParts, impl.EqualPathLists,
		impl.PathLength, impl.PathExpiry, impl.BetterPath, impl.PathDigest, impl.SortPaths, impl.SharedInterfaces, impl.DisjointPaths,
		impl.AppendPath, impl.ReadPath, impl.EncodablePath, impl.PathSize, impl.PathInts, impl.PathFromInts, impl.HopCount,
		impl.NewPacket, impl.ValidPacket, impl.CurrentAS, impl.EncodePacket, impl.DecodePacket, impl.EqualPackets, impl.AtLastHop, impl.FormatPacket,
		impl.TransitAllowed, impl.StepAllowed, impl.PathAllowed, impl.FirstForbiddenStep, impl.UpSteps, impl.DownSteps, impl.CoreSteps,
		impl.AdvanceHop, impl.VerifyCurrentHop, impl.CurrentHopValid, impl.Forward, impl.VerdictName, impl.EqualVerdicts,
		impl.FailedInterfaces, impl.Traverse, impl.TraceInterfaces, impl.Reaches, impl.WorkingPaths, impl.EqualSteps, impl.FormatTrace,
		impl.ReverseKind, impl.ReversePart, impl.ReversePath, impl.Reply, impl.ReverseSteps, impl.Bidirectional, impl.OppositeEndpoints,
		impl.ValidRevocation, impl.Affects, impl.AddRevocation, impl.ActiveRevocations, impl.Revoked, impl.PreferUnrevoked, impl.EncodeRevocation, impl.DecodeRevocation,
		impl.ValidReservation, impl.ReservedRate, impl.ReservationRate, impl.Admit, impl.Release, impl.ActiveReservations, impl.ValidReservations, impl.FreeRate,
		impl.EgressSteps, impl.ReservePath, impl.PathReserved, impl.PathRate, impl.AvailableRate, impl.ReservationIDs, impl.EqualReservations,
		impl.NewScheduler, impl.ValidScheduler, impl.UsedCount, impl.Transmit, impl.BeginTick, impl.SentCount, impl.EqualSchedulers,
		impl.NewFlow, impl.ValidFlow, impl.Enqueue, impl.SetPaths, impl.NextTransmission, impl.TickFlow, impl.HandleAck, impl.HandleRevocation,
		impl.NewInbox, impl.ValidInbox, impl.HandleData, impl.MakeAck, impl.FindInbox, impl.ConsistentWith, impl.EqualInboxes,
		impl.NewNetwork, impl.AddFlow, impl.ValidNetwork, impl.TruncatePath, impl.MakeRevocation, impl.ProcessPacket, impl.EqualNetworks,
		impl.ApplyEvent, impl.RunEvents, impl.CountApplied, impl.Harmless, impl.Counters, impl.EventName,
		impl.DeliverPackets, impl.RunRound, impl.RunRounds, impl.WorkingPath, impl.SettlingRounds, impl.AllDelivered, impl.Settle, impl.IsIdle,
		impl.Execute,
	}
	r := rand.New(rand.NewSource(20))
	for _, f := range functions {
		kind, name := reflect.TypeOf(f), runtime.FuncForPC(reflect.ValueOf(f).Pointer()).Name()
		for range 60 {
			args := []any{}
			for i := range kind.NumIn() {
				args = append(args, anyValue(r, kind.In(i)).Interface())
			}
			expectPure(t, name, f, args...)
		}
	}
}
