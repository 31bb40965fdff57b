package tests

import (
	"math/rand"
	"slices"
	"sync"

	"loop.example/g00505/impl"
)

// beaconed returns the database of all segments that arise of beacons with the timestamp 10, which expire at 110.
func beaconed(p impl.Topology) impl.SegmentDatabase {
	return impl.BuildDatabase(p, nil, impl.RunBeaconing(p, nil, 10))
}

// withFlow returns w with a flow that sends these messages.
func withFlow(w impl.Network, src int, dst int, reservation int, messages ...string) impl.Network {
	f := impl.NewFlow(src, dst, reservation)
	f.Messages = mail(messages...)
	f.Paths = impl.SortPaths(modelFind(w.Topology, w.Database, src, dst, w.Now))
	w.Flows = append(slices.Clip(w.Flows), f)
	w.Inboxes = append(slices.Clip(w.Inboxes), impl.Inbox{AS: dst, Source: src})
	return w
}

// quietOnce is quiet, which takes some time to build.
var quietOnce = sync.OnceValue(func() impl.Network {
	p := world()
	w := impl.Network{Topology: p, Database: beaconed(p), Scheduler: impl.Scheduler{Capacity: 8}, Now: 50}
	w = withFlow(w, 4, 6, 0, "one", "two", "three")
	w = withFlow(w, 4, 7, 0, "four")
	return withFlow(w, 6, 4, 0, "five", "six")
})

// quiet is the network of the world at the time 50 with the capacity 8, in which AS 4 sends to 6 and to 7, and 6 to 4. Nothing has happened in it.
func quiet() impl.Network {
	return copyOf(quietOnce())
}

// busy is a valid network in which no list is empty.
func busy() impl.Network {
	w := quiet()
	w.Scheduler.Reservations = []impl.Reservation{leaseAt(1, 4, 1, 2, 60), leaseAt(2, 4, 1, 3, 70)}
	w.Scheduler.Usages = []impl.Usage{{ID: 1, AS: 4, Interface: 1, Count: 1}, {AS: 4, Interface: 1, Count: 2}}
	w.FailedLinks = []int{1, 11}
	w.InFlight = []impl.PacketInFlight{{To: 3, Ingress: 3, Packet: stops(impl.NewPacket(impl.PkData, longPath(), 1, 0, []byte("one")))[1]}, {To: 5, Ingress: 1, Packet: stops(impl.NewPacket(impl.PkAck, longPath(), 0, 7, nil))[4]}}
	w.Flows[0].Acknowledged, w.Flows[0].Wait, w.Flows[0].Current = 1, 3, 2
	w.Flows[0].Revocations = []impl.Revocation{{AS: 1, Interface: 2, Until: 60}, {AS: 2, Interface: 3, Until: 5}}
	w.Inboxes[0].Next, w.Inboxes[0].Received = 2, mail("one", "two")
	w.Dropped = 3
	return w
}

// crowded returns the network with n packets in flight.
func crowded(w impl.Network, n int) impl.Network {
	w.InFlight = slices.Repeat([]impl.PacketInFlight{{To: 2, Ingress: 9, Packet: impl.Packet{Seq: 7}}}, n)
	return w
}

// with returns a copy of w with a change.
func with(w impl.Network, change func(w *impl.Network)) impl.Network {
	w = copyOf(w)
	change(&w)
	return w
}

// inFlight returns the packet as it is sent through interface out of AS r.
func inFlight(p impl.Topology, r int, out int, pk impl.Packet) impl.PacketInFlight {
	_, far, in, _ := modelEnd(p, r, out)
	return impl.PacketInFlight{To: far, Ingress: in, Packet: pk}
}

// modelEgress returns the interface through which the packet is to leave the AS that it has come to.
func modelEgress(pk impl.Packet) int {
	for pk.PartIndex < len(pk.Path.Parts)-1 && pk.HopIndex == len(pk.Path.Parts[pk.PartIndex].Hops)-1 {
		pk.PartIndex, pk.HopIndex = pk.PartIndex+1, 0
	}
	return impl.PartEgress(pk.Path.Parts[pk.PartIndex], pk.HopIndex)
}

// branch returns a copy of w in which elements of lists can be replaced, but not changed.
func branch(w impl.Network) impl.Network {
	w.FailedLinks, w.InFlight = slices.Clone(w.FailedLinks), slices.Clone(w.InFlight)
	w.Flows, w.Inboxes = slices.Clone(w.Flows), slices.Clone(w.Inboxes)
	return w
}

// modelProcess processes a packet by the words of the document.
func modelProcess(w impl.Network, r int, in int, pk impl.Packet) impl.Network {
	w = branch(w)
	v := impl.Forward(w.Topology, r, w.Now, modelFailed(w.Topology, w.FailedLinks, r), in, pk)
	switch {
	case v.Code == impl.FwForward:
		g, ok := impl.Transmit(w.Scheduler, pk.ReservationID, r, v.Egress, w.Now)
		if ok && len(w.InFlight) < 150 {
			w.Scheduler = g
			w.InFlight = append(w.InFlight, inFlight(w.Topology, r, v.Egress, v.Packet))
		} else {
			w.Dropped++
		}
	case v.Code == impl.FwDeliver && pk.Kind == impl.PkData:
		i := slices.IndexFunc(w.Inboxes, func(x impl.Inbox) bool { return x.AS == r && x.Source == pk.Src })
		if i < 0 {
			break
		}
		w.Inboxes[i] = impl.HandleData(w.Inboxes[i], v.Packet)
		if ack, ok := impl.MakeAck(w.Inboxes[i], v.Packet); ok {
			w = modelProcess(w, r, 0, ack)
		}
	case v.Code == impl.FwDeliver:
		modelTell(&w, r, v.Packet)
	case v.Code == impl.FwLinkDown && pk.Kind == impl.PkData:
		w.Dropped++
		back := impl.MakeRevocation(w.Topology, r, w.Now, modelEgress(pk), pk)
		if len(modelSteps(impl.TruncatePath(pk))) > 1 {
			w = modelProcess(w, r, 0, back)
		} else {
			modelTell(&w, r, back)
		}
	default:
		w.Dropped++
	}
	return w
}

// modelTell hands an acknowledgement or a revocation to every flow of AS r.
func modelTell(w *impl.Network, r int, pk impl.Packet) {
	for i, f := range w.Flows {
		switch {
		case f.Src != r:
		case pk.Kind == impl.PkAck:
			w.Flows[i] = impl.HandleAck(f, pk)
		case pk.Kind == impl.PkRevocation:
			w.Flows[i] = impl.HandleRevocation(f, pk, w.Now)
		}
	}
}

// randomNetwork returns a valid network with flows that have something to send.
func randomNetwork(r *rand.Rand) impl.Network {
	p := world()
	if r.Intn(3) > 0 {
		p = randomValidTopology(r)
	}
	w := impl.NewNetwork(p, beaconed(p), 1+r.Intn(20), 10+r.Intn(90))
	for range 1 + r.Intn(6) {
		f := impl.NewFlow(r.Intn(8), r.Intn(8), r.Intn(3))
		for range r.Intn(6) {
			f, _ = impl.Enqueue(f, []byte{byte(r.Intn(3))})
		}
		w, _ = impl.AddFlow(w, f)
	}
	for _, f := range w.Flows {
		for range r.Intn(2) {
			l := []impl.Path{{}}
			l = append(l, f.Paths...)
			w.Scheduler.Reservations, _ = impl.ReservePath(w.Scheduler.Reservations, f.ReservationID, l[r.Intn(len(l))], 1+r.Intn(3), w.Now+r.Intn(60), w.Scheduler.Capacity, w.Now)
		}
	}
	return w
}
