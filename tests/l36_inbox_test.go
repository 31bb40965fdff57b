package tests

import (
	"math"
	"math/rand"
	"slices"
	"testing"

	"loop.example/g00505/impl"
)

// inbox returns the inbox at AS 6 for messages from AS 4, with two of them.
func inbox() impl.Inbox {
	return impl.Inbox{AS: 6, Source: 4, Next: 2, Received: mail("one", "two")}
}

// inboxWith returns this inbox with a change.
func inboxWith(change func(x *impl.Inbox)) impl.Inbox {
	x := inbox()
	change(&x)
	return x
}

// inboxOf returns an inbox with n messages.
func inboxOf(n int) impl.Inbox {
	return impl.Inbox{AS: 6, Source: 4, Next: n, Received: make([]impl.Message, n)}
}

// brought returns a packet from AS 4 to AS 6 with this sequence number, as it is delivered.
func brought(seq int, text string) impl.Packet {
	pk := impl.NewPacket(impl.PkData, longPath(), 5, seq, []byte(text))
	return at(pk, 2, 2, 9)
}

func TestNewInbox(t *testing.T) {
	expectSame(t, "NewInbox", impl.NewInbox(6, 4), impl.Inbox{AS: 6, Source: 4})
	expectSame(t, "NewInbox of anything", impl.NewInbox(-6, math.MaxInt), impl.Inbox{AS: -6, Source: math.MaxInt})
}

// invalidInboxes have one condition broken each.
func invalidInboxes() []impl.Inbox {
	l := []impl.Inbox{{}, inboxOf(21)}
	for _, change := range []func(x *impl.Inbox){
		func(x *impl.Inbox) { x.AS = -1 }, func(x *impl.Inbox) { x.AS = 8 }, func(x *impl.Inbox) { x.Source = -1 }, func(x *impl.Inbox) { x.Source = 8 }, func(x *impl.Inbox) { x.Source = x.AS }, func(x *impl.Inbox) { x.AS, x.Source = 0, 0 },
		func(x *impl.Inbox) { x.Next = 1 }, func(x *impl.Inbox) { x.Next = 3 }, func(x *impl.Inbox) { x.Next = -1 }, func(x *impl.Inbox) { x.Received = nil }, func(x *impl.Inbox) { x.Received = append(x.Received, impl.Message{}) },
		func(x *impl.Inbox) { x.Received[0].Data = make([]byte, 41) }, func(x *impl.Inbox) { x.Received[1].Data = make([]byte, 41) },
	} {
		l = append(l, inboxWith(change))
	}
	return l
}

func TestValidInbox(t *testing.T) {
	expectBool(t, "ValidInbox", impl.ValidInbox(inbox()), true)
	for i, x := range invalidInboxes() {
		if impl.ValidInbox(x) {
			t.Errorf("inbox %d is valid", i)
		}
	}
	for a := -1; a <= 8; a++ {
		for b := -1; b <= 8; b++ {
			expectBool(t, "ValidInbox of a new inbox", impl.ValidInbox(impl.NewInbox(a, b)), a >= 0 && a < 8 && b >= 0 && b < 8 && a != b)
		}
	}
	for n := range 23 {
		expectBool(t, "ValidInbox of many messages", impl.ValidInbox(inboxOf(n)), n <= 20)
	}
	for n, want := range map[int]bool{0: true, 40: true, 41: false} {
		expectBool(t, "ValidInbox of a long message", impl.ValidInbox(inboxWith(func(x *impl.Inbox) { x.Received[1].Data = make([]byte, n) })), want)
	}
}

// foreign are packets that bring nothing to the inbox, with the sequence number seq.
func foreign(seq int) []impl.Packet {
	l := []impl.Packet{{}}
	for _, change := range []func(pk *impl.Packet){
		func(pk *impl.Packet) { pk.Kind = impl.PkAck }, func(pk *impl.Packet) { pk.Kind = impl.PkRevocation }, func(pk *impl.Packet) { pk.Kind = 0 }, func(pk *impl.Packet) { pk.Src = 3 }, func(pk *impl.Packet) { pk.Dst = 5 }, func(pk *impl.Packet) { pk.Src, pk.Dst = pk.Dst, pk.Src },
	} {
		pk := brought(seq, "x")
		change(&pk)
		l = append(l, pk)
	}
	return l
}

func TestHandleData(t *testing.T) {
	want := inboxWith(func(x *impl.Inbox) { x.Next, x.Received = 3, mail("one", "two", "three") })
	expectSame(t, "HandleData", impl.HandleData(inbox(), brought(2, "three")), want)
	expectSame(t, "HandleData of the same packet again", impl.HandleData(want, brought(2, "three")), want)
	for _, seq := range []int{0, 1, 3, 4, -1, math.MinInt, math.MaxInt} {
		expectSame(t, "HandleData out of order", impl.HandleData(inbox(), brought(seq, "x")), inbox())
	}
	for _, pk := range foreign(2) {
		expectSame(t, "HandleData of another packet", impl.HandleData(inbox(), pk), inbox())
	}
	// Neither the path nor the size of the payload is asked for.
	odd := impl.Packet{Kind: impl.PkData, Src: 4, Dst: 6, Seq: 2, Payload: make([]byte, 50)}
	expectSame(t, "HandleData of an invalid packet", impl.HandleData(inbox(), odd), inboxWith(func(x *impl.Inbox) { x.Next, x.Received = 3, append(x.Received, impl.Message{Data: odd.Payload}) }))
	for n := 17; n <= 22; n++ {
		want := inboxOf(n)
		if n < 20 {
			want.Next, want.Received = n+1, append(want.Received, mail("x")...)
		}
		expectSame(t, "HandleData of the next message", impl.HandleData(inboxOf(n), brought(n, "x")), want)
	}
	// Next counts, not the number of messages.
	expectSame(t, "HandleData where a message is missing", impl.HandleData(inboxWith(func(x *impl.Inbox) { x.Next = 7 }), brought(7, "x")), inboxWith(func(x *impl.Inbox) { x.Next, x.Received = 8, mail("one", "two", "x") }))
	expectSame(t, "HandleData of a negative number", impl.HandleData(inboxWith(func(x *impl.Inbox) { x.Next = -3 }), brought(-3, "x")), inboxWith(func(x *impl.Inbox) { x.Next, x.Received = -2, mail("one", "two", "x") }))
}

func TestMakeAck(t *testing.T) {
	for seq, want := range map[int]bool{0: true, 1: true, 2: false, 3: false, -1: true, math.MinInt: true, math.MaxInt: false} {
		pk, ok := impl.MakeAck(inbox(), brought(seq, "x"))
		expectBool(t, "MakeAck of "+impl.FormatInt(seq), ok, want)
		ack := impl.Packet{}
		if want {
			back := impl.ReversePath(longPath())
			ack = impl.Packet{Kind: impl.PkAck, Src: 6, Dst: 4, Path: back, Beta: back.Parts[0].Beta, ReservationID: 5, Seq: seq}
		}
		expectSame(t, "MakeAck", pk, ack)
	}
	for _, other := range foreign(1) {
		pk, ok := impl.MakeAck(inbox(), other)
		expectBool(t, "MakeAck of another packet", ok, false)
		expectSame(t, "MakeAck of another packet", pk, impl.Packet{})
	}
	_, ok := impl.MakeAck(impl.NewInbox(6, 4), brought(0, "x"))
	expectBool(t, "MakeAck of nothing received", ok, false)
	// The acknowledgement follows the path, wherever that leads.
	pk, ok := impl.MakeAck(inbox(), impl.Packet{Kind: impl.PkData, Src: 4, Dst: 6})
	expectBool(t, "MakeAck without a path", ok, true)
	expectSame(t, "MakeAck without a path", pk, impl.Packet{Kind: impl.PkAck, Src: -1, Dst: -1})
}

func TestFindInbox(t *testing.T) {
	l := []impl.Inbox{impl.NewInbox(1, 2), impl.NewInbox(6, 5), inbox(), impl.NewInbox(4, 6), impl.NewInbox(6, 4), impl.NewInbox(-1, 99)}
	expectInts(t, "FindInbox", []int{impl.FindInbox(l, 1, 2), impl.FindInbox(l, 6, 5), impl.FindInbox(l, 6, 4), impl.FindInbox(l, 4, 6), impl.FindInbox(l, -1, 99)}, 0, 1, 2, 3, 5)
	expectInts(t, "FindInbox of none", []int{impl.FindInbox(l, 2, 1), impl.FindInbox(l, 6, 2), impl.FindInbox(l, 1, 4), impl.FindInbox(l, 0, 0), impl.FindInbox(nil, 6, 4), impl.FindInbox(l, 99, -1)}, -1, -1, -1, -1, -1, -1)
}

func TestConsistentWith(t *testing.T) {
	f := impl.Flow{Src: 4, Dst: 6, Acknowledged: 1, Messages: mail("one", "two", "three")}
	for n := range 5 {
		for acknowledged, least := range map[int]int{0: 0, 1: 1, 2: 2, 3: 3, 4: 9, -1: 0, math.MinInt: 0, math.MaxInt: 9} {
			x := inboxWith(func(x *impl.Inbox) { x.Received = mail("one", "two", "three", "four")[:n] })
			g := f
			g.Acknowledged = acknowledged
			expectBool(t, "ConsistentWith", impl.ConsistentWith(g, x), n >= least && n <= 3)
		}
	}
	expectBool(t, "ConsistentWith", impl.ConsistentWith(f, inbox()), true)
	for i, change := range []func(x *impl.Inbox){
		func(x *impl.Inbox) { x.AS = 5 }, func(x *impl.Inbox) { x.Source = 5 }, func(x *impl.Inbox) { x.AS, x.Source = 4, 6 }, func(x *impl.Inbox) { x.AS = -6 },
		func(x *impl.Inbox) { x.Received[0].Data[0] = 'O' }, func(x *impl.Inbox) { x.Received[1].Data[2] = 'O' }, func(x *impl.Inbox) { x.Received[1].Data = nil }, func(x *impl.Inbox) { x.Received[1].Data = append(x.Received[1].Data, 0) },
		func(x *impl.Inbox) { slices.Reverse(x.Received) }, func(x *impl.Inbox) { x.Received = x.Received[1:] }, func(x *impl.Inbox) { x.Received = nil },
	} {
		if impl.ConsistentWith(f, inboxWith(change)) {
			t.Errorf("inbox %d is consistent", i)
		}
	}
	// Next plays no part, and ends need not be valid.
	expectBool(t, "ConsistentWith another Next", impl.ConsistentWith(f, inboxWith(func(x *impl.Inbox) { x.Next = 77 })), true)
	expectBool(t, "ConsistentWith of invalid ends", impl.ConsistentWith(impl.Flow{Src: -1, Dst: 99}, impl.Inbox{AS: 99, Source: -1}), true)
	expectBool(t, "ConsistentWith of nil and empty", impl.ConsistentWith(impl.Flow{Messages: []impl.Message{{}}}, impl.Inbox{Received: []impl.Message{{Data: []byte{}}}}), true)
}

// inboxChanges change an inbox with messages in one place each.
func inboxChanges(x impl.Inbox) []func(x *impl.Inbox) {
	l := []func(x *impl.Inbox){
		func(x *impl.Inbox) { x.AS++ }, func(x *impl.Inbox) { x.Source++ }, func(x *impl.Inbox) { x.Next++ },
	}
	for _, change := range messageChanges(x.Received) {
		l = append(l, func(x *impl.Inbox) { change(&x.Received) })
	}
	return l
}

// messageChanges change a list of two or more different messages that are not empty in one place each.
func messageChanges(l []impl.Message) []func(m *[]impl.Message) {
	changes := []func(m *[]impl.Message){
		func(m *[]impl.Message) { *m = nil }, func(m *[]impl.Message) { *m = (*m)[1:] }, func(m *[]impl.Message) { *m = append(*m, impl.Message{}) }, func(m *[]impl.Message) { slices.Reverse(*m) },
	}
	for i, x := range l {
		changes = append(changes, func(m *[]impl.Message) { (*m)[i].Data = nil }, func(m *[]impl.Message) { (*m)[i].Data = append((*m)[i].Data, 0) })
		for k := range x.Data {
			changes = append(changes, func(m *[]impl.Message) { (*m)[i].Data[k]++ })
		}
	}
	return changes
}

func TestEqualInboxes(t *testing.T) {
	x := inbox()
	expectBool(t, "EqualInboxes", impl.EqualInboxes(x, copyOf(x)), true)
	for i, change := range inboxChanges(x) {
		y := copyOf(x)
		change(&y)
		if impl.EqualInboxes(x, y) || impl.EqualInboxes(y, x) {
			t.Errorf("change %d is not seen", i)
		}
	}
	for _, received := range [][]impl.Message{nil, {}} {
		expectBool(t, "EqualInboxes of nil and empty", impl.EqualInboxes(impl.Inbox{Received: received}, impl.Inbox{}) && impl.EqualInboxes(impl.Inbox{}, impl.Inbox{Received: received}), true)
	}
	expectBool(t, "EqualInboxes of nil and empty data", impl.EqualInboxes(impl.Inbox{Received: []impl.Message{{}}}, impl.Inbox{Received: []impl.Message{{Data: []byte{}}}}), true)
}

// Messages are received in order, each once.
func TestMessagesAreReceivedInOrder(t *testing.T) {
	r := rand.New(rand.NewSource(59))
	for range 40 {
		sent := []impl.Message{}
		for range r.Intn(21) {
			sent = append(sent, mail(string(rune('a'+r.Intn(4))))...)
		}
		x, f := impl.NewInbox(6, 4), impl.Flow{Src: 4, Dst: 6, Messages: sent}
		for range 200 {
			seq := r.Intn(22)
			if seq >= len(sent) {
				x = impl.HandleData(x, foreign(x.Next)[r.Intn(7)])
				continue
			}
			pk := brought(seq, string(sent[seq].Data))
			isNext := seq == x.Next
			y := impl.HandleData(x, pk)
			expectBool(t, "a message that was received", same(x, y), !isNext)
			_, ok := impl.MakeAck(y, pk)
			expectBool(t, "MakeAck", ok, seq < y.Next)
			x = y
			expectBool(t, "ValidInbox", impl.ValidInbox(x), true)
			expectBool(t, "ConsistentWith", impl.ConsistentWith(f, x), true)
		}
		expectSame(t, "the messages", x.Received, sent[:x.Next])
	}
}

func TestInboxesShareNoMemory(t *testing.T) {
	for _, x := range append(invalidInboxes(), inbox(), impl.NewInbox(1, 2), inboxOf(19), inboxOf(20)) {
		for _, pk := range append(foreign(2), brought(x.Next, "next"), brought(x.Next-1, "last"), brought(x.Next+1, "later")) {
			expectPure(t, "HandleData", impl.HandleData, x, pk)
			expectPure(t, "MakeAck", impl.MakeAck, x, pk)
		}
		expectPure(t, "ValidInbox", impl.ValidInbox, x)
		expectPure(t, "ConsistentWith", impl.ConsistentWith, flow(), x)
		expectPure(t, "EqualInboxes", impl.EqualInboxes, inbox(), x)
	}
	expectPure(t, "FindInbox", impl.FindInbox, []impl.Inbox{inbox(), inboxOf(3)}, 6, 4)
}
