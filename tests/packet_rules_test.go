package tests

import (
	"bytes"
	"reflect"
	"testing"

	"loop.example/g00222/impl"
)

// packetPieces are bytes of many kinds: none, packets, what is wrapped, fragments, wrong sums, too many.
func packetPieces() [][]byte {
	p := plainPacket()
	packet, longest := wantPacket(p), wantGre(1, 2, upTo(31, 230))
	p.Load = upTo(32, 200)
	wrapped := wantGre(7, 8, packet)
	return [][]byte{
		{}, {7}, upTo(33, 20), upTo(34, 24), packet, wantPacket(p), packet[:24], joined(packet, []byte{1}),
		turned(packet, 6, 32), turned(packet, 9, 47), turned(packet, 8, 3), turned(packet, 0, 70), joined(packet[:19], packet[18:]),
		wrapped, longest, wrapped[:len(wrapped)-1], turned(wrapped, 22, 0), upTo(35, 201), upTo(36, 231), upTo(37, 700),
	}
}

// askPackets calls every function of the layer on data and gives all that they answer.
func askPackets(data []byte) []any {
	p := plainPacket()
	p.Load = data
	out := p
	out.ToP = -1
	return []any{
		impl.PacketFault(p), impl.PacketFault(out), impl.BuildPacket(p), impl.BuildPacket(out), impl.ParsePacket(data),
		impl.WrapGre(1, farthest, data), impl.WrapGre(-1, 1, data), impl.UnwrapGre(data),
		impl.SamePacket(p, out), impl.SamePacket(p, p), impl.AddressText(int64(len(data))), impl.AddressText(int64(-len(data))),
	}
}

func TestPacketsLeaveTheirArgumentsAsTheyWere(t *testing.T) {
	for _, data := range packetPieces() {
		given := guarded(data)
		askPackets(given)
		if !guardHolds(given, data) {
			t.Errorf("%v, or the room behind it, was changed: %v", data, given[:cap(given)])
		}
	}
}

func TestPacketsReadNothingBehindTheEnd(t *testing.T) {
	for _, data := range packetPieces() {
		if !reflect.DeepEqual(askPackets(guarded(data)), askPackets(bytes.Clone(data))) {
			t.Errorf("what lies behind %v is to be seen in an answer", data)
		}
	}
	whole := wantPacket(plainPacket())
	for cut := range whole {
		mustNotParseWithin(t, whole, cut)
	}
}

// mustNotParseWithin hands in the beginning of data with the rest of it still behind, in the same memory.
func mustNotParseWithin(t *testing.T, data []byte, cut int) {
	t.Helper()
	if got := impl.ParsePacket(data[:cut]); got.Code != impl.ErrText {
		t.Errorf("ParsePacket of the first %d of %v = %v, want ErrText", cut, data, got)
	}
	if got := impl.UnwrapGre(wantGre(1, 2, data)[:24+cut]); got.Code != impl.ErrText {
		t.Errorf("UnwrapGre of the first %d of %v = %v, want ErrText", 24+cut, data, got)
	}
}

func TestPacketsAnswerTheSameEachTime(t *testing.T) {
	mustAnswerTheSame(t, packetPieces(), askPackets)
}

func TestNoLoadAndNilAreTheSame(t *testing.T) {
	p := plainPacket()
	p.Load = nil
	q := p
	q.Load = []byte{}
	if !impl.SamePacket(p, q) || impl.PacketFault(p) != impl.PacketFault(q) {
		t.Error("a packet without a load is told from one with an empty one")
	}
	if !bytes.Equal(impl.BuildPacket(p).Bytes, impl.BuildPacket(q).Bytes) {
		t.Error("BuildPacket tells nil from no bytes")
	}
	if !bytes.Equal(impl.WrapGre(1, 2, nil).Bytes, impl.WrapGre(1, 2, []byte{}).Bytes) {
		t.Error("WrapGre tells nil from no bytes")
	}
	if impl.ParsePacket(nil).Code != impl.ParsePacket([]byte{}).Code || impl.UnwrapGre(nil).Code != impl.UnwrapGre([]byte{}).Code {
		t.Error("reading tells nil from no bytes")
	}
	mustParse(t, wantPacket(q), p)
	mustUnwrap(t, wantGre(1, 2, nil), 1, 2, []byte{})
}

// newMemory asks that what one call answers shares nothing with its argument nor with what another call answers.
func newMemory(t *testing.T, what string, data []byte, ask func(data []byte) []byte) {
	t.Helper()
	want := bytes.Clone(ask(bytes.Clone(data)))
	given := guarded(data)
	one, other := ask(given), ask(given)
	spoil(one)
	if !guardHolds(given, data) || !bytes.Equal(other, want) {
		t.Errorf("%s of %v shares memory with its argument or with another answer", what, data)
	}
	spoil(given)
	if !bytes.Equal(other, want) {
		t.Errorf("%s of %v shares memory with its argument", what, data)
	}
}

func TestPacketsAnswerNewMemory(t *testing.T) {
	for _, length := range []int{0, 1, 2, 77, 200} {
		data := upTo(int64(length), length)
		newMemory(t, "BuildPacket", data, func(data []byte) []byte {
			p := plainPacket()
			p.Load = data
			return impl.BuildPacket(p).Bytes
		})
		newMemory(t, "WrapGre", data, func(data []byte) []byte { return impl.WrapGre(7, 8, data).Bytes })
		newMemory(t, "UnwrapGre", wantGre(7, 8, data), func(data []byte) []byte { return impl.UnwrapGre(data).Inner })
		p := plainPacket()
		p.Load = data
		newMemory(t, "ParsePacket", wantPacket(p), func(data []byte) []byte { return impl.ParsePacket(data).Packet.Load })
	}
}
