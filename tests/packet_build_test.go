package tests

import (
	"bytes"
	"math/rand"
	"testing"

	"loop.example/g00222/impl"
)

// plainPacket is a packet of which the tests turn one thing at a time.
func plainPacket() impl.Packet {
	return impl.Packet{From: 5, To: 167772160, Proto: impl.ProtoTcp, FromP: 1000, ToP: 80, Load: []byte("hi")}
}

// packetFields gives the fields of a packet that have bounds, with these.
func packetFields(p *impl.Packet) map[string]struct {
	at   *int64
	most int64
} {
	return map[string]struct {
		at   *int64
		most int64
	}{"From": {&p.From, farthest}, "To": {&p.To, farthest}, "FromP": {&p.FromP, 65535}, "ToP": {&p.ToP, 65535}}
}

func mustFault(t *testing.T, p impl.Packet, code int64) {
	t.Helper()
	if got := impl.PacketFault(p); got != code {
		t.Errorf("PacketFault(%v) = %d, want %d", p, got, code)
	}
	got := impl.BuildPacket(p)
	if got.Code != code || code != impl.OK && len(got.Bytes) != 0 {
		t.Errorf("BuildPacket(%v) = %v, want the code %d", p, got, code)
	}
	if code == impl.OK && !bytes.Equal(got.Bytes, wantPacket(p)) {
		t.Errorf("BuildPacket(%v) = %v, want %v", p, got.Bytes, wantPacket(p))
	}
}

func TestPacketFaultOfEachNumber(t *testing.T) {
	for name := range packetFields(&impl.Packet{}) {
		p := plainPacket()
		field := packetFields(&p)[name]
		for _, good := range []int64{0, 1, 255, 256, field.most - 1, field.most} {
			*field.at = good
			mustFault(t, p, impl.OK)
		}
		for _, bad := range append([]int64{field.most + 1, field.most + 2}, farNumbers...) {
			*field.at = bad
			mustFault(t, p, impl.ErrRange)
		}
	}
}

func TestPacketFaultOfTheProtocol(t *testing.T) {
	p := plainPacket()
	for proto := int64(-3); proto < 600; proto++ {
		p.Proto = proto
		if proto == 6 || proto == 17 {
			mustFault(t, p, impl.OK)
		} else {
			mustFault(t, p, impl.ErrRange)
		}
	}
	for _, far := range append([]int64{1<<32 + 6, 1<<32 + 17, 1<<62 + 6}, farNumbers...) {
		p.Proto = far
		mustFault(t, p, impl.ErrRange)
	}
}

func TestPacketFaultOfTheLoad(t *testing.T) {
	p := plainPacket()
	for length := range 201 {
		p.Load = upTo(int64(length), length)
		mustFault(t, p, impl.OK)
	}
	for _, length := range []int{201, 202, 256, 600, 65535, 65536, 70000} {
		p.Load = make([]byte, length)
		mustFault(t, p, impl.ErrMany)
	}
}

func TestPacketNumbersAreAskedAheadOfTheLoad(t *testing.T) {
	for name := range packetFields(&impl.Packet{}) {
		p := plainPacket()
		p.Load = make([]byte, 201)
		field := packetFields(&p)[name]
		for _, bad := range []int64{-1, field.most + 1} {
			*field.at = bad
			mustFault(t, p, impl.ErrRange)
		}
	}
	p := plainPacket()
	p.Load, p.Proto = make([]byte, 201), impl.ProtoGre
	mustFault(t, p, impl.ErrRange)
	mustFault(t, impl.Packet{}, impl.ErrRange)
}

func TestBuildPacketByHand(t *testing.T) {
	cases := []struct {
		packet impl.Packet
		want   []byte
	}{
		{
			impl.Packet{From: 0xC0A80001, To: 0xC0A800C7, Proto: impl.ProtoUdp, FromP: 258, ToP: 772},
			[]byte{69, 0, 0, 24, 0, 0, 0, 0, 64, 17, 0xF8, 0xBC, 192, 168, 0, 1, 192, 168, 0, 199, 1, 2, 3, 4},
		},
		{
			impl.Packet{Proto: impl.ProtoTcp, Load: []byte{7, 8, 9}},
			[]byte{69, 0, 0, 27, 0, 0, 0, 0, 64, 6, 0x7A, 0xDE, 0, 0, 0, 0, 0, 0, 0, 0, 0, 0, 0, 0, 7, 8, 9},
		},
		{
			impl.Packet{From: farthest, To: farthest, Proto: impl.ProtoTcp, FromP: 65535, ToP: 65535, Load: []byte{255}},
			[]byte{69, 0, 0, 25, 0, 0, 0, 0, 64, 6, 0x7A, 0xE0, 255, 255, 255, 255, 255, 255, 255, 255, 255, 255, 255, 255, 255},
		},
	}
	for _, c := range cases {
		if got := impl.BuildPacket(c.packet); got.Code != impl.OK || !bytes.Equal(got.Bytes, c.want) {
			t.Errorf("BuildPacket(%v) = %v, want the bytes %v", c.packet, got, c.want)
		}
	}
}

func TestBuiltPacketsAreReadBack(t *testing.T) {
	random := rand.New(rand.NewSource(21))
	for range 3000 {
		p := somePacket(random)
		mustFault(t, p, impl.OK)
		data := impl.BuildPacket(p).Bytes
		mustParse(t, data, p)
		if !impl.WholeSum(data[:20]) {
			t.Errorf("the head of %v is not whole", data)
		}
		if !impl.SamePacket(impl.ParsePacket(data).Packet, p) {
			t.Errorf("%v is not read back as the same", p)
		}
	}
}

func TestSamePacketAsksForEveryField(t *testing.T) {
	same := func(a, b impl.Packet, want bool) {
		t.Helper()
		if impl.SamePacket(a, b) != want || impl.SamePacket(b, a) != want {
			t.Errorf("SamePacket(%v, %v) is not %v", a, b, want)
		}
	}
	same(plainPacket(), plainPacket(), true)
	same(impl.Packet{}, impl.Packet{Load: []byte{}}, true)
	same(impl.Packet{From: -1, Proto: 300, Load: make([]byte, 900)}, impl.Packet{From: -1, Proto: 300, Load: make([]byte, 900)}, true)
	for name := range packetFields(&impl.Packet{}) {
		p := plainPacket()
		*packetFields(&p)[name].at++
		same(p, plainPacket(), false)
	}
	p := plainPacket()
	p.Proto = impl.ProtoUdp
	same(p, plainPacket(), false)
	for _, load := range [][]byte{nil, {'h'}, {'h', 'j'}, {'i', 'i'}, {'h', 'i', 0}} {
		p := plainPacket()
		p.Load = load
		same(p, plainPacket(), false)
	}
	p, q := plainPacket(), plainPacket()
	p.From, p.To = q.To, q.From
	same(p, q, false)
	p = plainPacket()
	p.FromP, p.ToP = q.ToP, q.FromP
	same(p, q, false)
}
