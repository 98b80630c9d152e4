package tests

import (
	"encoding/binary"
	"math/rand"
	"testing"

	"loop.example/g00222/impl"
)

const farthest = 4294967295

// somePacket gives a packet without a fault, its numbers often at their bounds.
func somePacket(random *rand.Rand) impl.Packet {
	return impl.Packet{
		From: someUpTo(random, farthest), To: someUpTo(random, farthest), Proto: []int64{6, 17}[random.Intn(2)],
		FromP: someUpTo(random, 65535), ToP: someUpTo(random, 65535), Load: upTo(random.Int63(), int(someUpTo(random, 200))),
	}
}

// someUpTo gives a number from 0 to most, as often as not near one of both.
func someUpTo(random *rand.Rand, most int64) int64 {
	switch random.Intn(4) {
	case 0:
		return int64(random.Intn(3))
	case 1:
		return most - int64(random.Intn(3))
	}
	return random.Int63n(most + 1)
}

// wantHead writes a head in the order of the document.
func wantHead(proto byte, from, to int64, behind int) []byte {
	head := []byte{69, 0}
	head = binary.BigEndian.AppendUint16(head, uint16(20+behind))
	head = append(head, 0, 0, 0, 0, 64, proto, 0, 0)
	head = binary.BigEndian.AppendUint32(head, uint32(from))
	head = binary.BigEndian.AppendUint32(head, uint32(to))
	return summed(head)
}

// summed gives data with the sum of its first 20 bytes put right; data stays as it is.
func summed(data []byte) []byte {
	out := joined(data)
	out[10], out[11] = 0, 0
	binary.BigEndian.PutUint16(out[10:], uint16(wantSum(out[:20])))
	return out
}

// turned gives data with one byte put to a value, and the sum put right.
func turned(data []byte, at int, value byte) []byte {
	out := joined(data)
	out[at] = value
	return summed(out)
}

func wantPacket(p impl.Packet) []byte {
	head := wantHead(byte(p.Proto), p.From, p.To, 4+len(p.Load))
	ports := binary.BigEndian.AppendUint16(binary.BigEndian.AppendUint16(nil, uint16(p.FromP)), uint16(p.ToP))
	return joined(head, ports, p.Load)
}

func wantGre(from, to int64, inner []byte) []byte {
	return joined(wantHead(47, from, to, 4+len(inner)), []byte{0, 0, 8, 0}, inner)
}

// wantParsed reads a packet code by code.
func wantParsed(data []byte) (int64, impl.Packet) {
	if len(data) < 24 || len(data) > 224 || data[0] != 69 || int(data[2])*256+int(data[3]) != len(data) {
		return 5, impl.Packet{}
	}
	if wantSum(data[:20]) != 0 {
		return 6, impl.Packet{}
	}
	if data[6] != 0 || data[7] != 0 || data[9] != 6 && data[9] != 17 {
		return 1, impl.Packet{}
	}
	return 0, impl.Packet{
		From: int64(binary.BigEndian.Uint32(data[12:])), To: int64(binary.BigEndian.Uint32(data[16:])), Proto: int64(data[9]),
		FromP: int64(binary.BigEndian.Uint16(data[20:])), ToP: int64(binary.BigEndian.Uint16(data[22:])), Load: data[24:],
	}
}

// alike holds two packets against each other without the program.
func alike(a, b impl.Packet) bool {
	loads := string(a.Load) == string(b.Load)
	return loads && a.From == b.From && a.To == b.To && a.Proto == b.Proto && a.FromP == b.FromP && a.ToP == b.ToP
}

// mustParse asks for a packet, and mustNotParse for a code and nothing else.
func mustParse(t *testing.T, data []byte, want impl.Packet) {
	t.Helper()
	got := impl.ParsePacket(guarded(data))
	if got.Code != impl.OK || !alike(got.Packet, want) {
		t.Errorf("ParsePacket(%v) = %v, want the packet %v", data, got, want)
	}
}

func mustNotParse(t *testing.T, data []byte, code int64) {
	t.Helper()
	got := impl.ParsePacket(guarded(data))
	if got.Code != code || !alike(got.Packet, impl.Packet{}) {
		t.Errorf("ParsePacket(%v) = %v, want the code %d and nothing else", data, got, code)
	}
}

func mustUnwrap(t *testing.T, data []byte, from, to int64, inner []byte) {
	t.Helper()
	got := impl.UnwrapGre(guarded(data))
	if got.Code != impl.OK || got.From != from || got.To != to || string(got.Inner) != string(inner) {
		t.Errorf("UnwrapGre(%v) = %v, want %d, %d and %v", data, got, from, to, inner)
	}
}

func mustNotUnwrap(t *testing.T, data []byte) {
	t.Helper()
	got := impl.UnwrapGre(guarded(data))
	if got.Code != impl.ErrText || got.From != 0 || got.To != 0 || len(got.Inner) != 0 {
		t.Errorf("UnwrapGre(%v) = %v, want ErrText and nothing else", data, got)
	}
}

func TestPacketHelpersAgreeWithAKnownHead(t *testing.T) {
	// A head that is told in many books with the sum 0xB861; there its bytes 6 and 7 are 64 and 0.
	known := []byte{69, 0, 0, 115, 0, 0, 64, 0, 64, 17, 0xB8, 0x61, 192, 168, 0, 1, 192, 168, 0, 199}
	if string(summed(known)) != string(known) {
		t.Error("summed is off")
	}
	if string(wantHead(17, 0xC0A80001, 0xC0A800C7, 95)) != string(turned(known, 6, 0)) {
		t.Error("wantHead is off")
	}
}
