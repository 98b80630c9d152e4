package tests

import (
	"encoding/binary"
	"math/rand"
	"testing"

	"loop.example/g00222/impl"
)

// longData gives bytes of a length that their head tells rightly.
func longData(length int) []byte {
	data := make([]byte, length)
	copy(data, wantHead(6, 1, 2, length-20))
	return data
}

func TestParsePacketOfAnyLength(t *testing.T) {
	for length := range 20 {
		mustNotParse(t, wantPacket(plainPacket())[:length], impl.ErrText)
	}
	for length := 20; length < 300; length++ {
		data := longData(length)
		if length >= 24 && length <= 224 {
			mustParse(t, data, impl.Packet{From: 1, To: 2, Proto: 6, Load: make([]byte, length-24)})
		} else {
			mustNotParse(t, data, impl.ErrText)
		}
	}
	mustNotParse(t, nil, impl.ErrText)
	mustNotParse(t, longData(65535), impl.ErrText)
	// Two bytes tell 24 here too, of 65560 bytes.
	mustNotParse(t, longData(65536+24), impl.ErrText)
}

func TestParsePacketOfALengthThatIsNotToldInTheHead(t *testing.T) {
	good := wantPacket(plainPacket())
	for told := range 65536 {
		data := joined(good)
		binary.BigEndian.PutUint16(data[2:], uint16(told))
		if told != len(good) {
			mustNotParse(t, summed(data), impl.ErrText)
		}
	}
	for cut := range good {
		mustNotParse(t, good[:cut], impl.ErrText)
	}
	mustNotParse(t, joined(good, []byte{0}), impl.ErrText)
	mustNotParse(t, joined(good, good), impl.ErrText)
	mustParse(t, good, plainPacket())
}

func TestParsePacketOfAnotherFirstByte(t *testing.T) {
	good := wantPacket(plainPacket())
	for first := range 256 {
		if first != 69 {
			mustNotParse(t, turned(good, 0, byte(first)), impl.ErrText)
			mustNotParse(t, joined([]byte{byte(first)}, good[1:]), impl.ErrText)
		}
	}
}

func TestParsePacketOfAWrongSum(t *testing.T) {
	good := wantPacket(plainPacket())
	for sum := range 65536 {
		data := joined(good)
		binary.BigEndian.PutUint16(data[10:], uint16(sum))
		if string(data) != string(good) {
			mustNotParse(t, data, impl.ErrSum)
		}
	}
	for at := range 20 {
		data := joined(good)
		data[at] ^= 16
		if at != 0 && at != 2 && at != 3 {
			mustNotParse(t, data, impl.ErrSum)
		}
	}
}

// emptySum is a packet whose head has the sum 0: the words of it come to 65535 alone.
func emptySum() impl.Packet {
	p := impl.Packet{Proto: impl.ProtoTcp, To: 5, FromP: 9, ToP: 8, Load: []byte{1, 2, 3}}
	for p.From = 0; ; p.From++ {
		if data := wantPacket(p); data[10] == 0 && data[11] == 0 {
			return p
		}
	}
}

func TestParsePacketTakesBothSumsThatAreWhole(t *testing.T) {
	p := emptySum()
	data := wantPacket(p)
	mustParse(t, data, p)
	data[10], data[11] = 255, 255
	mustParse(t, data, p)
	data[10], data[11] = 0, 1
	mustNotParse(t, data, impl.ErrSum)
}

func TestParsePacketOfAFragment(t *testing.T) {
	good := wantPacket(plainPacket())
	for value := 1; value < 256; value++ {
		mustNotParse(t, turned(good, 6, byte(value)), impl.ErrForm)
		mustNotParse(t, turned(good, 7, byte(value)), impl.ErrForm)
		mustNotParse(t, turned(turned(good, 6, byte(value)), 7, byte(256-value)), impl.ErrForm)
	}
	mustParse(t, turned(turned(good, 6, 0), 7, 0), plainPacket())
}

func TestParsePacketOfAnyProtocol(t *testing.T) {
	good := wantPacket(plainPacket())
	for proto := range 256 {
		data := turned(good, 9, byte(proto))
		if proto == 6 || proto == 17 {
			want := plainPacket()
			want.Proto = int64(proto)
			mustParse(t, data, want)
		} else {
			mustNotParse(t, data, impl.ErrForm)
		}
	}
}

func TestOtherBytesOfTheHeadMayBeAny(t *testing.T) {
	good := wantPacket(plainPacket())
	for value := range 256 {
		all := good
		for _, at := range []int{1, 4, 5, 8} {
			mustParse(t, turned(good, at, byte(value)), plainPacket())
			all = turned(all, at, byte(value+at))
		}
		mustParse(t, all, plainPacket())
	}
}

func TestSumIsOfTheHeadAlone(t *testing.T) {
	good := wantPacket(plainPacket())
	for at := 20; at < len(good); at++ {
		for value := range 256 {
			data := joined(good)
			data[at] = byte(value)
			_, want := wantParsed(data)
			mustParse(t, data, want)
		}
	}
}

func TestParsePacketAsksItsCodesInOrder(t *testing.T) {
	good := wantPacket(plainPacket())
	with := func(bytes map[int]byte) []byte {
		data := joined(good)
		for at, value := range bytes {
			data[at] = value
		}
		return data
	}
	mustNotParse(t, with(map[int]byte{0: 70, 6: 1}), impl.ErrText)
	mustNotParse(t, with(map[int]byte{3: 99, 9: 1}), impl.ErrText)
	mustNotParse(t, with(map[int]byte{2: 1, 7: 1, 9: 1}), impl.ErrText)
	mustNotParse(t, with(map[int]byte{6: 1})[:25], impl.ErrText)
	mustNotParse(t, with(map[int]byte{6: 32}), impl.ErrSum)
	mustNotParse(t, with(map[int]byte{7: 1}), impl.ErrSum)
	mustNotParse(t, with(map[int]byte{9: 47}), impl.ErrSum)
	mustNotParse(t, summed(with(map[int]byte{0: 70, 6: 1})), impl.ErrText)
	mustNotParse(t, summed(with(map[int]byte{3: 99, 9: 1})), impl.ErrText)
	mustNotParse(t, summed(with(map[int]byte{7: 1, 9: 1})), impl.ErrForm)
}

func TestParsePacketOfTurnedBytes(t *testing.T) {
	random := rand.New(rand.NewSource(22))
	for range 20000 {
		data := wantPacket(somePacket(random))
		for range random.Intn(3) {
			data[random.Intn(min(len(data), 26))] = byte(random.Intn(256))
		}
		if random.Intn(3) > 0 {
			data = summed(data)
		}
		if random.Intn(8) == 0 {
			data = data[:random.Intn(len(data)+1)]
		}
		if code, want := wantParsed(data); code == impl.OK {
			mustParse(t, data, want)
		} else {
			mustNotParse(t, data, code)
		}
	}
}
