package tests

import (
	"encoding/binary"
	"math/rand"
	"net/netip"
	"testing"

	"loop.example/g00222/impl"
)

func mustWrap(t *testing.T, from, to int64, inner []byte) {
	t.Helper()
	want := wantGre(from, to, inner)
	if got := impl.WrapGre(from, to, inner); got.Code != impl.OK || string(got.Bytes) != string(want) {
		t.Errorf("WrapGre(%d, %d, %v) = %v, want the bytes %v", from, to, inner, got, want)
	}
	mustUnwrap(t, want, from, to, inner)
}

func mustNotWrap(t *testing.T, from, to int64, inner []byte, code int64) {
	t.Helper()
	if got := impl.WrapGre(from, to, inner); got.Code != code || len(got.Bytes) != 0 {
		t.Errorf("WrapGre(%d, %d, of %d bytes) = %v, want the code %d and nothing else", from, to, len(inner), got, code)
	}
}

func TestWrapGreByHand(t *testing.T) {
	want := []byte{69, 0, 0, 26, 0, 0, 0, 0, 64, 47, 0x7A, 0xA7, 0, 0, 0, 7, 0, 0, 0, 8, 0, 0, 8, 0, 1, 2}
	if got := impl.WrapGre(7, 8, []byte{1, 2}); got.Code != impl.OK || string(got.Bytes) != string(want) {
		t.Errorf("WrapGre(7, 8, 1 2) = %v, want the bytes %v", got, want)
	}
	mustUnwrap(t, want, 7, 8, []byte{1, 2})
}

func TestWrapGreOfAnyLength(t *testing.T) {
	for length := range 231 {
		mustWrap(t, 1, 2, upTo(int64(length), length))
	}
	for _, length := range []int{231, 232, 255, 256, 600, 65535, 65536, 70000} {
		mustNotWrap(t, 1, 2, make([]byte, length), impl.ErrMany)
	}
}

func TestWrapGreOfAnyAddress(t *testing.T) {
	for _, good := range []int64{0, 1, 255, 256, 65535, 65536, 1 << 31, farthest - 1, farthest} {
		mustWrap(t, good, 5, []byte{9})
		mustWrap(t, 5, good, []byte{9})
		mustWrap(t, good, good, nil)
	}
	for _, bad := range append([]int64{farthest + 1, farthest + 2}, farNumbers...) {
		mustNotWrap(t, bad, 5, nil, impl.ErrRange)
		mustNotWrap(t, 5, bad, nil, impl.ErrRange)
		mustNotWrap(t, bad, 5, make([]byte, 231), impl.ErrRange)
		mustNotWrap(t, 5, bad, make([]byte, 231), impl.ErrRange)
	}
}

func TestWhatIsWrappedIsUnwrapped(t *testing.T) {
	random := rand.New(rand.NewSource(23))
	for range 3000 {
		inner := upTo(random.Int63(), int(someUpTo(random, 230)))
		mustWrap(t, someUpTo(random, farthest), someUpTo(random, farthest), inner)
	}
	packet := impl.BuildPacket(plainPacket()).Bytes
	twice := impl.WrapGre(3, 4, impl.WrapGre(1, 2, packet).Bytes).Bytes
	once := impl.UnwrapGre(twice)
	mustUnwrap(t, once.Inner, 1, 2, packet)
}

func TestUnwrapGreOfAnyTurnedByte(t *testing.T) {
	good := wantGre(7, 8, []byte{1, 2, 3})
	for at := range 24 {
		for value := range 256 {
			data := joined(good)
			data[at] = byte(value)
			if byte(value) == good[at] {
				continue
			}
			mustNotUnwrap(t, data)
			if at == 10 || at == 11 {
				continue
			}
			// With the sum put right another address is another thing that was wrapped; all else is nothing.
			if at >= 12 && at < 20 {
				from, to := binary.BigEndian.Uint32(data[12:]), binary.BigEndian.Uint32(data[16:])
				mustUnwrap(t, summed(data), int64(from), int64(to), []byte{1, 2, 3})
			} else {
				mustNotUnwrap(t, summed(data))
			}
		}
	}
	for sum := range 65536 {
		data := joined(good)
		binary.BigEndian.PutUint16(data[10:], uint16(sum))
		if string(data) != string(good) {
			mustNotUnwrap(t, data)
		}
	}
}

func TestUnwrapGreTakesOneSumAlone(t *testing.T) {
	for from := int64(0); ; from++ {
		data := wantGre(from, 8, []byte{1})
		if data[10] != 0 || data[11] != 0 {
			continue
		}
		mustUnwrap(t, data, from, 8, []byte{1})
		data[10], data[11] = 255, 255
		mustNotUnwrap(t, data)
		return
	}
}

func TestUnwrapGreOfAnyLength(t *testing.T) {
	good := wantGre(7, 8, []byte{1, 2, 3})
	for cut := range good {
		mustNotUnwrap(t, good[:cut])
	}
	mustNotUnwrap(t, nil)
	mustNotUnwrap(t, joined(good, []byte{0}))
	mustNotUnwrap(t, joined(good, good))
	for length := range 24 {
		data := joined(wantHead(47, 7, 8, length-20), []byte{0, 0, 8, 0})
		mustNotUnwrap(t, data[:length])
	}
	for _, length := range []int{231, 232, 236, 256, 576, 65511, 65512 + 24, 65536} {
		mustNotUnwrap(t, wantGre(7, 8, make([]byte, length)))
	}
}

func TestPacketsAreNotTakenForEachOther(t *testing.T) {
	random := rand.New(rand.NewSource(24))
	for range 300 {
		p := somePacket(random)
		mustNotUnwrap(t, wantPacket(p))
		wrapped := wantGre(p.From, p.To, p.Load)
		mustNotParse(t, wrapped, impl.ErrForm)
		mustNotUnwrap(t, turned(wrapped, 9, 6))
	}
	mustNotParse(t, wantGre(1, 2, make([]byte, 201)), impl.ErrText)
}

func TestAddressText(t *testing.T) {
	cases := map[int64]string{
		0: "0.0.0.0", 1: "0.0.0.1", 256: "0.0.1.0", 65536: "0.1.0.0", 1 << 24: "1.0.0.0", 167772160: "10.0.0.0",
		0x7F000001: "127.0.0.1", 0xC0A800C7: "192.168.0.199", farthest - 1: "255.255.255.254", farthest: "255.255.255.255",
	}
	for a, want := range cases {
		if got := impl.AddressText(a); got.Code != impl.OK || got.Text != want {
			t.Errorf("AddressText(%d) = %v, want %s", a, got, want)
		}
	}
	random := rand.New(rand.NewSource(25))
	for range 2000 {
		a := someUpTo(random, farthest)
		want := netip.AddrFrom4([4]byte(wantNumber(uint64(a), 4))).String()
		if got := impl.AddressText(a); got.Code != impl.OK || got.Text != want {
			t.Errorf("AddressText(%d) = %v, want %s", a, got, want)
		}
	}
	for _, bad := range append([]int64{farthest + 1, farthest + 2}, farNumbers...) {
		if got := impl.AddressText(bad); got.Code != impl.ErrRange || got.Text != "" {
			t.Errorf("AddressText(%d) = %v, want ErrRange and nothing else", bad, got)
		}
	}
}
