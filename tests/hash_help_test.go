package tests

import (
	"math/big"
	"math/rand"
	"testing"

	"loop.example/g00222/impl"
)

// allNames are all that are names, and notNames some that are not.
func allNames() []int64 {
	var list []int64
	for name := int64(1); name <= 999; name++ {
		list = append(list, name)
	}
	return list
}

func notNames() []int64 {
	return append([]int64{0, 1000, 1001, 65537}, farNumbers...)
}

// someNumber gives any number, often one that is near a bound of the mixing.
func someNumber(random *rand.Rand) int64 {
	near := []int64{0, 256, 65536, 1 << 24, 1 << 32, 1 << 33, 10007, 20014, 1000003, -256, -10007, -20014, -1 << 32, -1 << 33}
	switch random.Intn(3) {
	case 0:
		return near[random.Intn(len(near))] + int64(random.Intn(5)-2)
	case 1:
		return farNumbers[random.Intn(len(farNumbers))]
	}
	return int64(random.Uint64())
}

// wantMix works the number out as one sum of great numbers, of which 1000003 is taken away once, at the end.
// The byte that is mixed first is the last one written, and is multiplied most often.
func wantMix(n, salt int64) int64 {
	left := func(n *big.Int, m int64) *big.Int { return new(big.Int).Mod(n, big.NewInt(m)) }
	power := func(k int64) *big.Int { return new(big.Int).Exp(big.NewInt(131), big.NewInt(k), nil) }
	start := left(big.NewInt(salt), 10007)
	total := new(big.Int).Mul(start.Add(start, big.NewInt(11)), power(4))
	for i, b := range wantNumber(uint64(n), 4) {
		total.Add(total, new(big.Int).Mul(big.NewInt(int64(b)+1), power(int64(i))))
	}
	return left(total, 1000003).Int64()
}

// wantHash mixes the numbers of a flow one after the other.
func wantHash(f impl.Flow) int64 {
	first := wantMix(f.From, 7)
	second := wantMix(f.To, first)
	third := wantMix(f.Proto, second)
	return wantMix(f.ToP, wantMix(f.FromP, third))
}

func wantOffset(name int64) int64 {
	return wantMix(name, 3) % 31
}

func wantSkip(name int64) int64 {
	return 1 + wantMix(name, 5)%30
}

// wantOrder goes on from place to place.
func wantOrder(name int64) []int64 {
	var list []int64
	place, skip := wantOffset(name), wantSkip(name)
	for range 31 {
		list = append(list, place)
		place += skip
		if place >= 31 {
			place -= 31
		}
	}
	return list
}

func flowOfFields(p impl.Packet) impl.Flow {
	return impl.Flow{From: p.From, To: p.To, Proto: p.Proto, FromP: p.FromP, ToP: p.ToP}
}

func plainFlow() impl.Flow {
	return flowOfFields(plainPacket())
}

func TestHashHelpersAgreeWithTheExample(t *testing.T) {
	if wantMix(0, 0) != 754792 {
		t.Error("wantMix is off")
	}
	// By hand: h is 7 and 11 at first, then 18 times 131 and 1 and 1, and so on.
	byHand := (((18*131+2)*131+1)*131+1)*131 + 1
	if wantMix(1, 7) != int64(byHand%1000003) || wantMix(1<<32+1, 10014) != wantMix(1, 7) || wantMix(1-1<<32, -10000) != wantMix(1, 7) {
		t.Error("wantMix is off")
	}
}
