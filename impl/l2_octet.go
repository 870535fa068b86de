package impl

import (
	"errors"
	"strconv"
)

// Limits of octets.
const (
	OctMaxList = 8
	OctMaxBody = 64
)

// Codes of OctWrite and OctRead.
const (
	octTooMany = 1
	octTooBig  = 2
	octCut     = 3
	octNoZero  = 4
)

const (
	octMaxKind = 65535
	// octHead is how many bytes stand ahead of a body; the length that is told counts them too.
	octHead = 4
)

// OctTlv is a kind and a body.
type OctTlv struct {
	Kind int
	Body []byte
}

// octFault is why octets cannot be read.
type octFault struct {
	code int
}

// Error makes a fault an error; the code alone is told by the exported functions.
func (f octFault) Error() string {
	return "octets: code " + strconv.Itoa(f.code)
}

// octCursor reads octets from a place on; its place is never below 0.
type octCursor struct {
	octets []byte
	at     int
}

// OctPut writes a number in so many bytes.
func OctPut(n int, size int) []byte {
	top, known := octTops()[size]
	if !known || n < 0 || n > top {
		return nil
	}
	return octAppend(nil, n, size)
}

// OctGet reads a number of so many bytes at a place.
func OctGet(b []byte, at int, size int) (int, bool) {
	if at < 0 {
		return 0, false
	}
	c := octCursor{octets: b, at: at}
	n, err := c.number(size)
	return n, err == nil
}

// OctWrite writes kinds and bodies.
func OctWrite(list []OctTlv) ([]byte, int) {
	if len(list) > OctMaxList {
		return nil, octTooMany
	}
	var out []byte
	for _, tlv := range list {
		if tlv.Kind < 0 || tlv.Kind > octMaxKind || len(tlv.Body) > OctMaxBody {
			return nil, octTooBig
		}
		out = octAppend(out, tlv.Kind, 2)
		out = octAppend(out, octHead+len(tlv.Body), 2)
		out = append(out, tlv.Body...)
		out = append(out, make([]byte, octFill(len(tlv.Body)))...)
	}
	return out, 0
}

// OctRead reads kinds and bodies.
func OctRead(b []byte) ([]OctTlv, int) {
	list, err := octList(b)
	var fault octFault
	if errors.As(err, &fault) {
		return nil, fault.code
	}
	return list, 0
}

// octTops has the greatest number of each size; other sizes are none.
func octTops() map[int]int {
	return map[int]int{1: 255, 2: 65535, 4: 4294967295}
}

// octFill is how many zeros stand behind so many bytes, up to a multiple of 4.
func octFill(count int) int {
	return (4 - count%4) % 4
}

// octAppend writes a number, the greatest byte first, behind what is there.
func octAppend(out []byte, n int, size int) []byte {
	for shift := 8 * (size - 1); shift >= 0; shift -= 8 {
		out = append(out, byte(n>>shift))
	}
	return out
}

func octList(b []byte) ([]OctTlv, error) {
	c := octCursor{octets: b}
	var list []OctTlv
	for c.at < len(b) {
		if len(list) == OctMaxList {
			return nil, octFault{octTooMany}
		}
		tlv, err := c.tlv()
		if err != nil {
			return nil, err
		}
		list = append(list, tlv)
	}
	return list, nil
}

// take tells the next bytes; they are still those of the argument, and to be copied ahead of an answer.
func (c *octCursor) take(count int) ([]byte, error) {
	// The place may be far past the end: a sum of it and count might wrap, this difference does not.
	if len(c.octets)-c.at < count {
		return nil, octFault{octCut}
	}
	part := c.octets[c.at : c.at+count]
	c.at += count
	return part, nil
}

func (c *octCursor) one() (int, error) {
	part, err := c.take(1)
	if err != nil {
		return 0, err
	}
	return int(part[0]), nil
}

func (c *octCursor) two() (int, error) {
	part, err := c.take(2)
	if err != nil {
		return 0, err
	}
	return int(part[0])<<8 | int(part[1]), nil
}

func (c *octCursor) four() (int, error) {
	part, err := c.take(4)
	if err != nil {
		return 0, err
	}
	return int(part[0])<<24 | int(part[1])<<16 | int(part[2])<<8 | int(part[3]), nil
}

// number reads a number of a size that may be none.
func (c *octCursor) number(size int) (int, error) {
	switch size {
	case 1:
		return c.one()
	case 2:
		return c.two()
	case 4:
		return c.four()
	}
	return 0, octFault{octCut}
}

func (c *octCursor) tlv() (OctTlv, error) {
	kind, err := c.two()
	if err != nil {
		return OctTlv{}, err
	}
	told, err := c.two()
	if err != nil {
		return OctTlv{}, err
	}
	body, err := c.body(told - octHead)
	if err != nil {
		return OctTlv{}, err
	}
	return OctTlv{Kind: kind, Body: body}, nil
}

// body reads a body of a length that was told, and what fills it up; a length that is too small is found here, below 0.
func (c *octCursor) body(length int) ([]byte, error) {
	if length > OctMaxBody {
		return nil, octFault{octTooBig}
	}
	part, err := c.filled(length)
	if err != nil {
		return nil, err
	}
	return append([]byte(nil), part...), nil
}

// filled takes so many bytes, and what fills them up behind them; they are still those of the argument.
func (c *octCursor) filled(length int) ([]byte, error) {
	if length < 0 {
		return nil, octFault{octCut}
	}
	part, err := c.take(length + octFill(length))
	if err != nil {
		return nil, err
	}
	for _, octet := range part[length:] {
		if octet != 0 {
			return nil, octFault{octNoZero}
		}
	}
	return part[:length], nil
}
