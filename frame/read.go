package frame

import (
	"satchel/api"
	"satchel/guard"
)

// said is what bytes say: how they begin, of which version they are, which frame they tell, and how long its body is.
type said struct {
	magic, version, length int
	frame                  api.Frame
}

// Read tells the frame of bytes.
func Read(b []byte) (api.Frame, api.Errno) {
	switch {
	case len(b) > headSize+api.MaxBody+sumSize:
		return api.Frame{}, api.ErrLong
	case len(b) < headSize+sumSize:
		return api.Frame{}, api.ErrBytes
	}
	bare, err := guard.Check(b)
	if err != api.OK {
		return api.Frame{}, api.ErrSum
	}
	x := taken(bare)
	if err := x.check(); err != api.OK {
		return api.Frame{}, err
	}
	return x.frame, api.OK
}

// taken takes bytes apart, which are a head's at least; all behind that is the body, however long it should be.
func taken(bare []byte) said {
	rest := bare
	next := func(size int) int {
		n := 0
		for _, x := range rest[:size] {
			n = n<<8 | int(x)
		}
		rest = rest[size:]
		return n
	}
	var x said
	x.magic = next(magicSize)
	x.version = next(versionSize)
	x.frame.Type = next(typeSize)
	x.frame.Session = next(numberSize)
	x.frame.Boot = next(numberSize)
	x.frame.Seq = next(numberSize)
	x.frame.Ack = next(numberSize)
	x.length = next(lengthSize)
	x.frame.Body = rest
	return x
}

// check tells what is wrong with what bytes say. It asks what Check does, with the body's length in between; no body is too long here, since the bytes were not.
func (x said) check() api.Errno {
	switch {
	case x.magic != magic:
		return api.ErrMagic
	case x.version != version:
		return api.ErrVersion
	case !isType(x.frame.Type):
		return api.ErrType
	case !inRange(x.frame):
		return api.ErrRange
	case x.length != len(x.frame.Body):
		return api.ErrSize
	case !shapes[x.frame.Type].fits(x.frame):
		return api.ErrArg
	}
	return api.OK
}
