package mode

import (
	"sealchain/aes"
	"sealchain/api"
	"sealchain/gcm"
	"sealchain/mac"
	"sealchain/tape"
)

// keyed is the real mode: all it has is a key.
type keyed struct {
	root [rootSize]byte
}

func newKeyed(root []byte) *keyed {
	return &keyed{root: [rootSize]byte(root)}
}

func (k *keyed) real() bool { return true }

func (k *keyed) count() int { return 0 }

func (k *keyed) name(key []byte) api.Name {
	names := mac.Mac(k.root[:], []byte("name"))
	return api.Name(mac.Mac(names[:], key))
}

// cipher is that of an epoch.
func (k *keyed) cipher(epoch int) (*aes.Cipher, api.Errno) {
	key, e := mac.Derive(k.root[:], "epoch", epoch)
	if e != api.OK {
		return nil, e
	}
	return aes.New(key[:])
}

func (k *keyed) seal(t *tape.Tape, epoch int, head, plain []byte) ([]byte, api.Errno) {
	c, e := k.cipher(epoch)
	if e != api.OK {
		return nil, e
	}
	nonce := t.Draw(nonceSize)
	text, e := gcm.Seal(c, [nonceSize]byte(nonce), plain, head)
	if e != api.OK {
		return nil, e
	}
	return append(nonce, text...), api.OK
}

func (k *keyed) open(epoch int, head, box []byte) ([]byte, api.Errno) {
	c, e := k.cipher(epoch)
	if e != api.OK {
		return nil, e
	}
	return gcm.Open(c, [nonceSize]byte(box[:nonceSize]), box[nonceSize:], head)
}
