package table

import (
	"sealchain/api"
	"sealchain/num"
	"sealchain/seal"
)

const mostEnv = 285 // bytes of the longest envelope

// Bytes are all of it.
func (t *Table) Bytes() []byte {
	if t.none() {
		return nil
	}
	w := num.Write().Num(1, t.epoch).Count(t.objects.count())
	for i, name := range t.objects.keys {
		o := t.objects.values[i]
		w.Raw(name[:]).Count(o.version).Text(o.env)
	}
	w.Count(t.answers.count())
	for _, a := range t.answers.values {
		w.Num(1, a.Client).Count(a.Num).Num(1, a.Code).Count(a.Version).Num(1, a.Epoch).
			Raw(a.Name[:]).Text(a.Env)
	}
	b, _ := w.Bytes()
	return b
}

func readName(r *num.Reader) api.Name {
	var name api.Name
	copy(name[:], r.Raw(len(name)))
	return name
}

// Open is one of bytes.
func Open(b []byte) (*Table, api.Errno) {
	r := num.Read(b)
	t := New()
	t.epoch = r.Num(1)
	formed := readObjects(r, t)
	formed = readAnswers(r, t) && formed
	if e := r.End(); e != api.OK {
		return nil, e
	}
	if !formed {
		return nil, api.ErrForm
	}
	return t, api.OK
}

// readObjects tells whether all of them may be, one behind the other.
func readObjects(r *num.Reader, t *Table) bool {
	formed := true
	for range r.Count(api.MaxNames) {
		name := readName(r)
		o := object{version: r.Count(api.MaxNumber), env: r.Text(mostEnv)}
		_, more := t.objects.after(name)
		_, is := t.objects.get(name)
		if more || is || o.version == 0 || !seal.Sized(len(o.env)) {
			formed = false
		}
		t.objects.put(name, o)
	}
	return formed
}

// readAnswers tells whether all of them may be, one behind the other.
func readAnswers(r *num.Reader, t *Table) bool {
	formed := true
	for range r.Count(api.MaxClients) {
		a := api.Ans{Client: r.Num(1), Num: r.Count(api.MaxNumber), Code: r.Num(1), Version: r.Count(api.MaxNumber), Epoch: r.Num(1)}
		a.Name = readName(r)
		a.Env = r.Text(mostEnv)
		_, more := t.answers.after(a.Client)
		_, is := t.answers.get(a.Client)
		if more || is || !isClient(a.Client) || a.Num == 0 || a.Code > api.AnsNo || len(a.Env) > 0 && !seal.Sized(len(a.Env)) {
			formed = false
		}
		t.answers.put(a.Client, a)
	}
	return formed
}
