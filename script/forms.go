package script

import "atlas/api"

// placesOf: the words that must stand behind the name of such a command, each with the field of c that it gives.
func placesOf(c *api.Command) []place {
	switch c.Kind {
	case api.CBoot:
		f := &c.Config
		return counts(&f.Frames, &f.I, &f.D, &f.Main, &f.Asids, &f.N)
	case api.CBare:
		f := &c.Config
		return counts(&f.Frames, &f.I, &f.D, &f.Main)
	case api.CNoise:
		return noisePlaces(&c.Noise)
	case api.CCreate, api.CDestroy:
		return []place{name{&c.Name}}
	case api.CSwitch:
		return []place{nameOrNone{&c.Name}}
	case api.CMap:
		return []place{name{&c.Name}, word32{&c.VA}, size{&c.Size}, count(&c.Count), rights{&c.Rights}}
	case api.CUnmap:
		return []place{name{&c.Name}, word32{&c.VA}, word40{&c.Len}}
	case api.CProtect:
		return []place{name{&c.Name}, word32{&c.VA}, word40{&c.Len}, rights{&c.Rights}}
	case api.CShare:
		return []place{name{&c.Name}, word32{&c.VA}, name{&c.Other}, word32{&c.From}, word40{&c.Len}, rights{&c.Rights}}
	case api.CQuery:
		return []place{name{&c.Name}, word32{&c.VA}}
	case api.CLoad, api.CFetch:
		return []place{word32{&c.VA}, count(&c.Bytes)}
	case api.CStore:
		return []place{word32{&c.VA}, count(&c.Bytes), word32{&c.Value}}
	case api.CPoke:
		return []place{word40{&c.PA}, word32{&c.Value}}
	case api.CPeek:
		return []place{word40{&c.PA}}
	case api.CMcr:
		return append(tuplePlaces(&c.Tuple), word32{&c.Value})
	case api.CMrc:
		return tuplePlaces(&c.Tuple)
	}
	return nil // spaces and dirty: the name says all
}

// noisePlaces: which words follow the first one hangs on what it says.
func noisePlaces(n *api.Noise) []place {
	act := choice{&n.Act, actWords}
	switch n.Act {
	case api.NNone:
		return []place{act, count(&n.Pick)}
	case api.NEvict:
		return []place{act, choice{&n.Which, tlbWords}, count(&n.Slot), count(&n.Pick)}
	case api.NFill:
		return []place{act, word32{&n.VA}, how{&n.Fetch}, count(&n.Pick)}
	}
	return []place{act}
}

// tuplePlaces: the four numbers of a register or an operation.
func tuplePlaces(t *api.Tuple) []place {
	return []place{number{&t.CRn, crEnd}, number{&t.Op1, opEnd}, number{&t.CRm, crEnd}, number{&t.Op2, opEnd}}
}

// count: a number that no limit of its own bounds.
func count(field *int) place { return number{field, countEnd} }

// counts: one for each field.
func counts(fields ...*int) []place {
	var places []place
	for _, field := range fields {
		places = append(places, count(field))
	}
	return places
}

// mark: a word that may be missing. The field is as says tells where the word stands, and the contrary where it is missing.
type mark struct {
	word  string
	field *bool
	says  bool
}

// markOf: the mark that may stand behind the other words of such a command; without a field, if none may.
func markOf(c *api.Command) mark {
	switch c.Kind {
	case api.CNoise:
		return mark{"first", &c.Noise.MainFirst, true}
	case api.CLoad, api.CStore, api.CFetch:
		return mark{"priv", &c.Priv, true}
	case api.CMcr, api.CMrc:
		return mark{"user", &c.Priv, false}
	}
	return mark{}
}
