/- What the run over plain data asks of each type of this seat's program, by program. -/
import Derived.Test.YtalkmhjanlljhaaMPB
import Derived.Test.YtalkmhjanlljhaaProg
import Derived.KernelRfl
namespace Go.Proofs.Ytalkmhjanlljhaa
set_option linter.unusedSimpArgs false
open Go Go.RowKit
theorem fv:aY Try.prog 0=some 1:=by kernel_rfl
theorem R9:bv Try.prog 0=some 0:=by kernel_rfl
theorem Sa:aD Try.prog 0=some false:=by kernel_rfl
theorem Sb:av Try.prog 0=some [.x (Value.tuple #[])]:=by kernel_rfl
theorem Sc:az Try.prog 0=some (.x (Value.tuple #[])):=by kernel_rfl
theorem I2:aY Try.prog 1=some 1:=by kernel_rfl
theorem Sd:bv Try.prog 1=some 8:=by kernel_rfl
theorem Se:aD Try.prog 1=some false:=by kernel_rfl
theorem sz2:aY Try.prog 2=some 1:=by kernel_rfl
theorem Sf:bv Try.prog 2=some 8:=by kernel_rfl
theorem Sg:aD Try.prog 2=some false:=by kernel_rfl
theorem Sh:av Try.prog 2=some [.x (Value.int IntKind.i64 0)]:=by kernel_rfl
theorem Si:az Try.prog 2=some (.x (Value.int IntKind.i64 0)):=by kernel_rfl
theorem ID:aY Try.prog 3=some 1:=by kernel_rfl
theorem I3:bv Try.prog 3=some 8:=by kernel_rfl
theorem Sj:aD Try.prog 3=some false:=by kernel_rfl
theorem I4:av Try.prog 3=some [.x (Value.int IntKind.i64 0)]:=by kernel_rfl
theorem NH:az Try.prog 3=some (.x (Value.int IntKind.i64 0)):=by kernel_rfl
theorem Sk:aY Try.prog 4=some 1:=by kernel_rfl
theorem Sl:bv Try.prog 4=some 1:=by kernel_rfl
theorem Sm:aD Try.prog 4=some false:=by kernel_rfl
theorem Sn:av Try.prog 4=some [.x (Value.bool false)]:=by kernel_rfl
theorem So:az Try.prog 4=some (.x (Value.bool false)):=by kernel_rfl
theorem Sp:aY Try.prog 5=some 1:=by kernel_rfl
theorem Sq:bv Try.prog 5=some 1:=by kernel_rfl
theorem Sr:aD Try.prog 5=some false:=by kernel_rfl
theorem Ss:av Try.prog 5=some [.x (Value.int IntKind.u8 0)]:=by kernel_rfl
theorem Su:az Try.prog 5=some (.x (Value.int IntKind.u8 0)):=by kernel_rfl
theorem Sv:aY Try.prog 6=some 1:=by kernel_rfl
theorem Sw:bv Try.prog 6=some 1:=by kernel_rfl
theorem Sx:aD Try.prog 6=some false:=by kernel_rfl
theorem Sy:av Try.prog 6=some [.x (Value.int IntKind.u8 0)]:=by kernel_rfl
theorem Sz:az Try.prog 6=some (.x (Value.int IntKind.u8 0)):=by kernel_rfl
theorem SA:aY Try.prog 7=some 4:=by kernel_rfl
theorem SB:bv Try.prog 7=some 24:=by kernel_rfl
theorem SC:aD Try.prog 7=some true:=by kernel_rfl
theorem SD:av Try.prog 7=some [.x (Value.int IntKind.i64 0),.x (Value.int IntKind.i64 0),.x (Value.bool false),.x (Value.int IntKind.u8 0)]:=by kernel_rfl
theorem SE:az Try.prog 7=some (.agg [.x (Value.int IntKind.i64 0),.x (Value.int IntKind.i64 0),.x (Value.bool false),.x (Value.int IntKind.u8 0)]):=by kernel_rfl
theorem SF:aY Try.prog 8=some 4:=by kernel_rfl
theorem SG:bv Try.prog 8=some 24:=by kernel_rfl
theorem SH:aD Try.prog 8=some true:=by kernel_rfl
theorem SI:av Try.prog 8=some [.x (Value.int IntKind.i64 0),.x (Value.int IntKind.i64 0),.x (Value.bool false),.x (Value.int IntKind.u8 0)]:=by kernel_rfl
theorem SJ:az Try.prog 8=some (.agg [.x (Value.int IntKind.i64 0),.x (Value.int IntKind.i64 0),.x (Value.bool false),.x (Value.int IntKind.u8 0)]):=by kernel_rfl
theorem SK:aY Try.prog 9=some 1:=by kernel_rfl
theorem SL:bv Try.prog 9=some 16:=by kernel_rfl
theorem SM:aD Try.prog 9=some false:=by kernel_rfl
theorem SN:av Try.prog 9=some [.x (Value.string ⟨#[]⟩)]:=by kernel_rfl
theorem SO:az Try.prog 9=some (.x (Value.string ⟨#[]⟩)):=by kernel_rfl
theorem NI:aY Try.prog 10=some 1:=by kernel_rfl
theorem NJ:bv Try.prog 10=some 16:=by kernel_rfl
theorem NK:aD Try.prog 10=some false:=by kernel_rfl
theorem NL:av Try.prog 10=some [.x (Value.string ⟨#[]⟩)]:=by kernel_rfl
theorem NM:az Try.prog 10=some (.x (Value.string ⟨#[]⟩)):=by kernel_rfl
theorem NN:aY Try.prog 12=some 1:=by kernel_rfl
theorem NO:bv Try.prog 12=some 8:=by kernel_rfl
theorem NP:aD Try.prog 12=some false:=by kernel_rfl
theorem NQ:av Try.prog 12=some [.x (Value.int IntKind.u64 0)]:=by kernel_rfl
theorem NR:az Try.prog 12=some (.x (Value.int IntKind.u64 0)):=by kernel_rfl
theorem NS:aY Try.prog 16=some 1:=by kernel_rfl
theorem NT:bv Try.prog 16=some 8:=by kernel_rfl
theorem NU:aD Try.prog 16=some false:=by kernel_rfl
theorem NV:av Try.prog 16=some [.x (Value.pointer none)]:=by kernel_rfl
theorem NW:az Try.prog 16=some (.x (Value.pointer none)):=by kernel_rfl
theorem NX:aY Try.prog 17=some 1:=by kernel_rfl
theorem NY:bv Try.prog 17=some 8:=by kernel_rfl
theorem NZ:aD Try.prog 17=some false:=by kernel_rfl
theorem N0:av Try.prog 17=some [.x (Value.pointer none)]:=by kernel_rfl
theorem N2:az Try.prog 17=some (.x (Value.pointer none)):=by kernel_rfl
theorem N3:aY Try.prog 20=some 1:=by kernel_rfl
theorem N4:bv Try.prog 20=some 16:=by kernel_rfl
theorem N5:aD Try.prog 20=some false:=by kernel_rfl
theorem N6:aY Try.prog 21=some 1:=by kernel_rfl
theorem N7:bv Try.prog 21=some 4:=by kernel_rfl
theorem N8:aD Try.prog 21=some false:=by kernel_rfl
theorem N9:av Try.prog 21=some [.x (Value.int IntKind.i32 0)]:=by kernel_rfl
theorem Oa:az Try.prog 21=some (.x (Value.int IntKind.i32 0)):=by kernel_rfl
theorem Ob:aY Try.prog 22=some 1:=by kernel_rfl
theorem Od:bv Try.prog 22=some 24:=by kernel_rfl
theorem Oe:aD Try.prog 22=some false:=by kernel_rfl
theorem Og:av Try.prog 22=some [.sl true 0 [] none]:=by kernel_rfl
theorem Oh:az Try.prog 22=some (.sl true 0 [] none):=by kernel_rfl
theorem Oj:aY Try.prog 23=some 1:=by kernel_rfl
theorem Ol:bv Try.prog 23=some 8:=by kernel_rfl
theorem Om:aD Try.prog 23=some false:=by kernel_rfl
theorem On:aY Try.prog 24=some 1:=by kernel_rfl
theorem Oo:bv Try.prog 24=some 8:=by kernel_rfl
theorem Oq:aD Try.prog 24=some false:=by kernel_rfl
theorem Ot:aY Try.prog 25=some 1:=by kernel_rfl
theorem Ou:bv Try.prog 25=some 8:=by kernel_rfl
theorem Ov:aD Try.prog 25=some false:=by kernel_rfl
theorem Ow:av Try.prog 25=some [.x (Value.pointer none)]:=by kernel_rfl
theorem Ox:az Try.prog 25=some (.x (Value.pointer none)):=by kernel_rfl
theorem Oy:aY Try.prog 27=some 1:=by kernel_rfl
theorem Oz:bv Try.prog 27=some 24:=by kernel_rfl
theorem OA:aD Try.prog 27=some false:=by kernel_rfl
theorem OB:av Try.prog 27=some [.sl true 0 [] none]:=by kernel_rfl
theorem OC:az Try.prog 27=some (.sl true 0 [] none):=by kernel_rfl
theorem OD:aY Try.prog 31=some 3:=by kernel_rfl
theorem OE:bv Try.prog 31=some 32:=by kernel_rfl
theorem OF:aD Try.prog 31=some true:=by kernel_rfl
theorem OG:av Try.prog 31=some [.x (Value.string ⟨#[]⟩),.x (Value.int IntKind.i64 0),.x (Value.int IntKind.i64 0)]:=by kernel_rfl
theorem OH:az Try.prog 31=some (.agg [.x (Value.string ⟨#[]⟩),.x (Value.int IntKind.i64 0),.x (Value.int IntKind.i64 0)]):=by kernel_rfl
theorem yd:aY Try.prog 32=some 3:=by kernel_rfl
theorem ye:bv Try.prog 32=some 32:=by kernel_rfl
theorem OI:aD Try.prog 32=some true:=by kernel_rfl
theorem yf:av Try.prog 32=some [.x (Value.string ⟨#[]⟩),.x (Value.int IntKind.i64 0),.x (Value.int IntKind.i64 0)]:=by kernel_rfl
theorem OJ:az Try.prog 32=some (.agg [.x (Value.string ⟨#[]⟩),.x (Value.int IntKind.i64 0),.x (Value.int IntKind.i64 0)]):=by kernel_rfl
theorem OK:aY Try.prog 33=some 3:=by kernel_rfl
theorem OL:bv Try.prog 33=some 32:=by kernel_rfl
theorem OM:aD Try.prog 33=some true:=by kernel_rfl
theorem ON:av Try.prog 33=some [.x (Value.int IntKind.i64 0),.x (Value.int IntKind.i64 0),.x (Value.string ⟨#[]⟩)]:=by kernel_rfl
theorem OO:az Try.prog 33=some (.agg [.x (Value.int IntKind.i64 0),.x (Value.int IntKind.i64 0),.x (Value.string ⟨#[]⟩)]):=by kernel_rfl
theorem OP:aY Try.prog 34=some 3:=by kernel_rfl
theorem OQ:bv Try.prog 34=some 32:=by kernel_rfl
theorem OR:aD Try.prog 34=some true:=by kernel_rfl
theorem OS:av Try.prog 34=some [.x (Value.int IntKind.i64 0),.x (Value.int IntKind.i64 0),.x (Value.string ⟨#[]⟩)]:=by kernel_rfl
theorem OT:az Try.prog 34=some (.agg [.x (Value.int IntKind.i64 0),.x (Value.int IntKind.i64 0),.x (Value.string ⟨#[]⟩)]):=by kernel_rfl
theorem GW:aY Try.prog 35=some 1:=by kernel_rfl
theorem GX:bv Try.prog 35=some 24:=by kernel_rfl
theorem OU:aD Try.prog 35=some false:=by kernel_rfl
theorem GY:av Try.prog 35=some [.sl true 0 [] none]:=by kernel_rfl
theorem OV:az Try.prog 35=some (.sl true 0 [] none):=by kernel_rfl
theorem OW:aY Try.prog 36=some 13:=by kernel_rfl
theorem OX:bv Try.prog 36=some 160:=by kernel_rfl
theorem OY:aD Try.prog 36=some true:=by kernel_rfl
theorem OZ:av Try.prog 36=some [.x (Value.int IntKind.i64 0),.x (Value.string ⟨#[]⟩),.x (Value.string ⟨#[]⟩),.x (Value.int IntKind.i64 0),.x (Value.int IntKind.i64 0),.x (Value.string ⟨#[]⟩),.x (Value.string ⟨#[]⟩),.x (Value.int IntKind.i64 0),.x (Value.int IntKind.i64 0),.x (Value.string ⟨#[]⟩),.x (Value.int IntKind.i64 0),.x (Value.int IntKind.i64 0),.sl true 0 [] none]:=by kernel_rfl
theorem O0:az Try.prog 36=some (.agg [.x (Value.int IntKind.i64 0),.x (Value.string ⟨#[]⟩),.x (Value.string ⟨#[]⟩),.x (Value.int IntKind.i64 0),.x (Value.int IntKind.i64 0),.x (Value.string ⟨#[]⟩),.x (Value.string ⟨#[]⟩),.x (Value.int IntKind.i64 0),.x (Value.int IntKind.i64 0),.x (Value.string ⟨#[]⟩),.x (Value.int IntKind.i64 0),.x (Value.int IntKind.i64 0),.sl true 0 [] none]):=by kernel_rfl
theorem O6:aY Try.prog 37=some 13:=by kernel_rfl
theorem Pa:bv Try.prog 37=some 160:=by kernel_rfl
theorem Pb:aD Try.prog 37=some true:=by kernel_rfl
theorem Pc:av Try.prog 37=some [.x (Value.int IntKind.i64 0),.x (Value.string ⟨#[]⟩),.x (Value.string ⟨#[]⟩),.x (Value.int IntKind.i64 0),.x (Value.int IntKind.i64 0),.x (Value.string ⟨#[]⟩),.x (Value.string ⟨#[]⟩),.x (Value.int IntKind.i64 0),.x (Value.int IntKind.i64 0),.x (Value.string ⟨#[]⟩),.x (Value.int IntKind.i64 0),.x (Value.int IntKind.i64 0),.sl true 0 [] none]:=by kernel_rfl
theorem Pd:az Try.prog 37=some (.agg [.x (Value.int IntKind.i64 0),.x (Value.string ⟨#[]⟩),.x (Value.string ⟨#[]⟩),.x (Value.int IntKind.i64 0),.x (Value.int IntKind.i64 0),.x (Value.string ⟨#[]⟩),.x (Value.string ⟨#[]⟩),.x (Value.int IntKind.i64 0),.x (Value.int IntKind.i64 0),.x (Value.string ⟨#[]⟩),.x (Value.int IntKind.i64 0),.x (Value.int IntKind.i64 0),.sl true 0 [] none]):=by kernel_rfl
theorem Pe:aY Try.prog 38=some 20:=by kernel_rfl
theorem Pf:bv Try.prog 38=some 232:=by kernel_rfl
theorem Pg:aD Try.prog 38=some true:=by kernel_rfl
theorem Ph:av Try.prog 38=some [.x (Value.string ⟨#[]⟩),.x (Value.int IntKind.i64 0),.x (Value.int IntKind.i64 0),.x (Value.bool false),.x (Value.int IntKind.i64 0),.x (Value.string ⟨#[]⟩),.x (Value.string ⟨#[]⟩),.x (Value.int IntKind.i64 0),.x (Value.int IntKind.i64 0),.x (Value.string ⟨#[]⟩),.x (Value.string ⟨#[]⟩),.x (Value.int IntKind.i64 0),.x (Value.int IntKind.i64 0),.x (Value.string ⟨#[]⟩),.x (Value.int IntKind.i64 0),.x (Value.int IntKind.i64 0),.sl true 0 [] none,.x (Value.int IntKind.i64 0),.x (Value.int IntKind.i64 0),.x (Value.string ⟨#[]⟩)]:=by kernel_rfl
theorem Pi:az Try.prog 38=some (.agg [.x (Value.string ⟨#[]⟩),.x (Value.int IntKind.i64 0),.x (Value.int IntKind.i64 0),.x (Value.bool false),.x (Value.int IntKind.i64 0),.x (Value.string ⟨#[]⟩),.x (Value.string ⟨#[]⟩),.x (Value.int IntKind.i64 0),.x (Value.int IntKind.i64 0),.x (Value.string ⟨#[]⟩),.x (Value.string ⟨#[]⟩),.x (Value.int IntKind.i64 0),.x (Value.int IntKind.i64 0),.x (Value.string ⟨#[]⟩),.x (Value.int IntKind.i64 0),.x (Value.int IntKind.i64 0),.sl true 0 [] none,.x (Value.int IntKind.i64 0),.x (Value.int IntKind.i64 0),.x (Value.string ⟨#[]⟩)]):=by kernel_rfl
theorem Pj:aY Try.prog 39=some 20:=by kernel_rfl
theorem Pk:bv Try.prog 39=some 232:=by kernel_rfl
theorem Pn:aD Try.prog 39=some true:=by kernel_rfl
theorem Po:av Try.prog 39=some [.x (Value.string ⟨#[]⟩),.x (Value.int IntKind.i64 0),.x (Value.int IntKind.i64 0),.x (Value.bool false),.x (Value.int IntKind.i64 0),.x (Value.string ⟨#[]⟩),.x (Value.string ⟨#[]⟩),.x (Value.int IntKind.i64 0),.x (Value.int IntKind.i64 0),.x (Value.string ⟨#[]⟩),.x (Value.string ⟨#[]⟩),.x (Value.int IntKind.i64 0),.x (Value.int IntKind.i64 0),.x (Value.string ⟨#[]⟩),.x (Value.int IntKind.i64 0),.x (Value.int IntKind.i64 0),.sl true 0 [] none,.x (Value.int IntKind.i64 0),.x (Value.int IntKind.i64 0),.x (Value.string ⟨#[]⟩)]:=by kernel_rfl
theorem Pp:az Try.prog 39=some (.agg [.x (Value.string ⟨#[]⟩),.x (Value.int IntKind.i64 0),.x (Value.int IntKind.i64 0),.x (Value.bool false),.x (Value.int IntKind.i64 0),.x (Value.string ⟨#[]⟩),.x (Value.string ⟨#[]⟩),.x (Value.int IntKind.i64 0),.x (Value.int IntKind.i64 0),.x (Value.string ⟨#[]⟩),.x (Value.string ⟨#[]⟩),.x (Value.int IntKind.i64 0),.x (Value.int IntKind.i64 0),.x (Value.string ⟨#[]⟩),.x (Value.int IntKind.i64 0),.x (Value.int IntKind.i64 0),.sl true 0 [] none,.x (Value.int IntKind.i64 0),.x (Value.int IntKind.i64 0),.x (Value.string ⟨#[]⟩)]):=by kernel_rfl
theorem Pq:aY Try.prog 40=some 1:=by kernel_rfl
theorem Ps:bv Try.prog 40=some 24:=by kernel_rfl
theorem Pt:aD Try.prog 40=some false:=by kernel_rfl
theorem Pu:av Try.prog 40=some [.sl true 0 [] none]:=by kernel_rfl
theorem Pv:az Try.prog 40=some (.sl true 0 [] none):=by kernel_rfl
theorem Pw:aY Try.prog 42=some 2:=by kernel_rfl
theorem Px:bv Try.prog 42=some 32:=by kernel_rfl
theorem Py:aD Try.prog 42=some true:=by kernel_rfl
theorem Pz:av Try.prog 42=some [.sl true 0 [] none,.x (Value.bool false)]:=by kernel_rfl
theorem PA:az Try.prog 42=some (.agg [.sl true 0 [] none,.x (Value.bool false)]):=by kernel_rfl
theorem PB:aY Try.prog 43=some 2:=by kernel_rfl
theorem PC:bv Try.prog 43=some 32:=by kernel_rfl
theorem PE:aD Try.prog 43=some true:=by kernel_rfl
theorem PF:av Try.prog 43=some [.sl true 0 [] none,.x (Value.bool false)]:=by kernel_rfl
theorem PG:az Try.prog 43=some (.agg [.sl true 0 [] none,.x (Value.bool false)]):=by kernel_rfl
theorem PH:aY Try.prog 44=some 1:=by kernel_rfl
theorem PJ:bv Try.prog 44=some 8:=by kernel_rfl
theorem PK:aD Try.prog 44=some false:=by kernel_rfl
theorem PM:aY Try.prog 46=some 1:=by kernel_rfl
theorem PN:bv Try.prog 46=some 8:=by kernel_rfl
theorem PO:aD Try.prog 46=some false:=by kernel_rfl
theorem PP:av Try.prog 46=some [.x (Value.map none)]:=by kernel_rfl
theorem PQ:az Try.prog 46=some (.x (Value.map none)):=by kernel_rfl
theorem PS:aY Try.prog 49=some 1:=by kernel_rfl
theorem PT:bv Try.prog 49=some 24:=by kernel_rfl
theorem PU:aD Try.prog 49=some false:=by kernel_rfl
theorem PV:av Try.prog 49=some [.sl true 0 [] none]:=by kernel_rfl
theorem PW:az Try.prog 49=some (.sl true 0 [] none):=by kernel_rfl
theorem PX:aY Try.prog 50=some 4:=by kernel_rfl
theorem PY:bv Try.prog 50=some 80:=by kernel_rfl
theorem PZ:aD Try.prog 50=some true:=by kernel_rfl
theorem P0:av Try.prog 50=some [.sl true 0 [] none,.x (Value.map none),.sl true 0 [] none,.sl true 0 [] none]:=by kernel_rfl
theorem P3:az Try.prog 50=some (.agg [.sl true 0 [] none,.x (Value.map none),.sl true 0 [] none,.sl true 0 [] none]):=by kernel_rfl
theorem P4:aY Try.prog 51=some 4:=by kernel_rfl
theorem P5:bv Try.prog 51=some 80:=by kernel_rfl
theorem P6:aD Try.prog 51=some true:=by kernel_rfl
theorem P7:av Try.prog 51=some [.sl true 0 [] none,.x (Value.map none),.sl true 0 [] none,.sl true 0 [] none]:=by kernel_rfl
theorem P8:az Try.prog 51=some (.agg [.sl true 0 [] none,.x (Value.map none),.sl true 0 [] none,.sl true 0 [] none]):=by kernel_rfl
theorem P9:aY Try.prog 52=some 1:=by kernel_rfl
theorem Qa:bv Try.prog 52=some 24:=by kernel_rfl
theorem Qb:aD Try.prog 52=some false:=by kernel_rfl
theorem Qc:av Try.prog 52=some [.sl true 0 [] none]:=by kernel_rfl
theorem Qd:az Try.prog 52=some (.sl true 0 [] none):=by kernel_rfl
theorem Qe:aY Try.prog 56=some 1:=by kernel_rfl
theorem Qf:bv Try.prog 56=some 0:=by kernel_rfl
theorem Qg:aD Try.prog 56=some false:=by kernel_rfl
theorem Qh:av Try.prog 56=some [.x (Value.tuple #[Value.int IntKind.i64 0,Value.bool false])]:=by kernel_rfl
theorem Qi:az Try.prog 56=some (.x (Value.tuple #[Value.int IntKind.i64 0,Value.bool false])):=by kernel_rfl
theorem Qj:aY Try.prog 59=some 1:=by kernel_rfl
theorem Qk:bv Try.prog 59=some 8:=by kernel_rfl
theorem Ql:aD Try.prog 59=some false:=by kernel_rfl
theorem Qm:av Try.prog 59=some [.x (Value.map none)]:=by kernel_rfl
theorem Qn:az Try.prog 59=some (.x (Value.map none)):=by kernel_rfl
theorem Qo:aY Try.prog 60=some 0:=by kernel_rfl
theorem Qp:bv Try.prog 60=some 0:=by kernel_rfl
theorem Qq:aD Try.prog 60=some true:=by kernel_rfl
theorem Qr:av Try.prog 60=some []:=by kernel_rfl
theorem GZ:az Try.prog 60=some (.agg []):=by kernel_rfl
theorem Qs:aY Try.prog 61=some 1:=by kernel_rfl
theorem Qt:bv Try.prog 61=some 0:=by kernel_rfl
theorem Qu:aD Try.prog 61=some false:=by kernel_rfl
theorem Qv:av Try.prog 61=some [.x (Value.tuple #[Value.agg #[],Value.bool false])]:=by kernel_rfl
theorem Qw:az Try.prog 61=some (.x (Value.tuple #[Value.agg #[],Value.bool false])):=by kernel_rfl
theorem Qx:aY Try.prog 63=some 1:=by kernel_rfl
theorem Qy:bv Try.prog 63=some 8:=by kernel_rfl
theorem Qz:aD Try.prog 63=some false:=by kernel_rfl
theorem QA:aY Try.prog 64=some 1:=by kernel_rfl
theorem QB:bv Try.prog 64=some 8:=by kernel_rfl
theorem QC:aD Try.prog 64=some false:=by kernel_rfl
theorem QD:aY Try.prog 72=some 1:=by kernel_rfl
theorem QE:bv Try.prog 72=some 8:=by kernel_rfl
theorem QF:aD Try.prog 72=some false:=by kernel_rfl
theorem QG:av Try.prog 72=some [.x (Value.pointer none)]:=by kernel_rfl
theorem QH:az Try.prog 72=some (.x (Value.pointer none)):=by kernel_rfl
theorem QI:aY Try.prog 73=some 1:=by kernel_rfl
theorem QJ:bv Try.prog 73=some 24:=by kernel_rfl
theorem QK:aD Try.prog 73=some false:=by kernel_rfl
theorem QL:av Try.prog 73=some [.sl true 0 [] none]:=by kernel_rfl
theorem QM:az Try.prog 73=some (.sl true 0 [] none):=by kernel_rfl
theorem QN:aY Try.prog 74=some 1:=by kernel_rfl
theorem QO:bv Try.prog 74=some 24:=by kernel_rfl
theorem QP:aD Try.prog 74=some true:=by kernel_rfl
theorem QQ:av Try.prog 74=some [.sl true 0 [] none]:=by kernel_rfl
theorem QR:az Try.prog 74=some (.agg [.sl true 0 [] none]):=by kernel_rfl
theorem QT:aY Try.prog 75=some 1:=by kernel_rfl
theorem QU:bv Try.prog 75=some 24:=by kernel_rfl
theorem QV:aD Try.prog 75=some true:=by kernel_rfl
theorem QW:av Try.prog 75=some [.sl true 0 [] none]:=by kernel_rfl
theorem QX:az Try.prog 75=some (.agg [.sl true 0 [] none]):=by kernel_rfl
theorem QY:aY Try.prog 77=some 1:=by kernel_rfl
theorem QZ:bv Try.prog 77=some 8:=by kernel_rfl
theorem Q0:aD Try.prog 77=some false:=by kernel_rfl
theorem Q1:aY Try.prog 83=some 1:=by kernel_rfl
theorem Q2:bv Try.prog 83=some 8:=by kernel_rfl
theorem Q3:aD Try.prog 83=some false:=by kernel_rfl
theorem Q4:aY Try.prog 85=some 1:=by kernel_rfl
theorem Q5:bv Try.prog 85=some 8:=by kernel_rfl
theorem Q6:aD Try.prog 85=some false:=by kernel_rfl
theorem Q7:av Try.prog 85=some [.x (Value.map none)]:=by kernel_rfl
theorem Q8:az Try.prog 85=some (.x (Value.map none)):=by kernel_rfl
theorem Q9:aY Try.prog 86=some 1:=by kernel_rfl
theorem Ra:bv Try.prog 86=some 8:=by kernel_rfl
theorem Rb:aD Try.prog 86=some false:=by kernel_rfl
theorem Rc:av Try.prog 86=some [.x (Value.map none)]:=by kernel_rfl
theorem Re:az Try.prog 86=some (.x (Value.map none)):=by kernel_rfl
theorem Rf:aY Try.prog 87=some 1:=by kernel_rfl
theorem Rg:bv Try.prog 87=some 8:=by kernel_rfl
theorem Rh:aD Try.prog 87=some false:=by kernel_rfl
theorem Ri:aY Try.prog 88=some 1:=by kernel_rfl
theorem Rj:bv Try.prog 88=some 8:=by kernel_rfl
theorem Rk:aD Try.prog 88=some false:=by kernel_rfl
theorem Rl:aY Try.prog 90=some 6:=by kernel_rfl
theorem Rm:bv Try.prog 90=some 64:=by kernel_rfl
theorem Rn:aD Try.prog 90=some true:=by kernel_rfl
theorem Ro:av Try.prog 90=some [.x (Value.string ⟨#[]⟩),.x (Value.int IntKind.i64 0),.x (Value.int IntKind.i64 0),.x (Value.string ⟨#[]⟩),.x (Value.int IntKind.i64 0),.x (Value.int IntKind.i64 0)]:=by kernel_rfl
theorem Rp:az Try.prog 90=some (.agg [.x (Value.string ⟨#[]⟩),.x (Value.int IntKind.i64 0),.x (Value.int IntKind.i64 0),.x (Value.string ⟨#[]⟩),.x (Value.int IntKind.i64 0),.x (Value.int IntKind.i64 0)]):=by kernel_rfl
theorem Rq:aY Try.prog 91=some 6:=by kernel_rfl
theorem Rr:bv Try.prog 91=some 64:=by kernel_rfl
theorem Rt:aD Try.prog 91=some true:=by kernel_rfl
theorem Ru:av Try.prog 91=some [.x (Value.string ⟨#[]⟩),.x (Value.int IntKind.i64 0),.x (Value.int IntKind.i64 0),.x (Value.string ⟨#[]⟩),.x (Value.int IntKind.i64 0),.x (Value.int IntKind.i64 0)]:=by kernel_rfl
theorem Rv:az Try.prog 91=some (.agg [.x (Value.string ⟨#[]⟩),.x (Value.int IntKind.i64 0),.x (Value.int IntKind.i64 0),.x (Value.string ⟨#[]⟩),.x (Value.int IntKind.i64 0),.x (Value.int IntKind.i64 0)]):=by kernel_rfl
theorem Rw:aY Try.prog 94=some 1:=by kernel_rfl
theorem Ry:bv Try.prog 94=some 8:=by kernel_rfl
theorem Rz:aD Try.prog 94=some false:=by kernel_rfl
theorem RA:aY Try.prog 95=some 1:=by kernel_rfl
theorem RB:bv Try.prog 95=some 8:=by kernel_rfl
theorem RC:aD Try.prog 95=some false:=by kernel_rfl
theorem RD:aY Try.prog 98=some 1:=by kernel_rfl
theorem RE:bv Try.prog 98=some 8:=by kernel_rfl
theorem RF:aD Try.prog 98=some false:=by kernel_rfl
theorem I5:aY Try.prog 104=some 1:=by kernel_rfl
theorem I6:bv Try.prog 104=some 8:=by kernel_rfl
theorem I7:aD Try.prog 104=some false:=by kernel_rfl
theorem I8:aY Try.prog 107=some 1:=by kernel_rfl
theorem I9:bv Try.prog 107=some 8:=by kernel_rfl
theorem Ja:aD Try.prog 107=some false:=by kernel_rfl
theorem Jb:av Try.prog 107=some [.x (Value.pointer none)]:=by kernel_rfl
theorem Jc:az Try.prog 107=some (.x (Value.pointer none)):=by kernel_rfl
theorem Jd:aY Try.prog 108=some 1:=by kernel_rfl
theorem Je:bv Try.prog 108=some 8:=by kernel_rfl
theorem Jf:aD Try.prog 108=some false:=by kernel_rfl
theorem Jg:av Try.prog 108=some [.x (Value.int IntKind.u64 0)]:=by kernel_rfl
theorem Jh:az Try.prog 108=some (.x (Value.int IntKind.u64 0)):=by kernel_rfl
theorem Ji:aY Try.prog 109=some 3:=by kernel_rfl
theorem Jj:bv Try.prog 109=some 24:=by kernel_rfl
theorem Jk:aD Try.prog 109=some true:=by kernel_rfl
theorem Jl:av Try.prog 109=some [.x (Value.pointer none),.x (Value.pointer none),.x (Value.int IntKind.u64 0)]:=by kernel_rfl
theorem Jm:az Try.prog 109=some (.agg [.x (Value.pointer none),.x (Value.pointer none),.x (Value.int IntKind.u64 0)]):=by kernel_rfl
theorem Jn:aY Try.prog 110=some 3:=by kernel_rfl
theorem Jo:bv Try.prog 110=some 24:=by kernel_rfl
theorem Jp:aD Try.prog 110=some true:=by kernel_rfl
theorem Jq:av Try.prog 110=some [.x (Value.pointer none),.x (Value.pointer none),.x (Value.int IntKind.u64 0)]:=by kernel_rfl
theorem Jr:az Try.prog 110=some (.agg [.x (Value.pointer none),.x (Value.pointer none),.x (Value.int IntKind.u64 0)]):=by kernel_rfl
theorem Js:aY Try.prog 112=some 1:=by kernel_rfl
theorem Jt:bv Try.prog 112=some 8:=by kernel_rfl
theorem Ju:aD Try.prog 112=some false:=by kernel_rfl
theorem Jv:aY Try.prog 115=some 1:=by kernel_rfl
theorem Jw:bv Try.prog 115=some 8:=by kernel_rfl
theorem Jy:aD Try.prog 115=some false:=by kernel_rfl
theorem Jz:av Try.prog 115=some [.x (Value.int IntKind.u64 0)]:=by kernel_rfl
theorem JA:az Try.prog 115=some (.x (Value.int IntKind.u64 0)):=by kernel_rfl
theorem JB:aY Try.prog 117=some 2:=by kernel_rfl
theorem JC:bv Try.prog 117=some 16:=by kernel_rfl
theorem JD:aD Try.prog 117=some true:=by kernel_rfl
theorem JE:av Try.prog 117=some [.x (Value.nilFunc),.x (Value.nilFunc)]:=by kernel_rfl
theorem JG:az Try.prog 117=some (.agg [.x (Value.nilFunc),.x (Value.nilFunc)]):=by kernel_rfl
theorem JH:aY Try.prog 118=some 2:=by kernel_rfl
theorem JI:bv Try.prog 118=some 16:=by kernel_rfl
theorem JJ:aD Try.prog 118=some true:=by kernel_rfl
theorem JK:av Try.prog 118=some [.x (Value.nilFunc),.x (Value.nilFunc)]:=by kernel_rfl
theorem JM:az Try.prog 118=some (.agg [.x (Value.nilFunc),.x (Value.nilFunc)]):=by kernel_rfl
theorem JN:aY Try.prog 122=some 1:=by kernel_rfl
theorem JO:bv Try.prog 122=some 8:=by kernel_rfl
theorem JP:aD Try.prog 122=some false:=by kernel_rfl
theorem JQ:aY Try.prog 123=some 1:=by kernel_rfl
theorem JR:bv Try.prog 123=some 24:=by kernel_rfl
theorem JS:aD Try.prog 123=some false:=by kernel_rfl
theorem JT:av Try.prog 123=some [.sl true 0 [] none]:=by kernel_rfl
theorem JU:az Try.prog 123=some (.sl true 0 [] none):=by kernel_rfl
theorem JV:aY Try.prog 124=some 1:=by kernel_rfl
theorem JW:bv Try.prog 124=some 0:=by kernel_rfl
theorem JX:aD Try.prog 124=some false:=by kernel_rfl
theorem JY:av Try.prog 124=some [.x (Value.tuple #[Value.agg #[Value.string ⟨#[]⟩,Value.int IntKind.i64 0,Value.int IntKind.i64 0,Value.string ⟨#[]⟩,Value.int IntKind.i64 0,Value.int IntKind.i64 0],Value.bool false])]:=by kernel_rfl
theorem JZ:az Try.prog 124=some (.x (Value.tuple #[Value.agg #[Value.string ⟨#[]⟩,Value.int IntKind.i64 0,Value.int IntKind.i64 0,Value.string ⟨#[]⟩,Value.int IntKind.i64 0,Value.int IntKind.i64 0],Value.bool false])):=by kernel_rfl
theorem J0:aY Try.prog 128=some 1:=by kernel_rfl
theorem J2:bv Try.prog 128=some 8:=by kernel_rfl
theorem J3:aD Try.prog 128=some false:=by kernel_rfl
theorem J4:aY Try.prog 132=some 1:=by kernel_rfl
theorem J5:bv Try.prog 132=some 16:=by kernel_rfl
theorem J6:aD Try.prog 132=some false:=by kernel_rfl
theorem J7:aY Try.prog 133=some 1:=by kernel_rfl
theorem J8:bv Try.prog 133=some 16:=by kernel_rfl
theorem J9:aD Try.prog 133=some false:=by kernel_rfl
theorem Ka:aY Try.prog 134=some 1:=by kernel_rfl
theorem Kb:bv Try.prog 134=some 8:=by kernel_rfl
theorem Kc:aD Try.prog 134=some false:=by kernel_rfl
theorem Kd:aY Try.prog 136=some 1:=by kernel_rfl
theorem Ke:bv Try.prog 136=some 8:=by kernel_rfl
theorem Kf:aD Try.prog 136=some false:=by kernel_rfl
theorem Kg:aY Try.prog 137=some 1:=by kernel_rfl
theorem Kh:bv Try.prog 137=some 8:=by kernel_rfl
theorem Ki:aD Try.prog 137=some false:=by kernel_rfl
theorem Kj:aY Try.prog 143=some 1:=by kernel_rfl
theorem Kk:bv Try.prog 143=some 4:=by kernel_rfl
theorem Kl:aD Try.prog 143=some false:=by kernel_rfl
theorem Km:av Try.prog 143=some [.x (Value.int IntKind.u32 0)]:=by kernel_rfl
theorem Ko:az Try.prog 143=some (.x (Value.int IntKind.u32 0)):=by kernel_rfl
theorem Kp:aY Try.prog 145=some 1:=by kernel_rfl
theorem Kq:bv Try.prog 145=some 8:=by kernel_rfl
theorem Kr:aD Try.prog 145=some false:=by kernel_rfl
theorem Ks:av Try.prog 145=some [.x (Value.int IntKind.u64 0)]:=by kernel_rfl
theorem Kt:az Try.prog 145=some (.x (Value.int IntKind.u64 0)):=by kernel_rfl
theorem Ku:aY Try.prog 147=some 1:=by kernel_rfl
theorem Kv:bv Try.prog 147=some 8:=by kernel_rfl
theorem Kw:aD Try.prog 147=some false:=by kernel_rfl
theorem Kx:av Try.prog 147=some [.x (Value.int IntKind.i64 0)]:=by kernel_rfl
theorem Ky:az Try.prog 147=some (.x (Value.int IntKind.i64 0)):=by kernel_rfl
theorem Kz:aY Try.prog 148=some 1:=by kernel_rfl
theorem KA:bv Try.prog 148=some 0:=by kernel_rfl
theorem KB:aD Try.prog 148=some false:=by kernel_rfl
theorem KC:av Try.prog 148=some [.x (Value.tuple #[Value.int IntKind.i64 0,Value.int IntKind.i64 0])]:=by kernel_rfl
theorem KD:az Try.prog 148=some (.x (Value.tuple #[Value.int IntKind.i64 0,Value.int IntKind.i64 0])):=by kernel_rfl
theorem KE:aY Try.prog 154=some 1:=by kernel_rfl
theorem KF:bv Try.prog 154=some 24:=by kernel_rfl
theorem KG:aD Try.prog 154=some false:=by kernel_rfl
theorem KH:av Try.prog 154=some [.sl true 0 [] none]:=by kernel_rfl
theorem KI:az Try.prog 154=some (.sl true 0 [] none):=by kernel_rfl
theorem KJ:aY Try.prog 155=some 1:=by kernel_rfl
theorem KK:bv Try.prog 155=some 8:=by kernel_rfl
theorem KL:aD Try.prog 155=some false:=by kernel_rfl
theorem KM:av Try.prog 155=some [.x (Value.pointer none)]:=by kernel_rfl
theorem KN:az Try.prog 155=some (.x (Value.pointer none)):=by kernel_rfl
theorem KO:aY Try.prog 157=some 1:=by kernel_rfl
theorem KP:bv Try.prog 157=some 8:=by kernel_rfl
theorem KQ:aD Try.prog 157=some false:=by kernel_rfl
theorem KR:av Try.prog 157=some [.x (Value.int IntKind.i64 0)]:=by kernel_rfl
theorem KS:az Try.prog 157=some (.x (Value.int IntKind.i64 0)):=by kernel_rfl
theorem KT:aY Try.prog 158=some 1:=by kernel_rfl
theorem KU:bv Try.prog 158=some 0:=by kernel_rfl
theorem KX:aD Try.prog 158=some false:=by kernel_rfl
theorem KY:av Try.prog 158=some [.x (Value.tuple #[Value.int IntKind.i64 0,Value.int IntKind.i64 0])]:=by kernel_rfl
theorem KZ:az Try.prog 158=some (.x (Value.tuple #[Value.int IntKind.i64 0,Value.int IntKind.i64 0])):=by kernel_rfl
theorem K0:aY Try.prog 163=some 1:=by kernel_rfl
theorem K1:bv Try.prog 163=some 8:=by kernel_rfl
theorem K2:aD Try.prog 163=some false:=by kernel_rfl
theorem K3:av Try.prog 163=some [.x (Value.int IntKind.u64 0)]:=by kernel_rfl
theorem K4:az Try.prog 163=some (.x (Value.int IntKind.u64 0)):=by kernel_rfl
theorem K5:aY Try.prog 167=some 1:=by kernel_rfl
theorem K6:bv Try.prog 167=some 8:=by kernel_rfl
theorem K7:aD Try.prog 167=some false:=by kernel_rfl
theorem K8:av Try.prog 167=some [.x (Value.pointer none)]:=by kernel_rfl
theorem K9:az Try.prog 167=some (.x (Value.pointer none)):=by kernel_rfl
theorem La:aY Try.prog 169=some 1:=by kernel_rfl
theorem Lb:bv Try.prog 169=some 8:=by kernel_rfl
theorem Lc:aD Try.prog 169=some false:=by kernel_rfl
theorem Ld:av Try.prog 169=some [.x (Value.int IntKind.u64 0)]:=by kernel_rfl
theorem Lf:az Try.prog 169=some (.x (Value.int IntKind.u64 0)):=by kernel_rfl
theorem Lg:aY Try.prog 172=some 1:=by kernel_rfl
theorem Lh:bv Try.prog 172=some 8:=by kernel_rfl
theorem Li:aD Try.prog 172=some false:=by kernel_rfl
theorem Lj:av Try.prog 172=some [.x (Value.pointer none)]:=by kernel_rfl
theorem Lk:az Try.prog 172=some (.x (Value.pointer none)):=by kernel_rfl
theorem Ll:aY Try.prog 173=some 1:=by kernel_rfl
theorem Lm:bv Try.prog 173=some 0:=by kernel_rfl
theorem Ln:aD Try.prog 173=some false:=by kernel_rfl
theorem Lo:av Try.prog 173=some [.x (Value.tuple #[Value.int IntKind.i64 0,Value.int IntKind.i64 0])]:=by kernel_rfl
theorem Lp:az Try.prog 173=some (.x (Value.tuple #[Value.int IntKind.i64 0,Value.int IntKind.i64 0])):=by kernel_rfl
theorem Lq:aY Try.prog 176=some 1:=by kernel_rfl
theorem Lr:bv Try.prog 176=some 8:=by kernel_rfl
theorem Lt:aD Try.prog 176=some false:=by kernel_rfl
theorem Lu:av Try.prog 176=some [.x (Value.pointer none)]:=by kernel_rfl
theorem Lw:az Try.prog 176=some (.x (Value.pointer none)):=by kernel_rfl
theorem Lx:aY Try.prog 181=some 0:=by kernel_rfl
theorem Ly:bv Try.prog 181=some 0:=by kernel_rfl
theorem Lz:aD Try.prog 181=some true:=by kernel_rfl
theorem LA:av Try.prog 181=some []:=by kernel_rfl
theorem LB:az Try.prog 181=some (.agg []):=by kernel_rfl
theorem LC:aY Try.prog 182=some 0:=by kernel_rfl
theorem LD:bv Try.prog 182=some 0:=by kernel_rfl
theorem LE:aD Try.prog 182=some true:=by kernel_rfl
theorem LF:av Try.prog 182=some []:=by kernel_rfl
theorem LG:az Try.prog 182=some (.agg []):=by kernel_rfl
theorem LH:aY Try.prog 183=some 0:=by kernel_rfl
theorem LI:bv Try.prog 183=some 0:=by kernel_rfl
theorem LJ:aD Try.prog 183=some true:=by kernel_rfl
theorem LK:av Try.prog 183=some []:=by kernel_rfl
theorem LL:az Try.prog 183=some (.agg []):=by kernel_rfl
theorem LM:aY Try.prog 184=some 1:=by kernel_rfl
theorem LN:bv Try.prog 184=some 1:=by kernel_rfl
theorem LO:aD Try.prog 184=some false:=by kernel_rfl
theorem LP:av Try.prog 184=some [.x (Value.int IntKind.u8 0)]:=by kernel_rfl
theorem LQ:az Try.prog 184=some (.x (Value.int IntKind.u8 0)):=by kernel_rfl
theorem LR:aY Try.prog 185=some 1:=by kernel_rfl
theorem LS:bv Try.prog 185=some 1:=by kernel_rfl
theorem LT:aD Try.prog 185=some false:=by kernel_rfl
theorem LU:av Try.prog 185=some [.x (Value.int IntKind.u8 0)]:=by kernel_rfl
theorem LV:az Try.prog 185=some (.x (Value.int IntKind.u8 0)):=by kernel_rfl
theorem LW:aY Try.prog 186=some 1:=by kernel_rfl
theorem LX:bv Try.prog 186=some 8:=by kernel_rfl
theorem LY:aD Try.prog 186=some false:=by kernel_rfl
theorem LZ:aY Try.prog 187=some 1:=by kernel_rfl
theorem L0:bv Try.prog 187=some 4:=by kernel_rfl
theorem L1:aD Try.prog 187=some false:=by kernel_rfl
theorem L2:av Try.prog 187=some [.x (Value.int IntKind.i32 0)]:=by kernel_rfl
theorem L3:az Try.prog 187=some (.x (Value.int IntKind.i32 0)):=by kernel_rfl
theorem L4:aY Try.prog 188=some 1:=by kernel_rfl
theorem L5:bv Try.prog 188=some 4:=by kernel_rfl
theorem L6:aD Try.prog 188=some false:=by kernel_rfl
theorem L7:av Try.prog 188=some [.x (Value.int IntKind.i32 0)]:=by kernel_rfl
theorem L8:az Try.prog 188=some (.x (Value.int IntKind.i32 0)):=by kernel_rfl
theorem L9:aY Try.prog 189=some 11:=by kernel_rfl
theorem Ma:bv Try.prog 189=some 48:=by kernel_rfl
theorem Mb:aD Try.prog 189=some true:=by kernel_rfl
theorem Mc:av Try.prog 189=some [.x (Value.int IntKind.u64 0),.x (Value.int IntKind.u64 0),.x (Value.int IntKind.u32 0),.x (Value.int IntKind.u8 0),.x (Value.int IntKind.u8 0),.x (Value.int IntKind.u8 0),.x (Value.int IntKind.u8 0),.x (Value.nilFunc),.x (Value.pointer none),.x (Value.int IntKind.i32 0),.x (Value.int IntKind.i32 0)]:=by kernel_rfl
theorem Md:az Try.prog 189=some (.agg [.x (Value.int IntKind.u64 0),.x (Value.int IntKind.u64 0),.x (Value.int IntKind.u32 0),.x (Value.int IntKind.u8 0),.x (Value.int IntKind.u8 0),.x (Value.int IntKind.u8 0),.x (Value.int IntKind.u8 0),.x (Value.nilFunc),.x (Value.pointer none),.x (Value.int IntKind.i32 0),.x (Value.int IntKind.i32 0)]):=by kernel_rfl
theorem Me:aY Try.prog 190=some 11:=by kernel_rfl
theorem Mf:bv Try.prog 190=some 48:=by kernel_rfl
theorem Mg:aD Try.prog 190=some true:=by kernel_rfl
theorem Mh:av Try.prog 190=some [.x (Value.int IntKind.u64 0),.x (Value.int IntKind.u64 0),.x (Value.int IntKind.u32 0),.x (Value.int IntKind.u8 0),.x (Value.int IntKind.u8 0),.x (Value.int IntKind.u8 0),.x (Value.int IntKind.u8 0),.x (Value.nilFunc),.x (Value.pointer none),.x (Value.int IntKind.i32 0),.x (Value.int IntKind.i32 0)]:=by kernel_rfl
theorem Mi:az Try.prog 190=some (.agg [.x (Value.int IntKind.u64 0),.x (Value.int IntKind.u64 0),.x (Value.int IntKind.u32 0),.x (Value.int IntKind.u8 0),.x (Value.int IntKind.u8 0),.x (Value.int IntKind.u8 0),.x (Value.int IntKind.u8 0),.x (Value.nilFunc),.x (Value.pointer none),.x (Value.int IntKind.i32 0),.x (Value.int IntKind.i32 0)]):=by kernel_rfl
attribute [go_sem] fv R9 I2 Sd sz2 Sf ID I3 Sk Sl Sp Sq Sv Sw SA SB SF SG SK SL NI NJ NN NO NS NT NX NY N3 N4 N6 N7 Ob Od Oj Ol On Oo Ot Ou Oy Oz OD OE yd ye OK OL OP OQ GW GX OW OX O6 Pa Pe Pf Pj Pk Pq Ps Pw Px PB PC PH PJ PM PN PS PT PX PY P4 P5 P9 Qa Qe Qf Qj Qk Qo Qp Qs Qt Qx Qy QA QB QD QE QI QJ QN QO QT QU QY QZ Q1 Q2 Q4 Q5 Q9 Ra Rf Rg Ri Rj Rl Rm Rq Rr Rw Ry RA RB RD RE I5 I6 I8 I9 Jd Je Ji Jj Jn Jo Js Jt Jv Jw JB JC JH JI JN JO JQ JR JV JW J0 J2 J4 J5 J7 J8 Ka Kb Kd Ke Kg Kh Kj Kk Kp Kq Ku Kv Kz KA KE KF KJ KK KO KP KT KU K0 K1 K5 K6 La Lb Lg Lh Ll Lm Lq Lr Lx Ly LC LD LH LI LM LN LR LS LW LX LZ L0 L4 L5 L9 Ma Me Mf Sa Se Sg Sj Sm Sr Sx SC SH SM NK NP NU NZ N5 N8 Oe Om Oq Ov OA OF OI OM OR OU OY Pb Pg Pn Pt Py PE PK PO PU PZ P6 Qb Qg Ql Qq Qu Qz QC QF QK QP QV Q0 Q3 Q6 Rb Rh Rk Rn Rt Rz RC RF I7 Ja Jf Jk Jp Ju Jy JD JJ JP JS JX J3 J6 J9 Kc Kf Ki Kl Kr Kw KB KG KL KQ KX K2 K7 Lc Li Ln Lt Lz LE LJ LO LT LY L1 L6 Mb Mg Sb Sc Sh Si I4 NH Sn So Ss Su Sy Sz SD SE SI SJ SN SO NL NM NQ NR NV NW N0 N2 N9 Oa Og Oh Ow Ox OB OC OG OH yf OJ ON OO OS OT GY OV OZ O0 Pc Pd Ph Pi Po Pp Pu Pv Pz PA PF PG PP PQ PV PW P0 P3 P7 P8 Qc Qd Qh Qi Qm Qn Qr GZ Qv Qw QG QH QL QM QQ QR QW QX Q7 Q8 Rc Re Ro Rp Ru Rv Jb Jc Jg Jh Jl Jm Jq Jr Jz JA JE JG JK JM JT JU JY JZ Km Ko Ks Kt Kx Ky KC KD KH KI KM KN KR KS KY KZ K3 K4 K8 K9 Ld Lf Lj Lk Lo Lp Lu Lw LA LB LF LG LK LL LP LQ LU LV L2 L3 L7 L8 Mc Md Mh Mi Try.underlying0 Try.underlying1 Try.underlying2 Try.underlying3 Try.underlying4 Try.underlying5 Try.underlying6 Try.underlying7 Try.eqGuardType7 Try.stoodInHeld7 Try.underlying8 Try.eqGuardType8 Try.stoodInHeld8 Try.underlying9 Try.underlying10 Try.underlying12 Try.underlying16 Try.underlying17 Try.underlying20 Try.underlying21 Try.underlying22 Try.underlying23 Try.underlying24 Try.underlying25 Try.underlying27 Try.underlying31 Try.eqGuardType31 Try.stoodInHeld31 Try.underlying32 Try.eqGuardType32 Try.stoodInHeld32 Try.underlying33 Try.eqGuardType33 Try.stoodInHeld33 Try.underlying34 Try.eqGuardType34 Try.stoodInHeld34 Try.underlying35 Try.underlying36 Try.eqGuardType36 Try.stoodInHeld36 Try.underlying37 Try.eqGuardType37 Try.stoodInHeld37 Try.underlying38 Try.eqGuardType38 Try.stoodInHeld38 Try.underlying39 Try.eqGuardType39 Try.stoodInHeld39 Try.underlying40 Try.underlying42 Try.eqGuardType42 Try.stoodInHeld42 Try.underlying43 Try.eqGuardType43 Try.stoodInHeld43 Try.underlying44 Try.underlying46 Try.underlying49 Try.underlying50 Try.eqGuardType50 Try.stoodInHeld50 Try.underlying51 Try.eqGuardType51 Try.stoodInHeld51 Try.underlying52 Try.underlying56 Try.underlying59 Try.underlying60 Try.eqGuardType60 Try.stoodInHeld60 Try.underlying61 Try.underlying63 Try.underlying64 Try.underlying72 Try.underlying73 Try.underlying74 Try.eqGuardType74 Try.stoodInHeld74 Try.underlying75 Try.eqGuardType75 Try.stoodInHeld75 Try.underlying77 Try.underlying83 Try.underlying85 Try.underlying86 Try.underlying87 Try.underlying88 Try.underlying90 Try.eqGuardType90 Try.stoodInHeld90 Try.underlying91 Try.eqGuardType91 Try.stoodInHeld91 Try.underlying94 Try.underlying95 Try.underlying98 Try.underlying104 Try.underlying107 Try.underlying108 Try.underlying109 Try.eqGuardType109 Try.stoodInHeld109 Try.underlying110 Try.eqGuardType110 Try.stoodInHeld110 Try.underlying112 Try.underlying115 Try.underlying117 Try.eqGuardType117 Try.stoodInHeld117 Try.underlying118 Try.eqGuardType118 Try.stoodInHeld118 Try.underlying122 Try.underlying123 Try.underlying124 Try.underlying128 Try.underlying132 Try.underlying133 Try.underlying134 Try.underlying136 Try.underlying137 Try.underlying143 Try.underlying145 Try.underlying147 Try.underlying148 Try.underlying154 Try.underlying155 Try.underlying157 Try.underlying158 Try.underlying163 Try.underlying167 Try.underlying169 Try.underlying172 Try.underlying173 Try.underlying176 Try.underlying181 Try.eqGuardType181 Try.underlying182 Try.eqGuardType182 Try.stoodInHeld182 Try.underlying183 Try.eqGuardType183 Try.stoodInHeld183 Try.underlying184 Try.underlying185 Try.underlying186 Try.underlying187 Try.underlying188 Try.underlying189 Try.eqGuardType189 Try.stoodInHeld189 Try.underlying190 Try.eqGuardType190 Try.stoodInHeld190
end Go.Proofs.Ytalkmhjanlljhaa
