/- What the run over plain data asks of each type of this seat's program, by program. -/
import Derived.Test.YtldnpcolhdnkdaaMPB
import Derived.Test.YtldnpcolhdnkdaaProg
import Derived.KernelRfl
namespace Go.Proofs.Ytldnpcolhdnkdaa
set_option linter.unusedSimpArgs false
open Go Go.RowKit
theorem fh:bg Try.prog 0=some 1:=by kernel_rfl
theorem ON:cQ Try.prog 0=some 0:=by kernel_rfl
theorem OO:aW Try.prog 0=some false:=by kernel_rfl
theorem OP:aE Try.prog 0=some [.x (Value.tuple #[])]:=by kernel_rfl
theorem OQ:aL Try.prog 0=some (.x (Value.tuple #[])):=by kernel_rfl
theorem IR:bg Try.prog 1=some 1:=by kernel_rfl
theorem OR:cQ Try.prog 1=some 8:=by kernel_rfl
theorem OS:aW Try.prog 1=some false:=by kernel_rfl
theorem OJ:bg Try.prog 2=some 1:=by kernel_rfl
theorem OT:cQ Try.prog 2=some 8:=by kernel_rfl
theorem OU:aW Try.prog 2=some false:=by kernel_rfl
theorem OV:aE Try.prog 2=some [.x (Value.int IntKind.i64 0)]:=by kernel_rfl
theorem OW:aL Try.prog 2=some (.x (Value.int IntKind.i64 0)):=by kernel_rfl
theorem OX:bg Try.prog 3=some 1:=by kernel_rfl
theorem OY:cQ Try.prog 3=some 8:=by kernel_rfl
theorem OZ:aW Try.prog 3=some false:=by kernel_rfl
theorem O0:aE Try.prog 3=some [.x (Value.int IntKind.i64 0)]:=by kernel_rfl
theorem OK:aL Try.prog 3=some (.x (Value.int IntKind.i64 0)):=by kernel_rfl
theorem O3:bg Try.prog 4=some 1:=by kernel_rfl
theorem O4:cQ Try.prog 4=some 1:=by kernel_rfl
theorem O5:aW Try.prog 4=some false:=by kernel_rfl
theorem O6:aE Try.prog 4=some [.x (Value.bool false)]:=by kernel_rfl
theorem O7:aL Try.prog 4=some (.x (Value.bool false)):=by kernel_rfl
theorem O8:bg Try.prog 5=some 1:=by kernel_rfl
theorem O9:cQ Try.prog 5=some 1:=by kernel_rfl
theorem Pa:aW Try.prog 5=some false:=by kernel_rfl
theorem Pb:aE Try.prog 5=some [.x (Value.int IntKind.u8 0)]:=by kernel_rfl
theorem Pc:aL Try.prog 5=some (.x (Value.int IntKind.u8 0)):=by kernel_rfl
theorem Pd:bg Try.prog 6=some 1:=by kernel_rfl
theorem Pe:cQ Try.prog 6=some 1:=by kernel_rfl
theorem Pf:aW Try.prog 6=some false:=by kernel_rfl
theorem Pg:aE Try.prog 6=some [.x (Value.int IntKind.u8 0)]:=by kernel_rfl
theorem Ph:aL Try.prog 6=some (.x (Value.int IntKind.u8 0)):=by kernel_rfl
theorem Pi:bg Try.prog 7=some 4:=by kernel_rfl
theorem Pj:cQ Try.prog 7=some 24:=by kernel_rfl
theorem Pk:aW Try.prog 7=some true:=by kernel_rfl
theorem Pn:aE Try.prog 7=some [.x (Value.int IntKind.i64 0),.x (Value.int IntKind.i64 0),.x (Value.bool false),.x (Value.int IntKind.u8 0)]:=by kernel_rfl
theorem Po:aL Try.prog 7=some (.agg [.x (Value.int IntKind.i64 0),.x (Value.int IntKind.i64 0),.x (Value.bool false),.x (Value.int IntKind.u8 0)]):=by kernel_rfl
theorem Pp:bg Try.prog 8=some 4:=by kernel_rfl
theorem Pq:cQ Try.prog 8=some 24:=by kernel_rfl
theorem Ps:aW Try.prog 8=some true:=by kernel_rfl
theorem Pt:aE Try.prog 8=some [.x (Value.int IntKind.i64 0),.x (Value.int IntKind.i64 0),.x (Value.bool false),.x (Value.int IntKind.u8 0)]:=by kernel_rfl
theorem Pu:aL Try.prog 8=some (.agg [.x (Value.int IntKind.i64 0),.x (Value.int IntKind.i64 0),.x (Value.bool false),.x (Value.int IntKind.u8 0)]):=by kernel_rfl
theorem Pv:bg Try.prog 9=some 1:=by kernel_rfl
theorem Pw:cQ Try.prog 9=some 16:=by kernel_rfl
theorem Px:aW Try.prog 9=some false:=by kernel_rfl
theorem Py:aE Try.prog 9=some [.x (Value.string ⟨#[]⟩)]:=by kernel_rfl
theorem Pz:aL Try.prog 9=some (.x (Value.string ⟨#[]⟩)):=by kernel_rfl
theorem KQ:bg Try.prog 10=some 1:=by kernel_rfl
theorem KR:cQ Try.prog 10=some 16:=by kernel_rfl
theorem KT:aW Try.prog 10=some false:=by kernel_rfl
theorem KU:aE Try.prog 10=some [.x (Value.string ⟨#[]⟩)]:=by kernel_rfl
theorem KV:aL Try.prog 10=some (.x (Value.string ⟨#[]⟩)):=by kernel_rfl
theorem KW:bg Try.prog 12=some 1:=by kernel_rfl
theorem KX:cQ Try.prog 12=some 8:=by kernel_rfl
theorem KY:aW Try.prog 12=some false:=by kernel_rfl
theorem KZ:aE Try.prog 12=some [.x (Value.int IntKind.u64 0)]:=by kernel_rfl
theorem K0:aL Try.prog 12=some (.x (Value.int IntKind.u64 0)):=by kernel_rfl
theorem K1:bg Try.prog 16=some 1:=by kernel_rfl
theorem K2:cQ Try.prog 16=some 8:=by kernel_rfl
theorem K3:aW Try.prog 16=some false:=by kernel_rfl
theorem K4:aE Try.prog 16=some [.x (Value.pointer none)]:=by kernel_rfl
theorem K5:aL Try.prog 16=some (.x (Value.pointer none)):=by kernel_rfl
theorem K6:bg Try.prog 17=some 1:=by kernel_rfl
theorem K7:cQ Try.prog 17=some 8:=by kernel_rfl
theorem K8:aW Try.prog 17=some false:=by kernel_rfl
theorem K9:aE Try.prog 17=some [.x (Value.pointer none)]:=by kernel_rfl
theorem La:aL Try.prog 17=some (.x (Value.pointer none)):=by kernel_rfl
theorem Lb:bg Try.prog 20=some 1:=by kernel_rfl
theorem Lc:cQ Try.prog 20=some 16:=by kernel_rfl
theorem Ld:aW Try.prog 20=some false:=by kernel_rfl
theorem Lf:bg Try.prog 21=some 1:=by kernel_rfl
theorem Lg:cQ Try.prog 21=some 4:=by kernel_rfl
theorem Lh:aW Try.prog 21=some false:=by kernel_rfl
theorem Li:aE Try.prog 21=some [.x (Value.int IntKind.i32 0)]:=by kernel_rfl
theorem Lj:aL Try.prog 21=some (.x (Value.int IntKind.i32 0)):=by kernel_rfl
theorem Lk:bg Try.prog 22=some 1:=by kernel_rfl
theorem Ll:cQ Try.prog 22=some 24:=by kernel_rfl
theorem Lm:aW Try.prog 22=some false:=by kernel_rfl
theorem Ln:aE Try.prog 22=some [.sl true 0 [] none]:=by kernel_rfl
theorem Lo:aL Try.prog 22=some (.sl true 0 [] none):=by kernel_rfl
theorem Lp:bg Try.prog 23=some 1:=by kernel_rfl
theorem Lq:cQ Try.prog 23=some 8:=by kernel_rfl
theorem Lr:aW Try.prog 23=some false:=by kernel_rfl
theorem Lt:bg Try.prog 24=some 1:=by kernel_rfl
theorem Lu:cQ Try.prog 24=some 8:=by kernel_rfl
theorem Lw:aW Try.prog 24=some false:=by kernel_rfl
theorem Lx:bg Try.prog 25=some 1:=by kernel_rfl
theorem Ly:cQ Try.prog 25=some 24:=by kernel_rfl
theorem Lz:aW Try.prog 25=some false:=by kernel_rfl
theorem LA:aE Try.prog 25=some [.sl true 0 [] none]:=by kernel_rfl
theorem LB:aL Try.prog 25=some (.sl true 0 [] none):=by kernel_rfl
theorem GD:bg Try.prog 26=some 1:=by kernel_rfl
theorem GE:cQ Try.prog 26=some 24:=by kernel_rfl
theorem LC:aW Try.prog 26=some false:=by kernel_rfl
theorem GF:aE Try.prog 26=some [.sl true 0 [] none]:=by kernel_rfl
theorem LD:aL Try.prog 26=some (.sl true 0 [] none):=by kernel_rfl
theorem LE:bg Try.prog 28=some 1:=by kernel_rfl
theorem LF:cQ Try.prog 28=some 24:=by kernel_rfl
theorem LG:aW Try.prog 28=some false:=by kernel_rfl
theorem LH:aE Try.prog 28=some [.sl true 0 [] none]:=by kernel_rfl
theorem LI:aL Try.prog 28=some (.sl true 0 [] none):=by kernel_rfl
theorem LJ:bg Try.prog 31=some 3:=by kernel_rfl
theorem LK:cQ Try.prog 31=some 24:=by kernel_rfl
theorem LL:aW Try.prog 31=some true:=by kernel_rfl
theorem LM:aE Try.prog 31=some [.x (Value.int IntKind.i64 0),.x (Value.int IntKind.i64 0),.x (Value.int IntKind.i64 0)]:=by kernel_rfl
theorem LN:aL Try.prog 31=some (.agg [.x (Value.int IntKind.i64 0),.x (Value.int IntKind.i64 0),.x (Value.int IntKind.i64 0)]):=by kernel_rfl
theorem IS:bg Try.prog 32=some 3:=by kernel_rfl
theorem IT:cQ Try.prog 32=some 24:=by kernel_rfl
theorem LO:aW Try.prog 32=some true:=by kernel_rfl
theorem IU:aE Try.prog 32=some [.x (Value.int IntKind.i64 0),.x (Value.int IntKind.i64 0),.x (Value.int IntKind.i64 0)]:=by kernel_rfl
theorem LP:aL Try.prog 32=some (.agg [.x (Value.int IntKind.i64 0),.x (Value.int IntKind.i64 0),.x (Value.int IntKind.i64 0)]):=by kernel_rfl
theorem LQ:bg Try.prog 33=some 4:=by kernel_rfl
theorem LR:cQ Try.prog 33=some 32:=by kernel_rfl
theorem LS:aW Try.prog 33=some true:=by kernel_rfl
theorem LT:aE Try.prog 33=some [.x (Value.int IntKind.i64 0),.x (Value.int IntKind.i64 0),.x (Value.int IntKind.i64 0),.x (Value.int IntKind.i64 0)]:=by kernel_rfl
theorem LU:aL Try.prog 33=some (.agg [.x (Value.int IntKind.i64 0),.x (Value.int IntKind.i64 0),.x (Value.int IntKind.i64 0),.x (Value.int IntKind.i64 0)]):=by kernel_rfl
theorem IV:bg Try.prog 34=some 4:=by kernel_rfl
theorem IW:cQ Try.prog 34=some 32:=by kernel_rfl
theorem LV:aW Try.prog 34=some true:=by kernel_rfl
theorem IX:aE Try.prog 34=some [.x (Value.int IntKind.i64 0),.x (Value.int IntKind.i64 0),.x (Value.int IntKind.i64 0),.x (Value.int IntKind.i64 0)]:=by kernel_rfl
theorem LW:aL Try.prog 34=some (.agg [.x (Value.int IntKind.i64 0),.x (Value.int IntKind.i64 0),.x (Value.int IntKind.i64 0),.x (Value.int IntKind.i64 0)]):=by kernel_rfl
theorem LX:bg Try.prog 35=some 4:=by kernel_rfl
theorem LY:cQ Try.prog 35=some 32:=by kernel_rfl
theorem LZ:aW Try.prog 35=some true:=by kernel_rfl
theorem L0:aE Try.prog 35=some [.x (Value.int IntKind.i64 0),.x (Value.int IntKind.i64 0),.x (Value.int IntKind.i64 0),.x (Value.int IntKind.i64 0)]:=by kernel_rfl
theorem L1:aL Try.prog 35=some (.agg [.x (Value.int IntKind.i64 0),.x (Value.int IntKind.i64 0),.x (Value.int IntKind.i64 0),.x (Value.int IntKind.i64 0)]):=by kernel_rfl
theorem L2:bg Try.prog 36=some 1:=by kernel_rfl
theorem L3:cQ Try.prog 36=some 24:=by kernel_rfl
theorem L4:aW Try.prog 36=some false:=by kernel_rfl
theorem L5:aE Try.prog 36=some [.sl true 0 [] none]:=by kernel_rfl
theorem L6:aL Try.prog 36=some (.sl true 0 [] none):=by kernel_rfl
theorem L7:bg Try.prog 37=some 1:=by kernel_rfl
theorem L8:cQ Try.prog 37=some 8:=by kernel_rfl
theorem L9:aW Try.prog 37=some false:=by kernel_rfl
theorem Ma:aE Try.prog 37=some [.x (Value.pointer none)]:=by kernel_rfl
theorem Mb:aL Try.prog 37=some (.x (Value.pointer none)):=by kernel_rfl
theorem Mc:bg Try.prog 38=some 1:=by kernel_rfl
theorem Md:cQ Try.prog 38=some 8:=by kernel_rfl
theorem Me:aW Try.prog 38=some false:=by kernel_rfl
theorem Mf:aE Try.prog 38=some [.x (Value.map none)]:=by kernel_rfl
theorem Mg:aL Try.prog 38=some (.x (Value.map none)):=by kernel_rfl
theorem Mh:bg Try.prog 39=some 1:=by kernel_rfl
theorem Mi:cQ Try.prog 39=some 8:=by kernel_rfl
theorem Mj:aW Try.prog 39=some true:=by kernel_rfl
theorem Mk:aE Try.prog 39=some [.x (Value.map none)]:=by kernel_rfl
theorem Ml:aL Try.prog 39=some (.agg [.x (Value.map none)]):=by kernel_rfl
theorem Mm:bg Try.prog 40=some 1:=by kernel_rfl
theorem Mn:cQ Try.prog 40=some 8:=by kernel_rfl
theorem Mo:aW Try.prog 40=some true:=by kernel_rfl
theorem Mp:aE Try.prog 40=some [.x (Value.map none)]:=by kernel_rfl
theorem Mq:aL Try.prog 40=some (.agg [.x (Value.map none)]):=by kernel_rfl
theorem Mr:bg Try.prog 41=some 1:=by kernel_rfl
theorem Ms:cQ Try.prog 41=some 24:=by kernel_rfl
theorem Mt:aW Try.prog 41=some false:=by kernel_rfl
theorem Mu:aE Try.prog 41=some [.sl true 0 [] none]:=by kernel_rfl
theorem Mv:aL Try.prog 41=some (.sl true 0 [] none):=by kernel_rfl
theorem Mw:bg Try.prog 43=some 1:=by kernel_rfl
theorem Mx:cQ Try.prog 43=some 24:=by kernel_rfl
theorem My:aW Try.prog 43=some false:=by kernel_rfl
theorem Mz:aE Try.prog 43=some [.sl true 0 [] none]:=by kernel_rfl
theorem MA:aL Try.prog 43=some (.sl true 0 [] none):=by kernel_rfl
theorem MC:bg Try.prog 44=some 1:=by kernel_rfl
theorem MD:cQ Try.prog 44=some 8:=by kernel_rfl
theorem ME:aW Try.prog 44=some false:=by kernel_rfl
theorem MF:bg Try.prog 45=some 1:=by kernel_rfl
theorem MG:cQ Try.prog 45=some 8:=by kernel_rfl
theorem MH:aW Try.prog 45=some false:=by kernel_rfl
theorem MI:bg Try.prog 50=some 1:=by kernel_rfl
theorem MJ:cQ Try.prog 50=some 8:=by kernel_rfl
theorem MK:aW Try.prog 50=some false:=by kernel_rfl
theorem ML:bg Try.prog 51=some 1:=by kernel_rfl
theorem MM:cQ Try.prog 51=some 8:=by kernel_rfl
theorem MN:aW Try.prog 51=some false:=by kernel_rfl
theorem MO:aE Try.prog 51=some [.x (Value.pointer none)]:=by kernel_rfl
theorem MP:aL Try.prog 51=some (.x (Value.pointer none)):=by kernel_rfl
theorem MQ:bg Try.prog 52=some 1:=by kernel_rfl
theorem MR:cQ Try.prog 52=some 24:=by kernel_rfl
theorem MS:aW Try.prog 52=some true:=by kernel_rfl
theorem MT:aE Try.prog 52=some [.sl true 0 [] none]:=by kernel_rfl
theorem MU:aL Try.prog 52=some (.agg [.sl true 0 [] none]):=by kernel_rfl
theorem MV:bg Try.prog 53=some 1:=by kernel_rfl
theorem MW:cQ Try.prog 53=some 24:=by kernel_rfl
theorem MX:aW Try.prog 53=some true:=by kernel_rfl
theorem MY:aE Try.prog 53=some [.sl true 0 [] none]:=by kernel_rfl
theorem MZ:aL Try.prog 53=some (.agg [.sl true 0 [] none]):=by kernel_rfl
theorem M0:bg Try.prog 56=some 1:=by kernel_rfl
theorem M1:cQ Try.prog 56=some 8:=by kernel_rfl
theorem M2:aW Try.prog 56=some false:=by kernel_rfl
theorem M3:aE Try.prog 56=some [.x (Value.pointer none)]:=by kernel_rfl
theorem M4:aL Try.prog 56=some (.x (Value.pointer none)):=by kernel_rfl
theorem M5:bg Try.prog 57=some 1:=by kernel_rfl
theorem M6:cQ Try.prog 57=some 8:=by kernel_rfl
theorem M7:aW Try.prog 57=some false:=by kernel_rfl
theorem M8:aE Try.prog 57=some [.x (Value.int IntKind.u64 0)]:=by kernel_rfl
theorem M9:aL Try.prog 57=some (.x (Value.int IntKind.u64 0)):=by kernel_rfl
theorem Na:bg Try.prog 58=some 3:=by kernel_rfl
theorem Nb:cQ Try.prog 58=some 24:=by kernel_rfl
theorem Nc:aW Try.prog 58=some true:=by kernel_rfl
theorem Nf:aE Try.prog 58=some [.x (Value.pointer none),.x (Value.pointer none),.x (Value.int IntKind.u64 0)]:=by kernel_rfl
theorem Ng:aL Try.prog 58=some (.agg [.x (Value.pointer none),.x (Value.pointer none),.x (Value.int IntKind.u64 0)]):=by kernel_rfl
theorem Nh:bg Try.prog 59=some 3:=by kernel_rfl
theorem Ni:cQ Try.prog 59=some 24:=by kernel_rfl
theorem Nj:aW Try.prog 59=some true:=by kernel_rfl
theorem Nk:aE Try.prog 59=some [.x (Value.pointer none),.x (Value.pointer none),.x (Value.int IntKind.u64 0)]:=by kernel_rfl
theorem Nl:aL Try.prog 59=some (.agg [.x (Value.pointer none),.x (Value.pointer none),.x (Value.int IntKind.u64 0)]):=by kernel_rfl
theorem Nm:bg Try.prog 61=some 1:=by kernel_rfl
theorem Nn:cQ Try.prog 61=some 8:=by kernel_rfl
theorem No:aW Try.prog 61=some false:=by kernel_rfl
theorem Np:bg Try.prog 65=some 1:=by kernel_rfl
theorem Nq:cQ Try.prog 65=some 8:=by kernel_rfl
theorem Nr:aW Try.prog 65=some false:=by kernel_rfl
theorem Ns:aE Try.prog 65=some [.x (Value.int IntKind.u64 0)]:=by kernel_rfl
theorem Nt:aL Try.prog 65=some (.x (Value.int IntKind.u64 0)):=by kernel_rfl
theorem Nu:bg Try.prog 67=some 2:=by kernel_rfl
theorem Nv:cQ Try.prog 67=some 16:=by kernel_rfl
theorem Nw:aW Try.prog 67=some true:=by kernel_rfl
theorem Nx:aE Try.prog 67=some [.x (Value.nilFunc),.x (Value.nilFunc)]:=by kernel_rfl
theorem Ny:aL Try.prog 67=some (.agg [.x (Value.nilFunc),.x (Value.nilFunc)]):=by kernel_rfl
theorem Nz:bg Try.prog 68=some 2:=by kernel_rfl
theorem NA:cQ Try.prog 68=some 16:=by kernel_rfl
theorem NB:aW Try.prog 68=some true:=by kernel_rfl
theorem NC:aE Try.prog 68=some [.x (Value.nilFunc),.x (Value.nilFunc)]:=by kernel_rfl
theorem ND:aL Try.prog 68=some (.agg [.x (Value.nilFunc),.x (Value.nilFunc)]):=by kernel_rfl
theorem NE:bg Try.prog 76=some 1:=by kernel_rfl
theorem NF:cQ Try.prog 76=some 4:=by kernel_rfl
theorem NG:aW Try.prog 76=some false:=by kernel_rfl
theorem NH:aE Try.prog 76=some [.x (Value.int IntKind.u32 0)]:=by kernel_rfl
theorem NI:aL Try.prog 76=some (.x (Value.int IntKind.u32 0)):=by kernel_rfl
theorem NJ:bg Try.prog 78=some 1:=by kernel_rfl
theorem NK:cQ Try.prog 78=some 8:=by kernel_rfl
theorem NL:aW Try.prog 78=some false:=by kernel_rfl
theorem NM:aE Try.prog 78=some [.x (Value.int IntKind.u64 0)]:=by kernel_rfl
theorem NN:aL Try.prog 78=some (.x (Value.int IntKind.u64 0)):=by kernel_rfl
theorem NO:bg Try.prog 80=some 1:=by kernel_rfl
theorem NP:cQ Try.prog 80=some 8:=by kernel_rfl
theorem NQ:aW Try.prog 80=some false:=by kernel_rfl
theorem NR:aE Try.prog 80=some [.x (Value.int IntKind.i64 0)]:=by kernel_rfl
theorem NS:aL Try.prog 80=some (.x (Value.int IntKind.i64 0)):=by kernel_rfl
theorem NT:bg Try.prog 81=some 1:=by kernel_rfl
theorem NU:cQ Try.prog 81=some 0:=by kernel_rfl
theorem NV:aW Try.prog 81=some false:=by kernel_rfl
theorem NW:aE Try.prog 81=some [.x (Value.tuple #[Value.int IntKind.i64 0,Value.int IntKind.i64 0])]:=by kernel_rfl
theorem NX:aL Try.prog 81=some (.x (Value.tuple #[Value.int IntKind.i64 0,Value.int IntKind.i64 0])):=by kernel_rfl
theorem NY:bg Try.prog 85=some 1:=by kernel_rfl
theorem NZ:cQ Try.prog 85=some 0:=by kernel_rfl
theorem N0:aW Try.prog 85=some false:=by kernel_rfl
theorem N2:aE Try.prog 85=some [.x (Value.tuple #[Value.int IntKind.i64 0,Value.bool false])]:=by kernel_rfl
theorem N3:aL Try.prog 85=some (.x (Value.tuple #[Value.int IntKind.i64 0,Value.bool false])):=by kernel_rfl
theorem N4:bg Try.prog 88=some 1:=by kernel_rfl
theorem N5:cQ Try.prog 88=some 8:=by kernel_rfl
theorem N6:aW Try.prog 88=some false:=by kernel_rfl
theorem N7:aE Try.prog 88=some [.x (Value.int IntKind.u64 0)]:=by kernel_rfl
theorem N8:aL Try.prog 88=some (.x (Value.int IntKind.u64 0)):=by kernel_rfl
theorem N9:bg Try.prog 92=some 1:=by kernel_rfl
theorem Oa:cQ Try.prog 92=some 8:=by kernel_rfl
theorem Ob:aW Try.prog 92=some false:=by kernel_rfl
theorem Oc:aE Try.prog 92=some [.x (Value.pointer none)]:=by kernel_rfl
theorem Od:aL Try.prog 92=some (.x (Value.pointer none)):=by kernel_rfl
theorem Oe:bg Try.prog 94=some 1:=by kernel_rfl
theorem Of:cQ Try.prog 94=some 8:=by kernel_rfl
theorem Og:aW Try.prog 94=some false:=by kernel_rfl
theorem Oh:aE Try.prog 94=some [.x (Value.pointer none)]:=by kernel_rfl
theorem Oj:aL Try.prog 94=some (.x (Value.pointer none)):=by kernel_rfl
theorem Ok:bg Try.prog 95=some 1:=by kernel_rfl
theorem Ol:cQ Try.prog 95=some 0:=by kernel_rfl
theorem Om:aW Try.prog 95=some false:=by kernel_rfl
theorem On:aE Try.prog 95=some [.x (Value.tuple #[Value.int IntKind.i64 0,Value.int IntKind.i64 0])]:=by kernel_rfl
theorem Oo:aL Try.prog 95=some (.x (Value.tuple #[Value.int IntKind.i64 0,Value.int IntKind.i64 0])):=by kernel_rfl
theorem IY:bg Try.prog 100=some 0:=by kernel_rfl
theorem IZ:cQ Try.prog 100=some 0:=by kernel_rfl
theorem I0:aW Try.prog 100=some true:=by kernel_rfl
theorem I1:aE Try.prog 100=some []:=by kernel_rfl
theorem I2:aL Try.prog 100=some (.agg []):=by kernel_rfl
theorem I3:bg Try.prog 101=some 0:=by kernel_rfl
theorem I4:cQ Try.prog 101=some 0:=by kernel_rfl
theorem I5:aW Try.prog 101=some true:=by kernel_rfl
theorem I6:aE Try.prog 101=some []:=by kernel_rfl
theorem I7:aL Try.prog 101=some (.agg []):=by kernel_rfl
theorem I8:bg Try.prog 102=some 0:=by kernel_rfl
theorem I9:cQ Try.prog 102=some 0:=by kernel_rfl
theorem Ja:aW Try.prog 102=some true:=by kernel_rfl
theorem Jb:aE Try.prog 102=some []:=by kernel_rfl
theorem Jc:aL Try.prog 102=some (.agg []):=by kernel_rfl
theorem Jd:bg Try.prog 103=some 1:=by kernel_rfl
theorem Je:cQ Try.prog 103=some 1:=by kernel_rfl
theorem Jf:aW Try.prog 103=some false:=by kernel_rfl
theorem Jg:aE Try.prog 103=some [.x (Value.int IntKind.u8 0)]:=by kernel_rfl
theorem Jh:aL Try.prog 103=some (.x (Value.int IntKind.u8 0)):=by kernel_rfl
theorem Ji:bg Try.prog 104=some 1:=by kernel_rfl
theorem Jj:cQ Try.prog 104=some 1:=by kernel_rfl
theorem Jk:aW Try.prog 104=some false:=by kernel_rfl
theorem Jl:aE Try.prog 104=some [.x (Value.int IntKind.u8 0)]:=by kernel_rfl
theorem Jm:aL Try.prog 104=some (.x (Value.int IntKind.u8 0)):=by kernel_rfl
theorem Jn:bg Try.prog 105=some 1:=by kernel_rfl
theorem Jo:cQ Try.prog 105=some 8:=by kernel_rfl
theorem Jp:aW Try.prog 105=some false:=by kernel_rfl
theorem Jq:bg Try.prog 106=some 1:=by kernel_rfl
theorem Jr:cQ Try.prog 106=some 8:=by kernel_rfl
theorem Js:aW Try.prog 106=some false:=by kernel_rfl
theorem Jt:aE Try.prog 106=some [.x (Value.pointer none)]:=by kernel_rfl
theorem Ju:aL Try.prog 106=some (.x (Value.pointer none)):=by kernel_rfl
theorem Jv:bg Try.prog 107=some 1:=by kernel_rfl
theorem Jw:cQ Try.prog 107=some 4:=by kernel_rfl
theorem Jy:aW Try.prog 107=some false:=by kernel_rfl
theorem Jz:aE Try.prog 107=some [.x (Value.int IntKind.i32 0)]:=by kernel_rfl
theorem JA:aL Try.prog 107=some (.x (Value.int IntKind.i32 0)):=by kernel_rfl
theorem JB:bg Try.prog 108=some 1:=by kernel_rfl
theorem JC:cQ Try.prog 108=some 4:=by kernel_rfl
theorem JD:aW Try.prog 108=some false:=by kernel_rfl
theorem JE:aE Try.prog 108=some [.x (Value.int IntKind.i32 0)]:=by kernel_rfl
theorem JG:aL Try.prog 108=some (.x (Value.int IntKind.i32 0)):=by kernel_rfl
theorem JH:bg Try.prog 109=some 11:=by kernel_rfl
theorem JI:cQ Try.prog 109=some 48:=by kernel_rfl
theorem JJ:aW Try.prog 109=some true:=by kernel_rfl
theorem JK:aE Try.prog 109=some [.x (Value.int IntKind.u64 0),.x (Value.int IntKind.u64 0),.x (Value.int IntKind.u32 0),.x (Value.int IntKind.u8 0),.x (Value.int IntKind.u8 0),.x (Value.int IntKind.u8 0),.x (Value.int IntKind.u8 0),.x (Value.nilFunc),.x (Value.pointer none),.x (Value.int IntKind.i32 0),.x (Value.int IntKind.i32 0)]:=by kernel_rfl
theorem JM:aL Try.prog 109=some (.agg [.x (Value.int IntKind.u64 0),.x (Value.int IntKind.u64 0),.x (Value.int IntKind.u32 0),.x (Value.int IntKind.u8 0),.x (Value.int IntKind.u8 0),.x (Value.int IntKind.u8 0),.x (Value.int IntKind.u8 0),.x (Value.nilFunc),.x (Value.pointer none),.x (Value.int IntKind.i32 0),.x (Value.int IntKind.i32 0)]):=by kernel_rfl
theorem JN:bg Try.prog 110=some 11:=by kernel_rfl
theorem JO:cQ Try.prog 110=some 48:=by kernel_rfl
theorem JP:aW Try.prog 110=some true:=by kernel_rfl
theorem JQ:aE Try.prog 110=some [.x (Value.int IntKind.u64 0),.x (Value.int IntKind.u64 0),.x (Value.int IntKind.u32 0),.x (Value.int IntKind.u8 0),.x (Value.int IntKind.u8 0),.x (Value.int IntKind.u8 0),.x (Value.int IntKind.u8 0),.x (Value.nilFunc),.x (Value.pointer none),.x (Value.int IntKind.i32 0),.x (Value.int IntKind.i32 0)]:=by kernel_rfl
theorem JR:aL Try.prog 110=some (.agg [.x (Value.int IntKind.u64 0),.x (Value.int IntKind.u64 0),.x (Value.int IntKind.u32 0),.x (Value.int IntKind.u8 0),.x (Value.int IntKind.u8 0),.x (Value.int IntKind.u8 0),.x (Value.int IntKind.u8 0),.x (Value.nilFunc),.x (Value.pointer none),.x (Value.int IntKind.i32 0),.x (Value.int IntKind.i32 0)]):=by kernel_rfl
attribute [go_sem] fh ON IR OR OJ OT OX OY O3 O4 O8 O9 Pd Pe Pi Pj Pp Pq Pv Pw KQ KR KW KX K1 K2 K6 K7 Lb Lc Lf Lg Lk Ll Lp Lq Lt Lu Lx Ly GD GE LE LF LJ LK IS IT LQ LR IV IW LX LY L2 L3 L7 L8 Mc Md Mh Mi Mm Mn Mr Ms Mw Mx MC MD MF MG MI MJ ML MM MQ MR MV MW M0 M1 M5 M6 Na Nb Nh Ni Nm Nn Np Nq Nu Nv Nz NA NE NF NJ NK NO NP NT NU NY NZ N4 N5 N9 Oa Oe Of Ok Ol IY IZ I3 I4 I8 I9 Jd Je Ji Jj Jn Jo Jq Jr Jv Jw JB JC JH JI JN JO OO OS OU OZ O5 Pa Pf Pk Ps Px KT KY K3 K8 Ld Lh Lm Lr Lw Lz LC LG LL LO LS LV LZ L4 L9 Me Mj Mo Mt My ME MH MK MN MS MX M2 M7 Nc Nj No Nr Nw NB NG NL NQ NV N0 N6 Ob Og Om I0 I5 Ja Jf Jk Jp Js Jy JD JJ JP OP OQ OV OW O0 OK O6 O7 Pb Pc Pg Ph Pn Po Pt Pu Py Pz KU KV KZ K0 K4 K5 K9 La Li Lj Ln Lo LA LB GF LD LH LI LM LN IU LP LT LU IX LW L0 L1 L5 L6 Ma Mb Mf Mg Mk Ml Mp Mq Mu Mv Mz MA MO MP MT MU MY MZ M3 M4 M8 M9 Nf Ng Nk Nl Ns Nt Nx Ny NC ND NH NI NM NN NR NS NW NX N2 N3 N7 N8 Oc Od Oh Oj On Oo I1 I2 I6 I7 Jb Jc Jg Jh Jl Jm Jt Ju Jz JA JE JG JK JM JQ JR Try.underlying0 Try.underlying1 Try.underlying2 Try.underlying3 Try.underlying4 Try.underlying5 Try.underlying6 Try.underlying7 Try.eqGuardType7 Try.stoodInHeld7 Try.underlying8 Try.eqGuardType8 Try.stoodInHeld8 Try.underlying9 Try.underlying10 Try.underlying12 Try.underlying16 Try.underlying17 Try.underlying20 Try.underlying21 Try.underlying22 Try.underlying23 Try.underlying24 Try.underlying25 Try.underlying26 Try.underlying28 Try.underlying31 Try.eqGuardType31 Try.stoodInHeld31 Try.underlying32 Try.eqGuardType32 Try.stoodInHeld32 Try.underlying33 Try.eqGuardType33 Try.stoodInHeld33 Try.underlying34 Try.eqGuardType34 Try.stoodInHeld34 Try.underlying35 Try.eqGuardType35 Try.stoodInHeld35 Try.underlying36 Try.underlying37 Try.underlying38 Try.underlying39 Try.eqGuardType39 Try.stoodInHeld39 Try.underlying40 Try.eqGuardType40 Try.stoodInHeld40 Try.underlying41 Try.underlying43 Try.underlying44 Try.underlying45 Try.underlying50 Try.underlying51 Try.underlying52 Try.eqGuardType52 Try.stoodInHeld52 Try.underlying53 Try.eqGuardType53 Try.stoodInHeld53 Try.underlying56 Try.underlying57 Try.underlying58 Try.eqGuardType58 Try.stoodInHeld58 Try.underlying59 Try.eqGuardType59 Try.stoodInHeld59 Try.underlying61 Try.underlying65 Try.underlying67 Try.eqGuardType67 Try.stoodInHeld67 Try.underlying68 Try.eqGuardType68 Try.stoodInHeld68 Try.underlying76 Try.underlying78 Try.underlying80 Try.underlying81 Try.underlying85 Try.underlying88 Try.underlying92 Try.underlying94 Try.underlying95 Try.underlying100 Try.eqGuardType100 Try.underlying101 Try.eqGuardType101 Try.stoodInHeld101 Try.underlying102 Try.eqGuardType102 Try.stoodInHeld102 Try.underlying103 Try.underlying104 Try.underlying105 Try.underlying106 Try.underlying107 Try.underlying108 Try.underlying109 Try.eqGuardType109 Try.stoodInHeld109 Try.underlying110 Try.eqGuardType110 Try.stoodInHeld110
end Go.Proofs.Ytldnpcolhdnkdaa
