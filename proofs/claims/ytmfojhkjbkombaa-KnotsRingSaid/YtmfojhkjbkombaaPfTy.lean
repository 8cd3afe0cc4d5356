/- What the run over plain data asks of each type of this seat's program, by program. -/
import Derived.Test.YtmfojhkjbkombaaMPB
import Derived.Test.YtmfojhkjbkombaaProg
import Derived.KernelRfl
namespace Go.Proofs.Ytmfojhkjbkombaa
set_option linter.unusedSimpArgs false
open Go Go.RowKit
theorem gh:aY Try.prog 0=some 1:=A0a
theorem YD:bN Try.prog 0=some 0:=A0a
theorem YE:aH Try.prog 0=some false:=A0a
theorem YF:az Try.prog 0=some [.x (Value.tuple #[])]:=A0a
theorem YG:aD Try.prog 0=some (.x (Value.tuple #[])):=A0a
theorem Pq:aY Try.prog 1=some 1:=A0a
theorem YH:bN Try.prog 1=some 8:=A0a
theorem YI:aH Try.prog 1=some false:=A0a
theorem sz2:aY Try.prog 2=some 1:=A0a
theorem YJ:bN Try.prog 2=some 8:=A0a
theorem YK:aH Try.prog 2=some false:=A0a
theorem YL:az Try.prog 2=some [.x (Value.int IntKind.i64 0)]:=A0a
theorem YM:aD Try.prog 2=some (.x (Value.int IntKind.i64 0)):=A0a
theorem OR:aY Try.prog 3=some 1:=A0a
theorem OS:bN Try.prog 3=some 8:=A0a
theorem YN:aH Try.prog 3=some false:=A0a
theorem OT:az Try.prog 3=some [.x (Value.int IntKind.i64 0)]:=A0a
theorem Uh:aD Try.prog 3=some (.x (Value.int IntKind.i64 0)):=A0a
theorem YO:aY Try.prog 4=some 1:=A0a
theorem YP:bN Try.prog 4=some 1:=A0a
theorem YQ:aH Try.prog 4=some false:=A0a
theorem YR:az Try.prog 4=some [.x (Value.bool false)]:=A0a
theorem YS:aD Try.prog 4=some (.x (Value.bool false)):=A0a
theorem YT:aY Try.prog 5=some 1:=A0a
theorem YU:bN Try.prog 5=some 1:=A0a
theorem YV:aH Try.prog 5=some false:=A0a
theorem YW:az Try.prog 5=some [.x (Value.int IntKind.u8 0)]:=A0a
theorem YX:aD Try.prog 5=some (.x (Value.int IntKind.u8 0)):=A0a
theorem YY:aY Try.prog 6=some 1:=A0a
theorem YZ:bN Try.prog 6=some 1:=A0a
theorem Y0:aH Try.prog 6=some false:=A0a
theorem Y1:az Try.prog 6=some [.x (Value.int IntKind.u8 0)]:=A0a
theorem Y2:aD Try.prog 6=some (.x (Value.int IntKind.u8 0)):=A0a
theorem Y3:aY Try.prog 7=some 4:=A0a
theorem Y4:bN Try.prog 7=some 24:=A0a
theorem Y5:aH Try.prog 7=some true:=A0a
theorem Y6:az Try.prog 7=some [.x (Value.int IntKind.i64 0),.x (Value.int IntKind.i64 0),.x (Value.bool false),.x (Value.int IntKind.u8 0)]:=A0a
theorem Y7:aD Try.prog 7=some (.agg [.x (Value.int IntKind.i64 0),.x (Value.int IntKind.i64 0),.x (Value.bool false),.x (Value.int IntKind.u8 0)]):=A0a
theorem Y8:aY Try.prog 8=some 4:=A0a
theorem Y9:bN Try.prog 8=some 24:=A0a
theorem Za:aH Try.prog 8=some true:=A0a
theorem Zb:az Try.prog 8=some [.x (Value.int IntKind.i64 0),.x (Value.int IntKind.i64 0),.x (Value.bool false),.x (Value.int IntKind.u8 0)]:=A0a
theorem Zc:aD Try.prog 8=some (.agg [.x (Value.int IntKind.i64 0),.x (Value.int IntKind.i64 0),.x (Value.bool false),.x (Value.int IntKind.u8 0)]):=A0a
theorem Zd:aY Try.prog 9=some 1:=A0a
theorem Ze:bN Try.prog 9=some 16:=A0a
theorem Zf:aH Try.prog 9=some false:=A0a
theorem Zg:az Try.prog 9=some [.x (Value.string ⟨#[]⟩)]:=A0a
theorem Zh:aD Try.prog 9=some (.x (Value.string ⟨#[]⟩)):=A0a
theorem Ui:aY Try.prog 10=some 1:=A0a
theorem Uj:bN Try.prog 10=some 16:=A0a
theorem Uk:aH Try.prog 10=some false:=A0a
theorem Ul:az Try.prog 10=some [.x (Value.string ⟨#[]⟩)]:=A0a
theorem Um:aD Try.prog 10=some (.x (Value.string ⟨#[]⟩)):=A0a
theorem Un:aY Try.prog 12=some 1:=A0a
theorem Uo:bN Try.prog 12=some 8:=A0a
theorem Up:aH Try.prog 12=some false:=A0a
theorem Uq:az Try.prog 12=some [.x (Value.int IntKind.u64 0)]:=A0a
theorem Ur:aD Try.prog 12=some (.x (Value.int IntKind.u64 0)):=A0a
theorem Us:aY Try.prog 16=some 1:=A0a
theorem Ut:bN Try.prog 16=some 8:=A0a
theorem Uu:aH Try.prog 16=some false:=A0a
theorem Uv:az Try.prog 16=some [.x (Value.pointer none)]:=A0a
theorem Uw:aD Try.prog 16=some (.x (Value.pointer none)):=A0a
theorem Ux:aY Try.prog 17=some 1:=A0a
theorem Uy:bN Try.prog 17=some 8:=A0a
theorem Uz:aH Try.prog 17=some false:=A0a
theorem UA:az Try.prog 17=some [.x (Value.pointer none)]:=A0a
theorem UB:aD Try.prog 17=some (.x (Value.pointer none)):=A0a
theorem UC:aY Try.prog 20=some 1:=A0a
theorem UD:bN Try.prog 20=some 16:=A0a
theorem UE:aH Try.prog 20=some false:=A0a
theorem UF:aY Try.prog 21=some 1:=A0a
theorem UG:bN Try.prog 21=some 4:=A0a
theorem UH:aH Try.prog 21=some false:=A0a
theorem UI:az Try.prog 21=some [.x (Value.int IntKind.i32 0)]:=A0a
theorem UJ:aD Try.prog 21=some (.x (Value.int IntKind.i32 0)):=A0a
theorem UK:aY Try.prog 22=some 1:=A0a
theorem UL:bN Try.prog 22=some 8:=A0a
theorem UM:aH Try.prog 22=some false:=A0a
theorem UN:aY Try.prog 23=some 1:=A0a
theorem UO:bN Try.prog 23=some 24:=A0a
theorem UP:aH Try.prog 23=some false:=A0a
theorem UQ:az Try.prog 23=some [.sl true 0 [] none]:=A0a
theorem UR:aD Try.prog 23=some (.sl true 0 [] none):=A0a
theorem US:aY Try.prog 24=some 3:=A0a
theorem UT:bN Try.prog 24=some 32:=A0a
theorem UU:aH Try.prog 24=some true:=A0a
theorem UV:az Try.prog 24=some [.x (Value.string ⟨#[]⟩),.x (Value.int IntKind.i64 0),.x (Value.int IntKind.i64 0)]:=A0a
theorem UW:aD Try.prog 24=some (.agg [.x (Value.string ⟨#[]⟩),.x (Value.int IntKind.i64 0),.x (Value.int IntKind.i64 0)]):=A0a
theorem Cf:aY Try.prog 25=some 3:=A0a
theorem Cg:bN Try.prog 25=some 32:=A0a
theorem UX:aH Try.prog 25=some true:=A0a
theorem Ch:az Try.prog 25=some [.x (Value.string ⟨#[]⟩),.x (Value.int IntKind.i64 0),.x (Value.int IntKind.i64 0)]:=A0a
theorem UY:aD Try.prog 25=some (.agg [.x (Value.string ⟨#[]⟩),.x (Value.int IntKind.i64 0),.x (Value.int IntKind.i64 0)]):=A0a
theorem UZ:aY Try.prog 26=some 3:=A0a
theorem U0:bN Try.prog 26=some 32:=A0a
theorem U1:aH Try.prog 26=some true:=A0a
theorem U2:az Try.prog 26=some [.x (Value.int IntKind.i64 0),.x (Value.int IntKind.i64 0),.x (Value.string ⟨#[]⟩)]:=A0a
theorem U3:aD Try.prog 26=some (.agg [.x (Value.int IntKind.i64 0),.x (Value.int IntKind.i64 0),.x (Value.string ⟨#[]⟩)]):=A0a
theorem U4:aY Try.prog 27=some 3:=A0a
theorem U5:bN Try.prog 27=some 32:=A0a
theorem U6:aH Try.prog 27=some true:=A0a
theorem U7:az Try.prog 27=some [.x (Value.int IntKind.i64 0),.x (Value.int IntKind.i64 0),.x (Value.string ⟨#[]⟩)]:=A0a
theorem U8:aD Try.prog 27=some (.agg [.x (Value.int IntKind.i64 0),.x (Value.int IntKind.i64 0),.x (Value.string ⟨#[]⟩)]):=A0a
theorem MR:aY Try.prog 28=some 1:=A0a
theorem MS:bN Try.prog 28=some 24:=A0a
theorem U9:aH Try.prog 28=some false:=A0a
theorem MT:az Try.prog 28=some [.sl true 0 [] none]:=A0a
theorem Va:aD Try.prog 28=some (.sl true 0 [] none):=A0a
theorem Vb:aY Try.prog 29=some 13:=A0a
theorem Vc:bN Try.prog 29=some 160:=A0a
theorem Vd:aH Try.prog 29=some true:=A0a
theorem Ve:az Try.prog 29=some [.x (Value.int IntKind.i64 0),.x (Value.string ⟨#[]⟩),.x (Value.string ⟨#[]⟩),.x (Value.int IntKind.i64 0),.x (Value.int IntKind.i64 0),.x (Value.string ⟨#[]⟩),.x (Value.string ⟨#[]⟩),.x (Value.int IntKind.i64 0),.x (Value.int IntKind.i64 0),.x (Value.string ⟨#[]⟩),.x (Value.int IntKind.i64 0),.x (Value.int IntKind.i64 0),.sl true 0 [] none]:=A0a
theorem Vf:aD Try.prog 29=some (.agg [.x (Value.int IntKind.i64 0),.x (Value.string ⟨#[]⟩),.x (Value.string ⟨#[]⟩),.x (Value.int IntKind.i64 0),.x (Value.int IntKind.i64 0),.x (Value.string ⟨#[]⟩),.x (Value.string ⟨#[]⟩),.x (Value.int IntKind.i64 0),.x (Value.int IntKind.i64 0),.x (Value.string ⟨#[]⟩),.x (Value.int IntKind.i64 0),.x (Value.int IntKind.i64 0),.sl true 0 [] none]):=A0a
theorem Vg:aY Try.prog 30=some 13:=A0a
theorem Vh:bN Try.prog 30=some 160:=A0a
theorem Vi:aH Try.prog 30=some true:=A0a
theorem Vj:az Try.prog 30=some [.x (Value.int IntKind.i64 0),.x (Value.string ⟨#[]⟩),.x (Value.string ⟨#[]⟩),.x (Value.int IntKind.i64 0),.x (Value.int IntKind.i64 0),.x (Value.string ⟨#[]⟩),.x (Value.string ⟨#[]⟩),.x (Value.int IntKind.i64 0),.x (Value.int IntKind.i64 0),.x (Value.string ⟨#[]⟩),.x (Value.int IntKind.i64 0),.x (Value.int IntKind.i64 0),.sl true 0 [] none]:=A0a
theorem Vk:aD Try.prog 30=some (.agg [.x (Value.int IntKind.i64 0),.x (Value.string ⟨#[]⟩),.x (Value.string ⟨#[]⟩),.x (Value.int IntKind.i64 0),.x (Value.int IntKind.i64 0),.x (Value.string ⟨#[]⟩),.x (Value.string ⟨#[]⟩),.x (Value.int IntKind.i64 0),.x (Value.int IntKind.i64 0),.x (Value.string ⟨#[]⟩),.x (Value.int IntKind.i64 0),.x (Value.int IntKind.i64 0),.sl true 0 [] none]):=A0a
theorem Vl:aY Try.prog 31=some 20:=A0a
theorem Vm:bN Try.prog 31=some 232:=A0a
theorem Vn:aH Try.prog 31=some true:=A0a
theorem Vo:az Try.prog 31=some [.x (Value.string ⟨#[]⟩),.x (Value.int IntKind.i64 0),.x (Value.int IntKind.i64 0),.x (Value.bool false),.x (Value.int IntKind.i64 0),.x (Value.string ⟨#[]⟩),.x (Value.string ⟨#[]⟩),.x (Value.int IntKind.i64 0),.x (Value.int IntKind.i64 0),.x (Value.string ⟨#[]⟩),.x (Value.string ⟨#[]⟩),.x (Value.int IntKind.i64 0),.x (Value.int IntKind.i64 0),.x (Value.string ⟨#[]⟩),.x (Value.int IntKind.i64 0),.x (Value.int IntKind.i64 0),.sl true 0 [] none,.x (Value.int IntKind.i64 0),.x (Value.int IntKind.i64 0),.x (Value.string ⟨#[]⟩)]:=A0a
theorem Vp:aD Try.prog 31=some (.agg [.x (Value.string ⟨#[]⟩),.x (Value.int IntKind.i64 0),.x (Value.int IntKind.i64 0),.x (Value.bool false),.x (Value.int IntKind.i64 0),.x (Value.string ⟨#[]⟩),.x (Value.string ⟨#[]⟩),.x (Value.int IntKind.i64 0),.x (Value.int IntKind.i64 0),.x (Value.string ⟨#[]⟩),.x (Value.string ⟨#[]⟩),.x (Value.int IntKind.i64 0),.x (Value.int IntKind.i64 0),.x (Value.string ⟨#[]⟩),.x (Value.int IntKind.i64 0),.x (Value.int IntKind.i64 0),.sl true 0 [] none,.x (Value.int IntKind.i64 0),.x (Value.int IntKind.i64 0),.x (Value.string ⟨#[]⟩)]):=A0a
theorem Ps:aY Try.prog 32=some 20:=A0a
theorem Pt:bN Try.prog 32=some 232:=A0a
theorem Vq:aH Try.prog 32=some true:=A0a
theorem Pu:az Try.prog 32=some [.x (Value.string ⟨#[]⟩),.x (Value.int IntKind.i64 0),.x (Value.int IntKind.i64 0),.x (Value.bool false),.x (Value.int IntKind.i64 0),.x (Value.string ⟨#[]⟩),.x (Value.string ⟨#[]⟩),.x (Value.int IntKind.i64 0),.x (Value.int IntKind.i64 0),.x (Value.string ⟨#[]⟩),.x (Value.string ⟨#[]⟩),.x (Value.int IntKind.i64 0),.x (Value.int IntKind.i64 0),.x (Value.string ⟨#[]⟩),.x (Value.int IntKind.i64 0),.x (Value.int IntKind.i64 0),.sl true 0 [] none,.x (Value.int IntKind.i64 0),.x (Value.int IntKind.i64 0),.x (Value.string ⟨#[]⟩)]:=A0a
theorem Vr:aD Try.prog 32=some (.agg [.x (Value.string ⟨#[]⟩),.x (Value.int IntKind.i64 0),.x (Value.int IntKind.i64 0),.x (Value.bool false),.x (Value.int IntKind.i64 0),.x (Value.string ⟨#[]⟩),.x (Value.string ⟨#[]⟩),.x (Value.int IntKind.i64 0),.x (Value.int IntKind.i64 0),.x (Value.string ⟨#[]⟩),.x (Value.string ⟨#[]⟩),.x (Value.int IntKind.i64 0),.x (Value.int IntKind.i64 0),.x (Value.string ⟨#[]⟩),.x (Value.int IntKind.i64 0),.x (Value.int IntKind.i64 0),.sl true 0 [] none,.x (Value.int IntKind.i64 0),.x (Value.int IntKind.i64 0),.x (Value.string ⟨#[]⟩)]):=A0a
theorem Vs:aY Try.prog 33=some 1:=A0a
theorem Vt:bN Try.prog 33=some 24:=A0a
theorem Vu:aH Try.prog 33=some false:=A0a
theorem Vv:az Try.prog 33=some [.sl true 0 [] none]:=A0a
theorem Vw:aD Try.prog 33=some (.sl true 0 [] none):=A0a
theorem Vx:aY Try.prog 35=some 1:=A0a
theorem Vy:bN Try.prog 35=some 24:=A0a
theorem Vz:aH Try.prog 35=some false:=A0a
theorem VA:az Try.prog 35=some [.sl true 0 [] none]:=A0a
theorem VB:aD Try.prog 35=some (.sl true 0 [] none):=A0a
theorem VC:aY Try.prog 36=some 2:=A0a
theorem VD:bN Try.prog 36=some 32:=A0a
theorem VE:aH Try.prog 36=some true:=A0a
theorem VF:az Try.prog 36=some [.sl true 0 [] none,.x (Value.bool false)]:=A0a
theorem VG:aD Try.prog 36=some (.agg [.sl true 0 [] none,.x (Value.bool false)]):=A0a
theorem Pv:aY Try.prog 37=some 2:=A0a
theorem Pw:bN Try.prog 37=some 32:=A0a
theorem VH:aH Try.prog 37=some true:=A0a
theorem Px:az Try.prog 37=some [.sl true 0 [] none,.x (Value.bool false)]:=A0a
theorem VI:aD Try.prog 37=some (.agg [.sl true 0 [] none,.x (Value.bool false)]):=A0a
theorem VJ:aY Try.prog 39=some 1:=A0a
theorem VK:bN Try.prog 39=some 24:=A0a
theorem VL:aH Try.prog 39=some false:=A0a
theorem VM:az Try.prog 39=some [.sl true 0 [] none]:=A0a
theorem VN:aD Try.prog 39=some (.sl true 0 [] none):=A0a
theorem VO:aY Try.prog 40=some 3:=A0a
theorem VP:bN Try.prog 40=some 72:=A0a
theorem VQ:aH Try.prog 40=some true:=A0a
theorem VR:az Try.prog 40=some [.sl true 0 [] none,.sl true 0 [] none,.sl true 0 [] none]:=A0a
theorem VS:aD Try.prog 40=some (.agg [.sl true 0 [] none,.sl true 0 [] none,.sl true 0 [] none]):=A0a
theorem VT:aY Try.prog 41=some 3:=A0a
theorem VU:bN Try.prog 41=some 72:=A0a
theorem VV:aH Try.prog 41=some true:=A0a
theorem VW:az Try.prog 41=some [.sl true 0 [] none,.sl true 0 [] none,.sl true 0 [] none]:=A0a
theorem VX:aD Try.prog 41=some (.agg [.sl true 0 [] none,.sl true 0 [] none,.sl true 0 [] none]):=A0a
theorem VY:aY Try.prog 43=some 1:=A0a
theorem VZ:bN Try.prog 43=some 24:=A0a
theorem V1:aH Try.prog 43=some false:=A0a
theorem V2:az Try.prog 43=some [.sl true 0 [] none]:=A0a
theorem V3:aD Try.prog 43=some (.sl true 0 [] none):=A0a
theorem V4:aY Try.prog 44=some 1:=A0a
theorem V5:bN Try.prog 44=some 8:=A0a
theorem V6:aH Try.prog 44=some false:=A0a
theorem V7:aY Try.prog 47=some 1:=A0a
theorem V8:bN Try.prog 47=some 8:=A0a
theorem V9:aH Try.prog 47=some false:=A0a
theorem Wa:az Try.prog 47=some [.x (Value.pointer none)]:=A0a
theorem Wb:aD Try.prog 47=some (.x (Value.pointer none)):=A0a
theorem Wc:aY Try.prog 48=some 1:=A0a
theorem Wd:bN Try.prog 48=some 24:=A0a
theorem We:aH Try.prog 48=some false:=A0a
theorem Wf:az Try.prog 48=some [.sl true 0 [] none]:=A0a
theorem Wg:aD Try.prog 48=some (.sl true 0 [] none):=A0a
theorem Wh:aY Try.prog 49=some 1:=A0a
theorem Wi:bN Try.prog 49=some 24:=A0a
theorem Wj:aH Try.prog 49=some true:=A0a
theorem Wk:az Try.prog 49=some [.sl true 0 [] none]:=A0a
theorem Wl:aD Try.prog 49=some (.agg [.sl true 0 [] none]):=A0a
theorem Wm:aY Try.prog 50=some 1:=A0a
theorem Wn:bN Try.prog 50=some 24:=A0a
theorem Wo:aH Try.prog 50=some true:=A0a
theorem Wp:az Try.prog 50=some [.sl true 0 [] none]:=A0a
theorem Wq:aD Try.prog 50=some (.agg [.sl true 0 [] none]):=A0a
theorem Wr:aY Try.prog 52=some 1:=A0a
theorem Ws:bN Try.prog 52=some 8:=A0a
theorem Wt:aH Try.prog 52=some false:=A0a
theorem Wu:aY Try.prog 55=some 1:=A0a
theorem Wv:bN Try.prog 55=some 8:=A0a
theorem Ww:aH Try.prog 55=some false:=A0a
theorem Wx:az Try.prog 55=some [.x (Value.pointer none)]:=A0a
theorem Wy:aD Try.prog 55=some (.x (Value.pointer none)):=A0a
theorem Wz:aY Try.prog 56=some 1:=A0a
theorem WA:bN Try.prog 56=some 8:=A0a
theorem WC:aH Try.prog 56=some false:=A0a
theorem WD:aY Try.prog 58=some 1:=A0a
theorem WF:bN Try.prog 58=some 8:=A0a
theorem WG:aH Try.prog 58=some false:=A0a
theorem WH:az Try.prog 58=some [.x (Value.map none)]:=A0a
theorem WI:aD Try.prog 58=some (.x (Value.map none)):=A0a
theorem WJ:aY Try.prog 60=some 1:=A0a
theorem WK:bN Try.prog 60=some 8:=A0a
theorem WL:aH Try.prog 60=some false:=A0a
theorem WM:aY Try.prog 61=some 1:=A0a
theorem WN:bN Try.prog 61=some 8:=A0a
theorem WO:aH Try.prog 61=some false:=A0a
theorem WP:aY Try.prog 70=some 4:=A0a
theorem WR:bN Try.prog 70=some 80:=A0a
theorem WS:aH Try.prog 70=some true:=A0a
theorem WT:az Try.prog 70=some [.sl true 0 [] none,.x (Value.map none),.sl true 0 [] none,.sl true 0 [] none]:=A0a
theorem WV:aD Try.prog 70=some (.agg [.sl true 0 [] none,.x (Value.map none),.sl true 0 [] none,.sl true 0 [] none]):=A0a
theorem WW:aY Try.prog 71=some 4:=A0a
theorem WX:bN Try.prog 71=some 80:=A0a
theorem WY:aH Try.prog 71=some true:=A0a
theorem WZ:az Try.prog 71=some [.sl true 0 [] none,.x (Value.map none),.sl true 0 [] none,.sl true 0 [] none]:=A0a
theorem W3:aD Try.prog 71=some (.agg [.sl true 0 [] none,.x (Value.map none),.sl true 0 [] none,.sl true 0 [] none]):=A0a
theorem W4:aY Try.prog 72=some 1:=A0a
theorem W5:bN Try.prog 72=some 8:=A0a
theorem W6:aH Try.prog 72=some false:=A0a
theorem W7:aY Try.prog 75=some 1:=A0a
theorem W8:bN Try.prog 75=some 0:=A0a
theorem W9:aH Try.prog 75=some false:=A0a
theorem Xa:az Try.prog 75=some [.x (Value.tuple #[Value.int IntKind.i64 0,Value.bool false])]:=A0a
theorem Xc:aD Try.prog 75=some (.x (Value.tuple #[Value.int IntKind.i64 0,Value.bool false])):=A0a
theorem Xd:aY Try.prog 78=some 1:=A0a
theorem Xe:bN Try.prog 78=some 8:=A0a
theorem Xf:aH Try.prog 78=some false:=A0a
theorem Xg:aY Try.prog 79=some 1:=A0a
theorem Xh:bN Try.prog 79=some 24:=A0a
theorem Xi:aH Try.prog 79=some false:=A0a
theorem Xj:az Try.prog 79=some [.sl true 0 [] none]:=A0a
theorem Xk:aD Try.prog 79=some (.sl true 0 [] none):=A0a
theorem Xl:aY Try.prog 80=some 1:=A0a
theorem Xm:bN Try.prog 80=some 16:=A0a
theorem Xn:aH Try.prog 80=some false:=A0a
theorem Xo:aY Try.prog 81=some 1:=A0a
theorem Xp:bN Try.prog 81=some 16:=A0a
theorem Xq:aH Try.prog 81=some false:=A0a
theorem Xr:aY Try.prog 82=some 1:=A0a
theorem Xs:bN Try.prog 82=some 8:=A0a
theorem Xt:aH Try.prog 82=some false:=A0a
theorem Xu:aY Try.prog 84=some 1:=A0a
theorem Xv:bN Try.prog 84=some 8:=A0a
theorem Xw:aH Try.prog 84=some false:=A0a
theorem Xx:aY Try.prog 86=some 1:=A0a
theorem Xy:bN Try.prog 86=some 8:=A0a
theorem Xz:aH Try.prog 86=some false:=A0a
theorem XA:aY Try.prog 91=some 1:=A0a
theorem XB:bN Try.prog 91=some 8:=A0a
theorem XC:aH Try.prog 91=some false:=A0a
theorem XD:az Try.prog 91=some [.x (Value.map none)]:=A0a
theorem XE:aD Try.prog 91=some (.x (Value.map none)):=A0a
theorem XF:aY Try.prog 92=some 1:=A0a
theorem XG:bN Try.prog 92=some 8:=A0a
theorem XH:aH Try.prog 92=some false:=A0a
theorem XI:az Try.prog 92=some [.x (Value.map none)]:=A0a
theorem XJ:aD Try.prog 92=some (.x (Value.map none)):=A0a
theorem XK:aY Try.prog 93=some 1:=A0a
theorem XL:bN Try.prog 93=some 8:=A0a
theorem XM:aH Try.prog 93=some false:=A0a
theorem XN:aY Try.prog 94=some 1:=A0a
theorem XO:bN Try.prog 94=some 8:=A0a
theorem XP:aH Try.prog 94=some false:=A0a
theorem XQ:aY Try.prog 96=some 6:=A0a
theorem XR:bN Try.prog 96=some 64:=A0a
theorem XT:aH Try.prog 96=some true:=A0a
theorem XU:az Try.prog 96=some [.x (Value.string ⟨#[]⟩),.x (Value.int IntKind.i64 0),.x (Value.int IntKind.i64 0),.x (Value.string ⟨#[]⟩),.x (Value.int IntKind.i64 0),.x (Value.int IntKind.i64 0)]:=A0a
theorem XV:aD Try.prog 96=some (.agg [.x (Value.string ⟨#[]⟩),.x (Value.int IntKind.i64 0),.x (Value.int IntKind.i64 0),.x (Value.string ⟨#[]⟩),.x (Value.int IntKind.i64 0),.x (Value.int IntKind.i64 0)]):=A0a
theorem XW:aY Try.prog 97=some 6:=A0a
theorem XX:bN Try.prog 97=some 64:=A0a
theorem XY:aH Try.prog 97=some true:=A0a
theorem XZ:az Try.prog 97=some [.x (Value.string ⟨#[]⟩),.x (Value.int IntKind.i64 0),.x (Value.int IntKind.i64 0),.x (Value.string ⟨#[]⟩),.x (Value.int IntKind.i64 0),.x (Value.int IntKind.i64 0)]:=A0a
theorem X0:aD Try.prog 97=some (.agg [.x (Value.string ⟨#[]⟩),.x (Value.int IntKind.i64 0),.x (Value.int IntKind.i64 0),.x (Value.string ⟨#[]⟩),.x (Value.int IntKind.i64 0),.x (Value.int IntKind.i64 0)]):=A0a
theorem X4:aY Try.prog 98=some 0:=A0a
theorem X5:bN Try.prog 98=some 0:=A0a
theorem X6:aH Try.prog 98=some true:=A0a
theorem X7:az Try.prog 98=some []:=A0a
theorem Py:aD Try.prog 98=some (.agg []):=A0a
theorem X8:aY Try.prog 99=some 1:=A0a
theorem X9:bN Try.prog 99=some 0:=A0a
theorem Ya:aH Try.prog 99=some false:=A0a
theorem Yb:az Try.prog 99=some [.x (Value.tuple #[Value.agg #[],Value.bool false])]:=A0a
theorem Yc:aD Try.prog 99=some (.x (Value.tuple #[Value.agg #[],Value.bool false])):=A0a
theorem Pz:aY Try.prog 102=some 1:=A0a
theorem PA:bN Try.prog 102=some 8:=A0a
theorem PB:aH Try.prog 102=some false:=A0a
theorem PC:aY Try.prog 103=some 1:=A0a
theorem PE:bN Try.prog 103=some 8:=A0a
theorem PF:aH Try.prog 103=some false:=A0a
theorem PG:aY Try.prog 104=some 1:=A0a
theorem PH:bN Try.prog 104=some 8:=A0a
theorem PJ:aH Try.prog 104=some false:=A0a
theorem PK:aY Try.prog 105=some 1:=A0a
theorem PM:bN Try.prog 105=some 8:=A0a
theorem PN:aH Try.prog 105=some false:=A0a
theorem PO:az Try.prog 105=some [.x (Value.pointer none)]:=A0a
theorem PP:aD Try.prog 105=some (.x (Value.pointer none)):=A0a
theorem PQ:aY Try.prog 106=some 1:=A0a
theorem PS:bN Try.prog 106=some 8:=A0a
theorem PT:aH Try.prog 106=some false:=A0a
theorem PU:az Try.prog 106=some [.x (Value.int IntKind.u64 0)]:=A0a
theorem PV:aD Try.prog 106=some (.x (Value.int IntKind.u64 0)):=A0a
theorem PW:aY Try.prog 107=some 3:=A0a
theorem PY:bN Try.prog 107=some 24:=A0a
theorem PZ:aH Try.prog 107=some true:=A0a
theorem P0:az Try.prog 107=some [.x (Value.pointer none),.x (Value.pointer none),.x (Value.int IntKind.u64 0)]:=A0a
theorem P1:aD Try.prog 107=some (.agg [.x (Value.pointer none),.x (Value.pointer none),.x (Value.int IntKind.u64 0)]):=A0a
theorem P2:aY Try.prog 108=some 3:=A0a
theorem P3:bN Try.prog 108=some 24:=A0a
theorem P4:aH Try.prog 108=some true:=A0a
theorem P5:az Try.prog 108=some [.x (Value.pointer none),.x (Value.pointer none),.x (Value.int IntKind.u64 0)]:=A0a
theorem P6:aD Try.prog 108=some (.agg [.x (Value.pointer none),.x (Value.pointer none),.x (Value.int IntKind.u64 0)]):=A0a
theorem P7:aY Try.prog 112=some 1:=A0a
theorem P8:bN Try.prog 112=some 8:=A0a
theorem P9:aH Try.prog 112=some false:=A0a
theorem Qa:az Try.prog 112=some [.x (Value.int IntKind.u64 0)]:=A0a
theorem Qb:aD Try.prog 112=some (.x (Value.int IntKind.u64 0)):=A0a
theorem Qc:aY Try.prog 114=some 2:=A0a
theorem Qd:bN Try.prog 114=some 16:=A0a
theorem Qe:aH Try.prog 114=some true:=A0a
theorem Qf:az Try.prog 114=some [.x (Value.nilFunc),.x (Value.nilFunc)]:=A0a
theorem Qg:aD Try.prog 114=some (.agg [.x (Value.nilFunc),.x (Value.nilFunc)]):=A0a
theorem Qh:aY Try.prog 115=some 2:=A0a
theorem Qi:bN Try.prog 115=some 16:=A0a
theorem Qj:aH Try.prog 115=some true:=A0a
theorem Qk:az Try.prog 115=some [.x (Value.nilFunc),.x (Value.nilFunc)]:=A0a
theorem Ql:aD Try.prog 115=some (.agg [.x (Value.nilFunc),.x (Value.nilFunc)]):=A0a
theorem Qm:aY Try.prog 119=some 1:=A0a
theorem Qn:bN Try.prog 119=some 8:=A0a
theorem Qo:aH Try.prog 119=some false:=A0a
theorem Qp:aY Try.prog 120=some 1:=A0a
theorem Qq:bN Try.prog 120=some 24:=A0a
theorem Qr:aH Try.prog 120=some false:=A0a
theorem Qs:az Try.prog 120=some [.sl true 0 [] none]:=A0a
theorem Qt:aD Try.prog 120=some (.sl true 0 [] none):=A0a
theorem Qu:aY Try.prog 121=some 1:=A0a
theorem Qv:bN Try.prog 121=some 0:=A0a
theorem Qw:aH Try.prog 121=some false:=A0a
theorem Qx:az Try.prog 121=some [.x (Value.tuple #[Value.agg #[Value.string ⟨#[]⟩,Value.int IntKind.i64 0,Value.int IntKind.i64 0,Value.string ⟨#[]⟩,Value.int IntKind.i64 0,Value.int IntKind.i64 0],Value.bool false])]:=A0a
theorem Qy:aD Try.prog 121=some (.x (Value.tuple #[Value.agg #[Value.string ⟨#[]⟩,Value.int IntKind.i64 0,Value.int IntKind.i64 0,Value.string ⟨#[]⟩,Value.int IntKind.i64 0,Value.int IntKind.i64 0],Value.bool false])):=A0a
theorem Qz:aY Try.prog 125=some 1:=A0a
theorem QA:bN Try.prog 125=some 8:=A0a
theorem QB:aH Try.prog 125=some false:=A0a
theorem QC:aY Try.prog 130=some 1:=A0a
theorem QD:bN Try.prog 130=some 4:=A0a
theorem QE:aH Try.prog 130=some false:=A0a
theorem QF:az Try.prog 130=some [.x (Value.int IntKind.u32 0)]:=A0a
theorem QG:aD Try.prog 130=some (.x (Value.int IntKind.u32 0)):=A0a
theorem QH:aY Try.prog 132=some 1:=A0a
theorem QI:bN Try.prog 132=some 8:=A0a
theorem QK:aH Try.prog 132=some false:=A0a
theorem QL:az Try.prog 132=some [.x (Value.int IntKind.u64 0)]:=A0a
theorem QM:aD Try.prog 132=some (.x (Value.int IntKind.u64 0)):=A0a
theorem QN:aY Try.prog 134=some 1:=A0a
theorem QO:bN Try.prog 134=some 8:=A0a
theorem QP:aH Try.prog 134=some false:=A0a
theorem QQ:az Try.prog 134=some [.x (Value.int IntKind.i64 0)]:=A0a
theorem QR:aD Try.prog 134=some (.x (Value.int IntKind.i64 0)):=A0a
theorem QT:aY Try.prog 135=some 1:=A0a
theorem QU:bN Try.prog 135=some 0:=A0a
theorem QV:aH Try.prog 135=some false:=A0a
theorem QW:az Try.prog 135=some [.x (Value.tuple #[Value.int IntKind.i64 0,Value.int IntKind.i64 0])]:=A0a
theorem QX:aD Try.prog 135=some (.x (Value.tuple #[Value.int IntKind.i64 0,Value.int IntKind.i64 0])):=A0a
theorem QY:aY Try.prog 136=some 1:=A0a
theorem QZ:bN Try.prog 136=some 8:=A0a
theorem Q0:aH Try.prog 136=some false:=A0a
theorem Q1:aY Try.prog 142=some 1:=A0a
theorem Q2:bN Try.prog 142=some 24:=A0a
theorem Q3:aH Try.prog 142=some false:=A0a
theorem Q4:az Try.prog 142=some [.sl true 0 [] none]:=A0a
theorem Q5:aD Try.prog 142=some (.sl true 0 [] none):=A0a
theorem Q6:aY Try.prog 143=some 1:=A0a
theorem Q7:bN Try.prog 143=some 8:=A0a
theorem Q8:aH Try.prog 143=some false:=A0a
theorem Q9:az Try.prog 143=some [.x (Value.pointer none)]:=A0a
theorem Ra:aD Try.prog 143=some (.x (Value.pointer none)):=A0a
theorem Rb:aY Try.prog 144=some 1:=A0a
theorem Rc:bN Try.prog 144=some 8:=A0a
theorem Re:aH Try.prog 144=some false:=A0a
theorem Rf:az Try.prog 144=some [.x (Value.int IntKind.u64 0)]:=A0a
theorem Rg:aD Try.prog 144=some (.x (Value.int IntKind.u64 0)):=A0a
theorem Rh:aY Try.prog 148=some 1:=A0a
theorem Ri:bN Try.prog 148=some 8:=A0a
theorem Rj:aH Try.prog 148=some false:=A0a
theorem Rk:az Try.prog 148=some [.x (Value.pointer none)]:=A0a
theorem Rl:aD Try.prog 148=some (.x (Value.pointer none)):=A0a
theorem Rm:aY Try.prog 150=some 1:=A0a
theorem Rn:bN Try.prog 150=some 8:=A0a
theorem Ro:aH Try.prog 150=some false:=A0a
theorem Rp:az Try.prog 150=some [.x (Value.pointer none)]:=A0a
theorem Rq:aD Try.prog 150=some (.x (Value.pointer none)):=A0a
theorem Rr:aY Try.prog 151=some 1:=A0a
theorem Rt:bN Try.prog 151=some 0:=A0a
theorem Ru:aH Try.prog 151=some false:=A0a
theorem Rv:az Try.prog 151=some [.x (Value.tuple #[Value.int IntKind.i64 0,Value.int IntKind.i64 0])]:=A0a
theorem Rw:aD Try.prog 151=some (.x (Value.tuple #[Value.int IntKind.i64 0,Value.int IntKind.i64 0])):=A0a
theorem Ry:aY Try.prog 157=some 0:=A0a
theorem Rz:bN Try.prog 157=some 0:=A0a
theorem RA:aH Try.prog 157=some true:=A0a
theorem RB:az Try.prog 157=some []:=A0a
theorem RC:aD Try.prog 157=some (.agg []):=A0a
theorem RD:aY Try.prog 158=some 0:=A0a
theorem RE:bN Try.prog 158=some 0:=A0a
theorem RF:aH Try.prog 158=some true:=A0a
theorem RG:az Try.prog 158=some []:=A0a
theorem RH:aD Try.prog 158=some (.agg []):=A0a
theorem RI:aY Try.prog 159=some 0:=A0a
theorem RJ:bN Try.prog 159=some 0:=A0a
theorem RK:aH Try.prog 159=some true:=A0a
theorem RL:az Try.prog 159=some []:=A0a
theorem RM:aD Try.prog 159=some (.agg []):=A0a
theorem RN:aY Try.prog 160=some 1:=A0a
theorem RO:bN Try.prog 160=some 1:=A0a
theorem RP:aH Try.prog 160=some false:=A0a
theorem RQ:az Try.prog 160=some [.x (Value.int IntKind.u8 0)]:=A0a
theorem RR:aD Try.prog 160=some (.x (Value.int IntKind.u8 0)):=A0a
theorem RS:aY Try.prog 161=some 1:=A0a
theorem RT:bN Try.prog 161=some 1:=A0a
theorem RU:aH Try.prog 161=some false:=A0a
theorem RV:az Try.prog 161=some [.x (Value.int IntKind.u8 0)]:=A0a
theorem RW:aD Try.prog 161=some (.x (Value.int IntKind.u8 0)):=A0a
theorem RX:aY Try.prog 162=some 1:=A0a
theorem RY:bN Try.prog 162=some 8:=A0a
theorem RZ:aH Try.prog 162=some false:=A0a
theorem R1:aY Try.prog 163=some 1:=A0a
theorem R3:bN Try.prog 163=some 4:=A0a
theorem R4:aH Try.prog 163=some false:=A0a
theorem R5:az Try.prog 163=some [.x (Value.int IntKind.i32 0)]:=A0a
theorem R6:aD Try.prog 163=some (.x (Value.int IntKind.i32 0)):=A0a
theorem R7:aY Try.prog 164=some 1:=A0a
theorem R8:bN Try.prog 164=some 4:=A0a
theorem R9:aH Try.prog 164=some false:=A0a
theorem Sa:az Try.prog 164=some [.x (Value.int IntKind.i32 0)]:=A0a
theorem Sb:aD Try.prog 164=some (.x (Value.int IntKind.i32 0)):=A0a
theorem Sc:aY Try.prog 165=some 11:=A0a
theorem Sd:bN Try.prog 165=some 48:=A0a
theorem Se:aH Try.prog 165=some true:=A0a
theorem Sf:az Try.prog 165=some [.x (Value.int IntKind.u64 0),.x (Value.int IntKind.u64 0),.x (Value.int IntKind.u32 0),.x (Value.int IntKind.u8 0),.x (Value.int IntKind.u8 0),.x (Value.int IntKind.u8 0),.x (Value.int IntKind.u8 0),.x (Value.nilFunc),.x (Value.pointer none),.x (Value.int IntKind.i32 0),.x (Value.int IntKind.i32 0)]:=A0a
theorem Sg:aD Try.prog 165=some (.agg [.x (Value.int IntKind.u64 0),.x (Value.int IntKind.u64 0),.x (Value.int IntKind.u32 0),.x (Value.int IntKind.u8 0),.x (Value.int IntKind.u8 0),.x (Value.int IntKind.u8 0),.x (Value.int IntKind.u8 0),.x (Value.nilFunc),.x (Value.pointer none),.x (Value.int IntKind.i32 0),.x (Value.int IntKind.i32 0)]):=A0a
theorem Sh:aY Try.prog 166=some 11:=A0a
theorem Si:bN Try.prog 166=some 48:=A0a
theorem Sj:aH Try.prog 166=some true:=A0a
theorem Sk:az Try.prog 166=some [.x (Value.int IntKind.u64 0),.x (Value.int IntKind.u64 0),.x (Value.int IntKind.u32 0),.x (Value.int IntKind.u8 0),.x (Value.int IntKind.u8 0),.x (Value.int IntKind.u8 0),.x (Value.int IntKind.u8 0),.x (Value.nilFunc),.x (Value.pointer none),.x (Value.int IntKind.i32 0),.x (Value.int IntKind.i32 0)]:=A0a
theorem Sl:aD Try.prog 166=some (.agg [.x (Value.int IntKind.u64 0),.x (Value.int IntKind.u64 0),.x (Value.int IntKind.u32 0),.x (Value.int IntKind.u8 0),.x (Value.int IntKind.u8 0),.x (Value.int IntKind.u8 0),.x (Value.int IntKind.u8 0),.x (Value.nilFunc),.x (Value.pointer none),.x (Value.int IntKind.i32 0),.x (Value.int IntKind.i32 0)]):=A0a
attribute [go_sem] gh YD Pq YH sz2 YJ OR OS YO YP YT YU YY YZ Y3 Y4 Y8 Y9 Zd Ze Ui Uj Un Uo Us Ut Ux Uy UC UD UF UG UK UL UN UO US UT Cf Cg UZ U0 U4 U5 MR MS Vb Vc Vg Vh Vl Vm Ps Pt Vs Vt Vx Vy VC VD Pv Pw VJ VK VO VP VT VU VY VZ V4 V5 V7 V8 Wc Wd Wh Wi Wm Wn Wr Ws Wu Wv Wz WA WD WF WJ WK WM WN WP WR WW WX W4 W5 W7 W8 Xd Xe Xg Xh Xl Xm Xo Xp Xr Xs Xu Xv Xx Xy XA XB XF XG XK XL XN XO XQ XR XW XX X4 X5 X8 X9 Pz PA PC PE PG PH PK PM PQ PS PW PY P2 P3 P7 P8 Qc Qd Qh Qi Qm Qn Qp Qq Qu Qv Qz QA QC QD QH QI QN QO QT QU QY QZ Q1 Q2 Q6 Q7 Rb Rc Rh Ri Rm Rn Rr Rt Ry Rz RD RE RI RJ RN RO RS RT RX RY R1 R3 R7 R8 Sc Sd Sh Si YE YI YK YN YQ YV Y0 Y5 Za Zf Uk Up Uu Uz UE UH UM UP UU UX U1 U6 U9 Vd Vi Vn Vq Vu Vz VE VH VL VQ VV V1 V6 V9 We Wj Wo Wt Ww WC WG WL WO WS WY W6 W9 Xf Xi Xn Xq Xt Xw Xz XC XH XM XP XT XY X6 Ya PB PF PJ PN PT PZ P4 P9 Qe Qj Qo Qr Qw QB QE QK QP QV Q0 Q3 Q8 Re Rj Ro Ru RA RF RK RP RU RZ R4 R9 Se Sj YF YG YL YM OT Uh YR YS YW YX Y1 Y2 Y6 Y7 Zb Zc Zg Zh Ul Um Uq Ur Uv Uw UA UB UI UJ UQ UR UV UW Ch UY U2 U3 U7 U8 MT Va Ve Vf Vj Vk Vo Vp Pu Vr Vv Vw VA VB VF VG Px VI VM VN VR VS VW VX V2 V3 Wa Wb Wf Wg Wk Wl Wp Wq Wx Wy WH WI WT WV WZ W3 Xa Xc Xj Xk XD XE XI XJ XU XV XZ X0 X7 Py Yb Yc PO PP PU PV P0 P1 P5 P6 Qa Qb Qf Qg Qk Ql Qs Qt Qx Qy QF QG QL QM QQ QR QW QX Q4 Q5 Q9 Ra Rf Rg Rk Rl Rp Rq Rv Rw RB RC RG RH RL RM RQ RR RV RW R5 R6 Sa Sb Sf Sg Sk Sl Try.underlying0 Try.underlying1 Try.underlying2 Try.underlying3 Try.underlying4 Try.underlying5 Try.underlying6 Try.underlying7 Try.eqGuardType7 Try.stoodInHeld7 Try.underlying8 Try.eqGuardType8 Try.stoodInHeld8 Try.underlying9 Try.underlying10 Try.underlying12 Try.underlying16 Try.underlying17 Try.underlying20 Try.underlying21 Try.underlying22 Try.underlying23 Try.underlying24 Try.eqGuardType24 Try.stoodInHeld24 Try.underlying25 Try.eqGuardType25 Try.stoodInHeld25 Try.underlying26 Try.eqGuardType26 Try.stoodInHeld26 Try.underlying27 Try.eqGuardType27 Try.stoodInHeld27 Try.underlying28 Try.underlying29 Try.eqGuardType29 Try.stoodInHeld29 Try.underlying30 Try.eqGuardType30 Try.stoodInHeld30 Try.underlying31 Try.eqGuardType31 Try.stoodInHeld31 Try.underlying32 Try.eqGuardType32 Try.stoodInHeld32 Try.underlying33 Try.underlying35 Try.underlying36 Try.eqGuardType36 Try.stoodInHeld36 Try.underlying37 Try.eqGuardType37 Try.stoodInHeld37 Try.underlying39 Try.underlying40 Try.eqGuardType40 Try.stoodInHeld40 Try.underlying41 Try.eqGuardType41 Try.stoodInHeld41 Try.underlying43 Try.underlying44 Try.underlying47 Try.underlying48 Try.underlying49 Try.eqGuardType49 Try.stoodInHeld49 Try.underlying50 Try.eqGuardType50 Try.stoodInHeld50 Try.underlying52 Try.underlying55 Try.underlying56 Try.underlying58 Try.underlying60 Try.underlying61 Try.underlying70 Try.eqGuardType70 Try.stoodInHeld70 Try.underlying71 Try.eqGuardType71 Try.stoodInHeld71 Try.underlying72 Try.underlying75 Try.underlying78 Try.underlying79 Try.underlying80 Try.underlying81 Try.underlying82 Try.underlying84 Try.underlying86 Try.underlying91 Try.underlying92 Try.underlying93 Try.underlying94 Try.underlying96 Try.eqGuardType96 Try.stoodInHeld96 Try.underlying97 Try.eqGuardType97 Try.stoodInHeld97 Try.underlying98 Try.eqGuardType98 Try.stoodInHeld98 Try.underlying99 Try.underlying102 Try.underlying103 Try.underlying104 Try.underlying105 Try.underlying106 Try.underlying107 Try.eqGuardType107 Try.stoodInHeld107 Try.underlying108 Try.eqGuardType108 Try.stoodInHeld108 Try.underlying112 Try.underlying114 Try.eqGuardType114 Try.stoodInHeld114 Try.underlying115 Try.eqGuardType115 Try.stoodInHeld115 Try.underlying119 Try.underlying120 Try.underlying121 Try.underlying125 Try.underlying130 Try.underlying132 Try.underlying134 Try.underlying135 Try.underlying136 Try.underlying142 Try.underlying143 Try.underlying144 Try.underlying148 Try.underlying150 Try.underlying151 Try.underlying157 Try.eqGuardType157 Try.underlying158 Try.eqGuardType158 Try.stoodInHeld158 Try.underlying159 Try.eqGuardType159 Try.stoodInHeld159 Try.underlying160 Try.underlying161 Try.underlying162 Try.underlying163 Try.underlying164 Try.underlying165 Try.eqGuardType165 Try.stoodInHeld165 Try.underlying166 Try.eqGuardType166 Try.stoodInHeld166
end Go.Proofs.Ytmfojhkjbkombaa
