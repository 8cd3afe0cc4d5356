/- What the run over plain data asks of each type of this seat's program, by program. -/
import Derived.Test.YtmfojhkjbkombaaGreatMPB
import Derived.Test.YtmfojhkjbkombaaGreatProg
import Derived.KernelRfl
namespace Go.Proofs.YtmfojhkjbkombaaGreat
set_option linter.unusedSimpArgs false
open Go Go.RowKit
theorem fY:bm Tryz.prog 0=some 1:=A0a
theorem XP:bT Tryz.prog 0=some 0:=A0a
theorem XQ:aK Tryz.prog 0=some false:=A0a
theorem XR:ay Tryz.prog 0=some [.x (Value.tuple #[])]:=A0a
theorem XT:aG Tryz.prog 0=some (.x (Value.tuple #[])):=A0a
theorem OS:bm Tryz.prog 1=some 1:=A0a
theorem XU:bT Tryz.prog 1=some 8:=A0a
theorem XV:aK Tryz.prog 1=some false:=A0a
theorem XI:bm Tryz.prog 2=some 1:=A0a
theorem XW:bT Tryz.prog 2=some 8:=A0a
theorem XX:aK Tryz.prog 2=some false:=A0a
theorem XY:ay Tryz.prog 2=some [.x (Value.int IntKind.i64 0)]:=A0a
theorem XZ:aG Tryz.prog 2=some (.x (Value.int IntKind.i64 0)):=A0a
theorem OT:bm Tryz.prog 3=some 1:=A0a
theorem OU:bT Tryz.prog 3=some 8:=A0a
theorem X0:aK Tryz.prog 3=some false:=A0a
theorem OV:ay Tryz.prog 3=some [.x (Value.int IntKind.i64 0)]:=A0a
theorem TL:aG Tryz.prog 3=some (.x (Value.int IntKind.i64 0)):=A0a
theorem X4:bm Tryz.prog 4=some 1:=A0a
theorem X5:bT Tryz.prog 4=some 1:=A0a
theorem X6:aK Tryz.prog 4=some false:=A0a
theorem X7:ay Tryz.prog 4=some [.x (Value.bool false)]:=A0a
theorem X8:aG Tryz.prog 4=some (.x (Value.bool false)):=A0a
theorem X9:bm Tryz.prog 5=some 1:=A0a
theorem Ya:bT Tryz.prog 5=some 1:=A0a
theorem Yb:aK Tryz.prog 5=some false:=A0a
theorem Yc:ay Tryz.prog 5=some [.x (Value.int IntKind.u8 0)]:=A0a
theorem Yd:aG Tryz.prog 5=some (.x (Value.int IntKind.u8 0)):=A0a
theorem Ye:bm Tryz.prog 6=some 1:=A0a
theorem Yf:bT Tryz.prog 6=some 1:=A0a
theorem Yg:aK Tryz.prog 6=some false:=A0a
theorem Yh:ay Tryz.prog 6=some [.x (Value.int IntKind.u8 0)]:=A0a
theorem Yi:aG Tryz.prog 6=some (.x (Value.int IntKind.u8 0)):=A0a
theorem Yj:bm Tryz.prog 7=some 4:=A0a
theorem Yk:bT Tryz.prog 7=some 24:=A0a
theorem Yl:aK Tryz.prog 7=some true:=A0a
theorem Ym:ay Tryz.prog 7=some [.x (Value.int IntKind.i64 0),.x (Value.int IntKind.i64 0),.x (Value.bool false),.x (Value.int IntKind.u8 0)]:=A0a
theorem Yn:aG Tryz.prog 7=some (.agg [.x (Value.int IntKind.i64 0),.x (Value.int IntKind.i64 0),.x (Value.bool false),.x (Value.int IntKind.u8 0)]):=A0a
theorem Yo:bm Tryz.prog 8=some 4:=A0a
theorem Yp:bT Tryz.prog 8=some 24:=A0a
theorem Yq:aK Tryz.prog 8=some true:=A0a
theorem Yr:ay Tryz.prog 8=some [.x (Value.int IntKind.i64 0),.x (Value.int IntKind.i64 0),.x (Value.bool false),.x (Value.int IntKind.u8 0)]:=A0a
theorem Ys:aG Tryz.prog 8=some (.agg [.x (Value.int IntKind.i64 0),.x (Value.int IntKind.i64 0),.x (Value.bool false),.x (Value.int IntKind.u8 0)]):=A0a
theorem Yt:bm Tryz.prog 9=some 1:=A0a
theorem Yu:bT Tryz.prog 9=some 16:=A0a
theorem Yv:aK Tryz.prog 9=some false:=A0a
theorem Yw:ay Tryz.prog 9=some [.x (Value.string ⟨#[]⟩)]:=A0a
theorem Yx:aG Tryz.prog 9=some (.x (Value.string ⟨#[]⟩)):=A0a
theorem TM:bm Tryz.prog 10=some 1:=A0a
theorem TN:bT Tryz.prog 10=some 16:=A0a
theorem TO:aK Tryz.prog 10=some false:=A0a
theorem TP:ay Tryz.prog 10=some [.x (Value.string ⟨#[]⟩)]:=A0a
theorem TQ:aG Tryz.prog 10=some (.x (Value.string ⟨#[]⟩)):=A0a
theorem TR:bm Tryz.prog 12=some 1:=A0a
theorem TS:bT Tryz.prog 12=some 8:=A0a
theorem TT:aK Tryz.prog 12=some false:=A0a
theorem TU:ay Tryz.prog 12=some [.x (Value.int IntKind.u64 0)]:=A0a
theorem TV:aG Tryz.prog 12=some (.x (Value.int IntKind.u64 0)):=A0a
theorem TW:bm Tryz.prog 16=some 1:=A0a
theorem TY:bT Tryz.prog 16=some 8:=A0a
theorem TZ:aK Tryz.prog 16=some false:=A0a
theorem T0:ay Tryz.prog 16=some [.x (Value.pointer none)]:=A0a
theorem T1:aG Tryz.prog 16=some (.x (Value.pointer none)):=A0a
theorem T2:bm Tryz.prog 17=some 1:=A0a
theorem T4:bT Tryz.prog 17=some 8:=A0a
theorem T5:aK Tryz.prog 17=some false:=A0a
theorem T6:ay Tryz.prog 17=some [.x (Value.pointer none)]:=A0a
theorem T7:aG Tryz.prog 17=some (.x (Value.pointer none)):=A0a
theorem T8:bm Tryz.prog 20=some 1:=A0a
theorem T9:bT Tryz.prog 20=some 16:=A0a
theorem Ua:aK Tryz.prog 20=some false:=A0a
theorem Ub:bm Tryz.prog 21=some 1:=A0a
theorem Uc:bT Tryz.prog 21=some 4:=A0a
theorem Ud:aK Tryz.prog 21=some false:=A0a
theorem Ue:ay Tryz.prog 21=some [.x (Value.int IntKind.i32 0)]:=A0a
theorem Uf:aG Tryz.prog 21=some (.x (Value.int IntKind.i32 0)):=A0a
theorem Ug:bm Tryz.prog 22=some 1:=A0a
theorem Uh:bT Tryz.prog 22=some 24:=A0a
theorem Ui:aK Tryz.prog 22=some false:=A0a
theorem Uj:ay Tryz.prog 22=some [.sl true 0 [] none]:=A0a
theorem Uk:aG Tryz.prog 22=some (.sl true 0 [] none):=A0a
theorem Ul:bm Tryz.prog 23=some 1:=A0a
theorem Um:bT Tryz.prog 23=some 8:=A0a
theorem Un:aK Tryz.prog 23=some false:=A0a
theorem Uo:bm Tryz.prog 24=some 1:=A0a
theorem Up:bT Tryz.prog 24=some 8:=A0a
theorem Uq:aK Tryz.prog 24=some false:=A0a
theorem Ur:bm Tryz.prog 25=some 1:=A0a
theorem Us:bT Tryz.prog 25=some 24:=A0a
theorem Ut:aK Tryz.prog 25=some false:=A0a
theorem Uu:ay Tryz.prog 25=some [.sl true 0 [] none]:=A0a
theorem Uv:aG Tryz.prog 25=some (.sl true 0 [] none):=A0a
theorem OW:bm Tryz.prog 30=some 1:=A0a
theorem OX:bT Tryz.prog 30=some 24:=A0a
theorem Uw:aK Tryz.prog 30=some false:=A0a
theorem OY:ay Tryz.prog 30=some [.sl true 0 [] none]:=A0a
theorem Ux:aG Tryz.prog 30=some (.sl true 0 [] none):=A0a
theorem Uy:bm Tryz.prog 31=some 2:=A0a
theorem Uz:bT Tryz.prog 31=some 32:=A0a
theorem UA:aK Tryz.prog 31=some true:=A0a
theorem UB:ay Tryz.prog 31=some [.sl true 0 [] none,.x (Value.bool false)]:=A0a
theorem UC:aG Tryz.prog 31=some (.agg [.sl true 0 [] none,.x (Value.bool false)]):=A0a
theorem OZ:bm Tryz.prog 32=some 2:=A0a
theorem O0:bT Tryz.prog 32=some 32:=A0a
theorem UD:aK Tryz.prog 32=some true:=A0a
theorem O6:ay Tryz.prog 32=some [.sl true 0 [] none,.x (Value.bool false)]:=A0a
theorem UE:aG Tryz.prog 32=some (.agg [.sl true 0 [] none,.x (Value.bool false)]):=A0a
theorem UF:bm Tryz.prog 34=some 1:=A0a
theorem UG:bT Tryz.prog 34=some 8:=A0a
theorem UH:aK Tryz.prog 34=some false:=A0a
theorem UI:ay Tryz.prog 34=some [.x (Value.pointer none)]:=A0a
theorem UJ:aG Tryz.prog 34=some (.x (Value.pointer none)):=A0a
theorem UK:bm Tryz.prog 36=some 3:=A0a
theorem UL:bT Tryz.prog 36=some 32:=A0a
theorem UM:aK Tryz.prog 36=some true:=A0a
theorem UN:ay Tryz.prog 36=some [.x (Value.string ⟨#[]⟩),.x (Value.int IntKind.i64 0),.x (Value.int IntKind.i64 0)]:=A0a
theorem UO:aG Tryz.prog 36=some (.agg [.x (Value.string ⟨#[]⟩),.x (Value.int IntKind.i64 0),.x (Value.int IntKind.i64 0)]):=A0a
theorem ns:bm Tryz.prog 37=some 3:=A0a
theorem nt:bT Tryz.prog 37=some 32:=A0a
theorem UP:aK Tryz.prog 37=some true:=A0a
theorem nu:ay Tryz.prog 37=some [.x (Value.string ⟨#[]⟩),.x (Value.int IntKind.i64 0),.x (Value.int IntKind.i64 0)]:=A0a
theorem UQ:aG Tryz.prog 37=some (.agg [.x (Value.string ⟨#[]⟩),.x (Value.int IntKind.i64 0),.x (Value.int IntKind.i64 0)]):=A0a
theorem UR:bm Tryz.prog 40=some 1:=A0a
theorem US:bT Tryz.prog 40=some 8:=A0a
theorem UT:aK Tryz.prog 40=some false:=A0a
theorem UU:bm Tryz.prog 41=some 1:=A0a
theorem UV:bT Tryz.prog 41=some 24:=A0a
theorem UW:aK Tryz.prog 41=some false:=A0a
theorem UX:ay Tryz.prog 41=some [.sl true 0 [] none]:=A0a
theorem UY:aG Tryz.prog 41=some (.sl true 0 [] none):=A0a
theorem UZ:bm Tryz.prog 42=some 1:=A0a
theorem U0:bT Tryz.prog 42=some 8:=A0a
theorem U1:aK Tryz.prog 42=some false:=A0a
theorem U2:ay Tryz.prog 42=some [.x (Value.int IntKind.u64 0)]:=A0a
theorem U3:aG Tryz.prog 42=some (.x (Value.int IntKind.u64 0)):=A0a
theorem U4:bm Tryz.prog 43=some 3:=A0a
theorem U5:bT Tryz.prog 43=some 32:=A0a
theorem U6:aK Tryz.prog 43=some true:=A0a
theorem U7:ay Tryz.prog 43=some [.x (Value.int IntKind.i64 0),.x (Value.int IntKind.i64 0),.x (Value.string ⟨#[]⟩)]:=A0a
theorem U8:aG Tryz.prog 43=some (.agg [.x (Value.int IntKind.i64 0),.x (Value.int IntKind.i64 0),.x (Value.string ⟨#[]⟩)]):=A0a
theorem U9:bm Tryz.prog 44=some 3:=A0a
theorem Va:bT Tryz.prog 44=some 32:=A0a
theorem Vb:aK Tryz.prog 44=some true:=A0a
theorem Vc:ay Tryz.prog 44=some [.x (Value.int IntKind.i64 0),.x (Value.int IntKind.i64 0),.x (Value.string ⟨#[]⟩)]:=A0a
theorem Vd:aG Tryz.prog 44=some (.agg [.x (Value.int IntKind.i64 0),.x (Value.int IntKind.i64 0),.x (Value.string ⟨#[]⟩)]):=A0a
theorem Ve:bm Tryz.prog 45=some 1:=A0a
theorem Vf:bT Tryz.prog 45=some 24:=A0a
theorem Vg:aK Tryz.prog 45=some false:=A0a
theorem Vh:ay Tryz.prog 45=some [.sl true 0 [] none]:=A0a
theorem Vi:aG Tryz.prog 45=some (.sl true 0 [] none):=A0a
theorem Vj:bm Tryz.prog 46=some 13:=A0a
theorem Vk:bT Tryz.prog 46=some 160:=A0a
theorem Vl:aK Tryz.prog 46=some true:=A0a
theorem Vm:ay Tryz.prog 46=some [.x (Value.int IntKind.i64 0),.x (Value.string ⟨#[]⟩),.x (Value.string ⟨#[]⟩),.x (Value.int IntKind.i64 0),.x (Value.int IntKind.i64 0),.x (Value.string ⟨#[]⟩),.x (Value.string ⟨#[]⟩),.x (Value.int IntKind.i64 0),.x (Value.int IntKind.i64 0),.x (Value.string ⟨#[]⟩),.x (Value.int IntKind.i64 0),.x (Value.int IntKind.i64 0),.sl true 0 [] none]:=A0a
theorem Vn:aG Tryz.prog 46=some (.agg [.x (Value.int IntKind.i64 0),.x (Value.string ⟨#[]⟩),.x (Value.string ⟨#[]⟩),.x (Value.int IntKind.i64 0),.x (Value.int IntKind.i64 0),.x (Value.string ⟨#[]⟩),.x (Value.string ⟨#[]⟩),.x (Value.int IntKind.i64 0),.x (Value.int IntKind.i64 0),.x (Value.string ⟨#[]⟩),.x (Value.int IntKind.i64 0),.x (Value.int IntKind.i64 0),.sl true 0 [] none]):=A0a
theorem Vo:bm Tryz.prog 47=some 13:=A0a
theorem Vp:bT Tryz.prog 47=some 160:=A0a
theorem Vq:aK Tryz.prog 47=some true:=A0a
theorem Vr:ay Tryz.prog 47=some [.x (Value.int IntKind.i64 0),.x (Value.string ⟨#[]⟩),.x (Value.string ⟨#[]⟩),.x (Value.int IntKind.i64 0),.x (Value.int IntKind.i64 0),.x (Value.string ⟨#[]⟩),.x (Value.string ⟨#[]⟩),.x (Value.int IntKind.i64 0),.x (Value.int IntKind.i64 0),.x (Value.string ⟨#[]⟩),.x (Value.int IntKind.i64 0),.x (Value.int IntKind.i64 0),.sl true 0 [] none]:=A0a
theorem Vs:aG Tryz.prog 47=some (.agg [.x (Value.int IntKind.i64 0),.x (Value.string ⟨#[]⟩),.x (Value.string ⟨#[]⟩),.x (Value.int IntKind.i64 0),.x (Value.int IntKind.i64 0),.x (Value.string ⟨#[]⟩),.x (Value.string ⟨#[]⟩),.x (Value.int IntKind.i64 0),.x (Value.int IntKind.i64 0),.x (Value.string ⟨#[]⟩),.x (Value.int IntKind.i64 0),.x (Value.int IntKind.i64 0),.sl true 0 [] none]):=A0a
theorem Vt:bm Tryz.prog 48=some 20:=A0a
theorem Vu:bT Tryz.prog 48=some 232:=A0a
theorem Vv:aK Tryz.prog 48=some true:=A0a
theorem Vw:ay Tryz.prog 48=some [.x (Value.string ⟨#[]⟩),.x (Value.int IntKind.i64 0),.x (Value.int IntKind.i64 0),.x (Value.bool false),.x (Value.int IntKind.i64 0),.x (Value.string ⟨#[]⟩),.x (Value.string ⟨#[]⟩),.x (Value.int IntKind.i64 0),.x (Value.int IntKind.i64 0),.x (Value.string ⟨#[]⟩),.x (Value.string ⟨#[]⟩),.x (Value.int IntKind.i64 0),.x (Value.int IntKind.i64 0),.x (Value.string ⟨#[]⟩),.x (Value.int IntKind.i64 0),.x (Value.int IntKind.i64 0),.sl true 0 [] none,.x (Value.int IntKind.i64 0),.x (Value.int IntKind.i64 0),.x (Value.string ⟨#[]⟩)]:=A0a
theorem Vx:aG Tryz.prog 48=some (.agg [.x (Value.string ⟨#[]⟩),.x (Value.int IntKind.i64 0),.x (Value.int IntKind.i64 0),.x (Value.bool false),.x (Value.int IntKind.i64 0),.x (Value.string ⟨#[]⟩),.x (Value.string ⟨#[]⟩),.x (Value.int IntKind.i64 0),.x (Value.int IntKind.i64 0),.x (Value.string ⟨#[]⟩),.x (Value.string ⟨#[]⟩),.x (Value.int IntKind.i64 0),.x (Value.int IntKind.i64 0),.x (Value.string ⟨#[]⟩),.x (Value.int IntKind.i64 0),.x (Value.int IntKind.i64 0),.sl true 0 [] none,.x (Value.int IntKind.i64 0),.x (Value.int IntKind.i64 0),.x (Value.string ⟨#[]⟩)]):=A0a
theorem xj:bm Tryz.prog 49=some 20:=A0a
theorem EP:bT Tryz.prog 49=some 232:=A0a
theorem Vy:aK Tryz.prog 49=some true:=A0a
theorem EQ:ay Tryz.prog 49=some [.x (Value.string ⟨#[]⟩),.x (Value.int IntKind.i64 0),.x (Value.int IntKind.i64 0),.x (Value.bool false),.x (Value.int IntKind.i64 0),.x (Value.string ⟨#[]⟩),.x (Value.string ⟨#[]⟩),.x (Value.int IntKind.i64 0),.x (Value.int IntKind.i64 0),.x (Value.string ⟨#[]⟩),.x (Value.string ⟨#[]⟩),.x (Value.int IntKind.i64 0),.x (Value.int IntKind.i64 0),.x (Value.string ⟨#[]⟩),.x (Value.int IntKind.i64 0),.x (Value.int IntKind.i64 0),.sl true 0 [] none,.x (Value.int IntKind.i64 0),.x (Value.int IntKind.i64 0),.x (Value.string ⟨#[]⟩)]:=A0a
theorem Vz:aG Tryz.prog 49=some (.agg [.x (Value.string ⟨#[]⟩),.x (Value.int IntKind.i64 0),.x (Value.int IntKind.i64 0),.x (Value.bool false),.x (Value.int IntKind.i64 0),.x (Value.string ⟨#[]⟩),.x (Value.string ⟨#[]⟩),.x (Value.int IntKind.i64 0),.x (Value.int IntKind.i64 0),.x (Value.string ⟨#[]⟩),.x (Value.string ⟨#[]⟩),.x (Value.int IntKind.i64 0),.x (Value.int IntKind.i64 0),.x (Value.string ⟨#[]⟩),.x (Value.int IntKind.i64 0),.x (Value.int IntKind.i64 0),.sl true 0 [] none,.x (Value.int IntKind.i64 0),.x (Value.int IntKind.i64 0),.x (Value.string ⟨#[]⟩)]):=A0a
theorem VA:bm Tryz.prog 52=some 1:=A0a
theorem VB:bT Tryz.prog 52=some 24:=A0a
theorem VC:aK Tryz.prog 52=some false:=A0a
theorem VD:ay Tryz.prog 52=some [.sl true 0 [] none]:=A0a
theorem VE:aG Tryz.prog 52=some (.sl true 0 [] none):=A0a
theorem VF:bm Tryz.prog 53=some 3:=A0a
theorem VG:bT Tryz.prog 53=some 72:=A0a
theorem VH:aK Tryz.prog 53=some true:=A0a
theorem VI:ay Tryz.prog 53=some [.sl true 0 [] none,.sl true 0 [] none,.sl true 0 [] none]:=A0a
theorem VJ:aG Tryz.prog 53=some (.agg [.sl true 0 [] none,.sl true 0 [] none,.sl true 0 [] none]):=A0a
theorem VK:bm Tryz.prog 54=some 3:=A0a
theorem VL:bT Tryz.prog 54=some 72:=A0a
theorem VM:aK Tryz.prog 54=some true:=A0a
theorem VN:ay Tryz.prog 54=some [.sl true 0 [] none,.sl true 0 [] none,.sl true 0 [] none]:=A0a
theorem VO:aG Tryz.prog 54=some (.agg [.sl true 0 [] none,.sl true 0 [] none,.sl true 0 [] none]):=A0a
theorem VP:bm Tryz.prog 56=some 1:=A0a
theorem VQ:bT Tryz.prog 56=some 8:=A0a
theorem VR:aK Tryz.prog 56=some false:=A0a
theorem VS:bm Tryz.prog 59=some 1:=A0a
theorem VT:bT Tryz.prog 59=some 8:=A0a
theorem VU:aK Tryz.prog 59=some false:=A0a
theorem VV:ay Tryz.prog 59=some [.x (Value.pointer none)]:=A0a
theorem VW:aG Tryz.prog 59=some (.x (Value.pointer none)):=A0a
theorem VX:bm Tryz.prog 60=some 1:=A0a
theorem VY:bT Tryz.prog 60=some 24:=A0a
theorem VZ:aK Tryz.prog 60=some false:=A0a
theorem V1:ay Tryz.prog 60=some [.sl true 0 [] none]:=A0a
theorem V2:aG Tryz.prog 60=some (.sl true 0 [] none):=A0a
theorem V3:bm Tryz.prog 61=some 1:=A0a
theorem V4:bT Tryz.prog 61=some 24:=A0a
theorem V5:aK Tryz.prog 61=some true:=A0a
theorem V6:ay Tryz.prog 61=some [.sl true 0 [] none]:=A0a
theorem V7:aG Tryz.prog 61=some (.agg [.sl true 0 [] none]):=A0a
theorem V8:bm Tryz.prog 62=some 1:=A0a
theorem V9:bT Tryz.prog 62=some 24:=A0a
theorem Wa:aK Tryz.prog 62=some true:=A0a
theorem Wb:ay Tryz.prog 62=some [.sl true 0 [] none]:=A0a
theorem Wc:aG Tryz.prog 62=some (.agg [.sl true 0 [] none]):=A0a
theorem Wd:bm Tryz.prog 64=some 1:=A0a
theorem We:bT Tryz.prog 64=some 8:=A0a
theorem Wf:aK Tryz.prog 64=some false:=A0a
theorem Wg:bm Tryz.prog 67=some 1:=A0a
theorem Wh:bT Tryz.prog 67=some 24:=A0a
theorem Wi:aK Tryz.prog 67=some false:=A0a
theorem Wj:ay Tryz.prog 67=some [.sl true 0 [] none]:=A0a
theorem Wk:aG Tryz.prog 67=some (.sl true 0 [] none):=A0a
theorem Wl:bm Tryz.prog 70=some 2:=A0a
theorem Wm:bT Tryz.prog 70=some 48:=A0a
theorem Wn:aK Tryz.prog 70=some true:=A0a
theorem Wo:ay Tryz.prog 70=some [.sl true 0 [] none,.sl true 0 [] none]:=A0a
theorem Wp:aG Tryz.prog 70=some (.agg [.sl true 0 [] none,.sl true 0 [] none]):=A0a
theorem Wq:bm Tryz.prog 71=some 2:=A0a
theorem Wr:bT Tryz.prog 71=some 48:=A0a
theorem Ws:aK Tryz.prog 71=some true:=A0a
theorem Wt:ay Tryz.prog 71=some [.sl true 0 [] none,.sl true 0 [] none]:=A0a
theorem Wu:aG Tryz.prog 71=some (.agg [.sl true 0 [] none,.sl true 0 [] none]):=A0a
theorem Wv:bm Tryz.prog 72=some 1:=A0a
theorem Ww:bT Tryz.prog 72=some 8:=A0a
theorem Wx:aK Tryz.prog 72=some false:=A0a
theorem Wy:bm Tryz.prog 75=some 1:=A0a
theorem Wz:bT Tryz.prog 75=some 8:=A0a
theorem WA:aK Tryz.prog 75=some false:=A0a
theorem WC:ay Tryz.prog 75=some [.x (Value.pointer none)]:=A0a
theorem WD:aG Tryz.prog 75=some (.x (Value.pointer none)):=A0a
theorem WF:bm Tryz.prog 77=some 1:=A0a
theorem WG:bT Tryz.prog 77=some 8:=A0a
theorem WH:aK Tryz.prog 77=some false:=A0a
theorem WI:ay Tryz.prog 77=some [.x (Value.map none)]:=A0a
theorem WJ:aG Tryz.prog 77=some (.x (Value.map none)):=A0a
theorem WK:bm Tryz.prog 78=some 1:=A0a
theorem WL:bT Tryz.prog 78=some 8:=A0a
theorem WM:aK Tryz.prog 78=some false:=A0a
theorem WN:bm Tryz.prog 79=some 1:=A0a
theorem WO:bT Tryz.prog 79=some 8:=A0a
theorem WP:aK Tryz.prog 79=some false:=A0a
theorem WR:bm Tryz.prog 89=some 6:=A0a
theorem WS:bT Tryz.prog 89=some 64:=A0a
theorem WT:aK Tryz.prog 89=some true:=A0a
theorem WV:ay Tryz.prog 89=some [.x (Value.string ⟨#[]⟩),.x (Value.int IntKind.i64 0),.x (Value.int IntKind.i64 0),.x (Value.string ⟨#[]⟩),.x (Value.int IntKind.i64 0),.x (Value.int IntKind.i64 0)]:=A0a
theorem WW:aG Tryz.prog 89=some (.agg [.x (Value.string ⟨#[]⟩),.x (Value.int IntKind.i64 0),.x (Value.int IntKind.i64 0),.x (Value.string ⟨#[]⟩),.x (Value.int IntKind.i64 0),.x (Value.int IntKind.i64 0)]):=A0a
theorem WX:bm Tryz.prog 90=some 6:=A0a
theorem WY:bT Tryz.prog 90=some 64:=A0a
theorem WZ:aK Tryz.prog 90=some true:=A0a
theorem W3:ay Tryz.prog 90=some [.x (Value.string ⟨#[]⟩),.x (Value.int IntKind.i64 0),.x (Value.int IntKind.i64 0),.x (Value.string ⟨#[]⟩),.x (Value.int IntKind.i64 0),.x (Value.int IntKind.i64 0)]:=A0a
theorem W4:aG Tryz.prog 90=some (.agg [.x (Value.string ⟨#[]⟩),.x (Value.int IntKind.i64 0),.x (Value.int IntKind.i64 0),.x (Value.string ⟨#[]⟩),.x (Value.int IntKind.i64 0),.x (Value.int IntKind.i64 0)]):=A0a
theorem W5:bm Tryz.prog 93=some 4:=A0a
theorem W6:bT Tryz.prog 93=some 80:=A0a
theorem W7:aK Tryz.prog 93=some true:=A0a
theorem W8:ay Tryz.prog 93=some [.sl true 0 [] none,.x (Value.map none),.sl true 0 [] none,.sl true 0 [] none]:=A0a
theorem W9:aG Tryz.prog 93=some (.agg [.sl true 0 [] none,.x (Value.map none),.sl true 0 [] none,.sl true 0 [] none]):=A0a
theorem Xa:bm Tryz.prog 94=some 4:=A0a
theorem Xc:bT Tryz.prog 94=some 80:=A0a
theorem Xd:aK Tryz.prog 94=some true:=A0a
theorem Xe:ay Tryz.prog 94=some [.sl true 0 [] none,.x (Value.map none),.sl true 0 [] none,.sl true 0 [] none]:=A0a
theorem Xf:aG Tryz.prog 94=some (.agg [.sl true 0 [] none,.x (Value.map none),.sl true 0 [] none,.sl true 0 [] none]):=A0a
theorem Xg:bm Tryz.prog 97=some 1:=A0a
theorem Xh:bT Tryz.prog 97=some 0:=A0a
theorem Xi:aK Tryz.prog 97=some false:=A0a
theorem Xj:ay Tryz.prog 97=some [.x (Value.tuple #[Value.int IntKind.i64 0,Value.bool false])]:=A0a
theorem Xk:aG Tryz.prog 97=some (.x (Value.tuple #[Value.int IntKind.i64 0,Value.bool false])):=A0a
theorem O7:bm Tryz.prog 100=some 1:=A0a
theorem O8:bT Tryz.prog 100=some 8:=A0a
theorem O9:aK Tryz.prog 100=some false:=A0a
theorem Pa:bm Tryz.prog 101=some 1:=A0a
theorem Pb:bT Tryz.prog 101=some 24:=A0a
theorem Pc:aK Tryz.prog 101=some false:=A0a
theorem Pd:ay Tryz.prog 101=some [.sl true 0 [] none]:=A0a
theorem Pe:aG Tryz.prog 101=some (.sl true 0 [] none):=A0a
theorem Pf:bm Tryz.prog 102=some 1:=A0a
theorem Pg:bT Tryz.prog 102=some 16:=A0a
theorem Ph:aK Tryz.prog 102=some false:=A0a
theorem Pi:bm Tryz.prog 103=some 1:=A0a
theorem Pj:bT Tryz.prog 103=some 16:=A0a
theorem Pk:aK Tryz.prog 103=some false:=A0a
theorem Pn:bm Tryz.prog 104=some 1:=A0a
theorem Po:bT Tryz.prog 104=some 8:=A0a
theorem Pp:aK Tryz.prog 104=some false:=A0a
theorem Pq:bm Tryz.prog 106=some 1:=A0a
theorem Ps:bT Tryz.prog 106=some 8:=A0a
theorem Pt:aK Tryz.prog 106=some false:=A0a
theorem Pu:bm Tryz.prog 108=some 1:=A0a
theorem Pv:bT Tryz.prog 108=some 8:=A0a
theorem Pw:aK Tryz.prog 108=some false:=A0a
theorem Px:bm Tryz.prog 126=some 1:=A0a
theorem Py:bT Tryz.prog 126=some 8:=A0a
theorem Pz:aK Tryz.prog 126=some false:=A0a
theorem PA:ay Tryz.prog 126=some [.x (Value.pointer none)]:=A0a
theorem PB:aG Tryz.prog 126=some (.x (Value.pointer none)):=A0a
theorem PC:bm Tryz.prog 127=some 1:=A0a
theorem PE:bT Tryz.prog 127=some 8:=A0a
theorem PF:aK Tryz.prog 127=some false:=A0a
theorem PG:ay Tryz.prog 127=some [.x (Value.int IntKind.u64 0)]:=A0a
theorem PH:aG Tryz.prog 127=some (.x (Value.int IntKind.u64 0)):=A0a
theorem PJ:bm Tryz.prog 128=some 3:=A0a
theorem PK:bT Tryz.prog 128=some 24:=A0a
theorem PM:aK Tryz.prog 128=some true:=A0a
theorem PN:ay Tryz.prog 128=some [.x (Value.pointer none),.x (Value.pointer none),.x (Value.int IntKind.u64 0)]:=A0a
theorem PO:aG Tryz.prog 128=some (.agg [.x (Value.pointer none),.x (Value.pointer none),.x (Value.int IntKind.u64 0)]):=A0a
theorem PP:bm Tryz.prog 129=some 3:=A0a
theorem PQ:bT Tryz.prog 129=some 24:=A0a
theorem PR:aK Tryz.prog 129=some true:=A0a
theorem PS:ay Tryz.prog 129=some [.x (Value.pointer none),.x (Value.pointer none),.x (Value.int IntKind.u64 0)]:=A0a
theorem PT:aG Tryz.prog 129=some (.agg [.x (Value.pointer none),.x (Value.pointer none),.x (Value.int IntKind.u64 0)]):=A0a
theorem PU:bm Tryz.prog 134=some 2:=A0a
theorem PV:bT Tryz.prog 134=some 16:=A0a
theorem PW:aK Tryz.prog 134=some true:=A0a
theorem PY:ay Tryz.prog 134=some [.x (Value.nilFunc),.x (Value.nilFunc)]:=A0a
theorem PZ:aG Tryz.prog 134=some (.agg [.x (Value.nilFunc),.x (Value.nilFunc)]):=A0a
theorem P0:bm Tryz.prog 135=some 2:=A0a
theorem P1:bT Tryz.prog 135=some 16:=A0a
theorem P2:aK Tryz.prog 135=some true:=A0a
theorem P3:ay Tryz.prog 135=some [.x (Value.nilFunc),.x (Value.nilFunc)]:=A0a
theorem P4:aG Tryz.prog 135=some (.agg [.x (Value.nilFunc),.x (Value.nilFunc)]):=A0a
theorem P5:bm Tryz.prog 136=some 1:=A0a
theorem P6:bT Tryz.prog 136=some 8:=A0a
theorem P7:aK Tryz.prog 136=some false:=A0a
theorem P8:bm Tryz.prog 148=some 1:=A0a
theorem P9:bT Tryz.prog 148=some 4:=A0a
theorem Qa:aK Tryz.prog 148=some false:=A0a
theorem Qb:ay Tryz.prog 148=some [.x (Value.int IntKind.u32 0)]:=A0a
theorem Qc:aG Tryz.prog 148=some (.x (Value.int IntKind.u32 0)):=A0a
theorem Qd:bm Tryz.prog 150=some 1:=A0a
theorem Qe:bT Tryz.prog 150=some 8:=A0a
theorem Qf:aK Tryz.prog 150=some false:=A0a
theorem Qg:ay Tryz.prog 150=some [.x (Value.int IntKind.u64 0)]:=A0a
theorem Qh:aG Tryz.prog 150=some (.x (Value.int IntKind.u64 0)):=A0a
theorem Qi:bm Tryz.prog 152=some 1:=A0a
theorem Qj:bT Tryz.prog 152=some 8:=A0a
theorem Qk:aK Tryz.prog 152=some false:=A0a
theorem Ql:ay Tryz.prog 152=some [.x (Value.int IntKind.i64 0)]:=A0a
theorem Qm:aG Tryz.prog 152=some (.x (Value.int IntKind.i64 0)):=A0a
theorem Qn:bm Tryz.prog 153=some 1:=A0a
theorem Qo:bT Tryz.prog 153=some 0:=A0a
theorem Qp:aK Tryz.prog 153=some false:=A0a
theorem Qq:ay Tryz.prog 153=some [.x (Value.tuple #[Value.int IntKind.i64 0,Value.int IntKind.i64 0])]:=A0a
theorem Qr:aG Tryz.prog 153=some (.x (Value.tuple #[Value.int IntKind.i64 0,Value.int IntKind.i64 0])):=A0a
theorem Qs:bm Tryz.prog 159=some 1:=A0a
theorem Qt:bT Tryz.prog 159=some 24:=A0a
theorem Qu:aK Tryz.prog 159=some false:=A0a
theorem Qv:ay Tryz.prog 159=some [.sl true 0 [] none]:=A0a
theorem Qw:aG Tryz.prog 159=some (.sl true 0 [] none):=A0a
theorem Qx:bm Tryz.prog 160=some 1:=A0a
theorem Qy:bT Tryz.prog 160=some 8:=A0a
theorem Qz:aK Tryz.prog 160=some false:=A0a
theorem QA:ay Tryz.prog 160=some [.x (Value.pointer none)]:=A0a
theorem QB:aG Tryz.prog 160=some (.x (Value.pointer none)):=A0a
theorem QC:bm Tryz.prog 161=some 1:=A0a
theorem QD:bT Tryz.prog 161=some 8:=A0a
theorem QE:aK Tryz.prog 161=some false:=A0a
theorem QF:ay Tryz.prog 161=some [.x (Value.int IntKind.u64 0)]:=A0a
theorem QG:aG Tryz.prog 161=some (.x (Value.int IntKind.u64 0)):=A0a
theorem QH:bm Tryz.prog 165=some 1:=A0a
theorem QI:bT Tryz.prog 165=some 8:=A0a
theorem QK:aK Tryz.prog 165=some false:=A0a
theorem QL:ay Tryz.prog 165=some [.x (Value.pointer none)]:=A0a
theorem QM:aG Tryz.prog 165=some (.x (Value.pointer none)):=A0a
theorem QN:bm Tryz.prog 167=some 1:=A0a
theorem QO:bT Tryz.prog 167=some 8:=A0a
theorem QP:aK Tryz.prog 167=some false:=A0a
theorem QQ:ay Tryz.prog 167=some [.x (Value.pointer none)]:=A0a
theorem QR:aG Tryz.prog 167=some (.x (Value.pointer none)):=A0a
theorem QT:bm Tryz.prog 168=some 1:=A0a
theorem QU:bT Tryz.prog 168=some 0:=A0a
theorem QV:aK Tryz.prog 168=some false:=A0a
theorem QW:ay Tryz.prog 168=some [.x (Value.tuple #[Value.int IntKind.i64 0,Value.int IntKind.i64 0])]:=A0a
theorem QX:aG Tryz.prog 168=some (.x (Value.tuple #[Value.int IntKind.i64 0,Value.int IntKind.i64 0])):=A0a
theorem QY:bm Tryz.prog 173=some 0:=A0a
theorem QZ:bT Tryz.prog 173=some 0:=A0a
theorem Q0:aK Tryz.prog 173=some true:=A0a
theorem Q1:ay Tryz.prog 173=some []:=A0a
theorem Q2:aG Tryz.prog 173=some (.agg []):=A0a
theorem Q3:bm Tryz.prog 174=some 0:=A0a
theorem Q4:bT Tryz.prog 174=some 0:=A0a
theorem Q5:aK Tryz.prog 174=some true:=A0a
theorem Q6:ay Tryz.prog 174=some []:=A0a
theorem Q7:aG Tryz.prog 174=some (.agg []):=A0a
theorem Q8:bm Tryz.prog 175=some 0:=A0a
theorem Q9:bT Tryz.prog 175=some 0:=A0a
theorem Ra:aK Tryz.prog 175=some true:=A0a
theorem Rb:ay Tryz.prog 175=some []:=A0a
theorem Rc:aG Tryz.prog 175=some (.agg []):=A0a
theorem Re:bm Tryz.prog 176=some 1:=A0a
theorem Rf:bT Tryz.prog 176=some 1:=A0a
theorem Rg:aK Tryz.prog 176=some false:=A0a
theorem Rh:ay Tryz.prog 176=some [.x (Value.int IntKind.u8 0)]:=A0a
theorem Ri:aG Tryz.prog 176=some (.x (Value.int IntKind.u8 0)):=A0a
theorem Rj:bm Tryz.prog 177=some 1:=A0a
theorem Rk:bT Tryz.prog 177=some 1:=A0a
theorem Rl:aK Tryz.prog 177=some false:=A0a
theorem Rm:ay Tryz.prog 177=some [.x (Value.int IntKind.u8 0)]:=A0a
theorem Rn:aG Tryz.prog 177=some (.x (Value.int IntKind.u8 0)):=A0a
theorem Ro:bm Tryz.prog 178=some 1:=A0a
theorem Rp:bT Tryz.prog 178=some 8:=A0a
theorem Rq:aK Tryz.prog 178=some false:=A0a
theorem Rr:bm Tryz.prog 179=some 1:=A0a
theorem Rt:bT Tryz.prog 179=some 4:=A0a
theorem Ru:aK Tryz.prog 179=some false:=A0a
theorem Rv:ay Tryz.prog 179=some [.x (Value.int IntKind.i32 0)]:=A0a
theorem Rw:aG Tryz.prog 179=some (.x (Value.int IntKind.i32 0)):=A0a
theorem Ry:bm Tryz.prog 180=some 1:=A0a
theorem Rz:bT Tryz.prog 180=some 4:=A0a
theorem RA:aK Tryz.prog 180=some false:=A0a
theorem RB:ay Tryz.prog 180=some [.x (Value.int IntKind.i32 0)]:=A0a
theorem RD:aG Tryz.prog 180=some (.x (Value.int IntKind.i32 0)):=A0a
theorem RF:bm Tryz.prog 181=some 11:=A0a
theorem RG:bT Tryz.prog 181=some 48:=A0a
theorem RH:aK Tryz.prog 181=some true:=A0a
theorem RI:ay Tryz.prog 181=some [.x (Value.int IntKind.u64 0),.x (Value.int IntKind.u64 0),.x (Value.int IntKind.u32 0),.x (Value.int IntKind.u8 0),.x (Value.int IntKind.u8 0),.x (Value.int IntKind.u8 0),.x (Value.int IntKind.u8 0),.x (Value.nilFunc),.x (Value.pointer none),.x (Value.int IntKind.i32 0),.x (Value.int IntKind.i32 0)]:=A0a
theorem RJ:aG Tryz.prog 181=some (.agg [.x (Value.int IntKind.u64 0),.x (Value.int IntKind.u64 0),.x (Value.int IntKind.u32 0),.x (Value.int IntKind.u8 0),.x (Value.int IntKind.u8 0),.x (Value.int IntKind.u8 0),.x (Value.int IntKind.u8 0),.x (Value.nilFunc),.x (Value.pointer none),.x (Value.int IntKind.i32 0),.x (Value.int IntKind.i32 0)]):=A0a
theorem RK:bm Tryz.prog 182=some 11:=A0a
theorem RL:bT Tryz.prog 182=some 48:=A0a
theorem RM:aK Tryz.prog 182=some true:=A0a
theorem RN:ay Tryz.prog 182=some [.x (Value.int IntKind.u64 0),.x (Value.int IntKind.u64 0),.x (Value.int IntKind.u32 0),.x (Value.int IntKind.u8 0),.x (Value.int IntKind.u8 0),.x (Value.int IntKind.u8 0),.x (Value.int IntKind.u8 0),.x (Value.nilFunc),.x (Value.pointer none),.x (Value.int IntKind.i32 0),.x (Value.int IntKind.i32 0)]:=A0a
theorem RO:aG Tryz.prog 182=some (.agg [.x (Value.int IntKind.u64 0),.x (Value.int IntKind.u64 0),.x (Value.int IntKind.u32 0),.x (Value.int IntKind.u8 0),.x (Value.int IntKind.u8 0),.x (Value.int IntKind.u8 0),.x (Value.int IntKind.u8 0),.x (Value.nilFunc),.x (Value.pointer none),.x (Value.int IntKind.i32 0),.x (Value.int IntKind.i32 0)]):=A0a
attribute [go_sem] fY XP OS XU XI XW OT OU X4 X5 X9 Ya Ye Yf Yj Yk Yo Yp Yt Yu TM TN TR TS TW TY T2 T4 T8 T9 Ub Uc Ug Uh Ul Um Uo Up Ur Us OW OX Uy Uz OZ O0 UF UG UK UL ns nt UR US UU UV UZ U0 U4 U5 U9 Va Ve Vf Vj Vk Vo Vp Vt Vu xj EP VA VB VF VG VK VL VP VQ VS VT VX VY V3 V4 V8 V9 Wd We Wg Wh Wl Wm Wq Wr Wv Ww Wy Wz WF WG WK WL WN WO WR WS WX WY W5 W6 Xa Xc Xg Xh O7 O8 Pa Pb Pf Pg Pi Pj Pn Po Pq Ps Pu Pv Px Py PC PE PJ PK PP PQ PU PV P0 P1 P5 P6 P8 P9 Qd Qe Qi Qj Qn Qo Qs Qt Qx Qy QC QD QH QI QN QO QT QU QY QZ Q3 Q4 Q8 Q9 Re Rf Rj Rk Ro Rp Rr Rt Ry Rz RF RG RK RL XQ XV XX X0 X6 Yb Yg Yl Yq Yv TO TT TZ T5 Ua Ud Ui Un Uq Ut Uw UA UD UH UM UP UT UW U1 U6 Vb Vg Vl Vq Vv Vy VC VH VM VR VU VZ V5 Wa Wf Wi Wn Ws Wx WA WH WM WP WT WZ W7 Xd Xi O9 Pc Ph Pk Pp Pt Pw Pz PF PM PR PW P2 P7 Qa Qf Qk Qp Qu Qz QE QK QP QV Q0 Q5 Ra Rg Rl Rq Ru RA RH RM XR XT XY XZ OV TL X7 X8 Yc Yd Yh Yi Ym Yn Yr Ys Yw Yx TP TQ TU TV T0 T1 T6 T7 Ue Uf Uj Uk Uu Uv OY Ux UB UC O6 UE UI UJ UN UO nu UQ UX UY U2 U3 U7 U8 Vc Vd Vh Vi Vm Vn Vr Vs Vw Vx EQ Vz VD VE VI VJ VN VO VV VW V1 V2 V6 V7 Wb Wc Wj Wk Wo Wp Wt Wu WC WD WI WJ WV WW W3 W4 W8 W9 Xe Xf Xj Xk Pd Pe PA PB PG PH PN PO PS PT PY PZ P3 P4 Qb Qc Qg Qh Ql Qm Qq Qr Qv Qw QA QB QF QG QL QM QQ QR QW QX Q1 Q2 Q6 Q7 Rb Rc Rh Ri Rm Rn Rv Rw RB RD RI RJ RN RO Tryz.underlying0 Tryz.underlying1 Tryz.underlying2 Tryz.underlying3 Tryz.underlying4 Tryz.underlying5 Tryz.underlying6 Tryz.underlying7 Tryz.eqGuardType7 Tryz.stoodInHeld7 Tryz.underlying8 Tryz.eqGuardType8 Tryz.stoodInHeld8 Tryz.underlying9 Tryz.underlying10 Tryz.underlying12 Tryz.underlying16 Tryz.underlying17 Tryz.underlying20 Tryz.underlying21 Tryz.underlying22 Tryz.underlying23 Tryz.underlying24 Tryz.underlying25 Tryz.underlying30 Tryz.underlying31 Tryz.eqGuardType31 Tryz.stoodInHeld31 Tryz.underlying32 Tryz.eqGuardType32 Tryz.stoodInHeld32 Tryz.underlying34 Tryz.underlying36 Tryz.eqGuardType36 Tryz.stoodInHeld36 Tryz.underlying37 Tryz.eqGuardType37 Tryz.stoodInHeld37 Tryz.underlying40 Tryz.underlying41 Tryz.underlying42 Tryz.underlying43 Tryz.eqGuardType43 Tryz.stoodInHeld43 Tryz.underlying44 Tryz.eqGuardType44 Tryz.stoodInHeld44 Tryz.underlying45 Tryz.underlying46 Tryz.eqGuardType46 Tryz.stoodInHeld46 Tryz.underlying47 Tryz.eqGuardType47 Tryz.stoodInHeld47 Tryz.underlying48 Tryz.eqGuardType48 Tryz.stoodInHeld48 Tryz.underlying49 Tryz.eqGuardType49 Tryz.stoodInHeld49 Tryz.underlying52 Tryz.underlying53 Tryz.eqGuardType53 Tryz.stoodInHeld53 Tryz.underlying54 Tryz.eqGuardType54 Tryz.stoodInHeld54 Tryz.underlying56 Tryz.underlying59 Tryz.underlying60 Tryz.underlying61 Tryz.eqGuardType61 Tryz.stoodInHeld61 Tryz.underlying62 Tryz.eqGuardType62 Tryz.stoodInHeld62 Tryz.underlying64 Tryz.underlying67 Tryz.underlying70 Tryz.eqGuardType70 Tryz.stoodInHeld70 Tryz.underlying71 Tryz.eqGuardType71 Tryz.stoodInHeld71 Tryz.underlying72 Tryz.underlying75 Tryz.underlying77 Tryz.underlying78 Tryz.underlying79 Tryz.underlying89 Tryz.eqGuardType89 Tryz.stoodInHeld89 Tryz.underlying90 Tryz.eqGuardType90 Tryz.stoodInHeld90 Tryz.underlying93 Tryz.eqGuardType93 Tryz.stoodInHeld93 Tryz.underlying94 Tryz.eqGuardType94 Tryz.stoodInHeld94 Tryz.underlying97 Tryz.underlying100 Tryz.underlying101 Tryz.underlying102 Tryz.underlying103 Tryz.underlying104 Tryz.underlying106 Tryz.underlying108 Tryz.underlying126 Tryz.underlying127 Tryz.underlying128 Tryz.eqGuardType128 Tryz.stoodInHeld128 Tryz.underlying129 Tryz.eqGuardType129 Tryz.stoodInHeld129 Tryz.underlying134 Tryz.eqGuardType134 Tryz.stoodInHeld134 Tryz.underlying135 Tryz.eqGuardType135 Tryz.stoodInHeld135 Tryz.underlying136 Tryz.underlying148 Tryz.underlying150 Tryz.underlying152 Tryz.underlying153 Tryz.underlying159 Tryz.underlying160 Tryz.underlying161 Tryz.underlying165 Tryz.underlying167 Tryz.underlying168 Tryz.underlying173 Tryz.eqGuardType173 Tryz.underlying174 Tryz.eqGuardType174 Tryz.stoodInHeld174 Tryz.underlying175 Tryz.eqGuardType175 Tryz.stoodInHeld175 Tryz.underlying176 Tryz.underlying177 Tryz.underlying178 Tryz.underlying179 Tryz.underlying180 Tryz.underlying181 Tryz.eqGuardType181 Tryz.stoodInHeld181 Tryz.underlying182 Tryz.eqGuardType182 Tryz.stoodInHeld182
end Go.Proofs.YtmfojhkjbkombaaGreat
