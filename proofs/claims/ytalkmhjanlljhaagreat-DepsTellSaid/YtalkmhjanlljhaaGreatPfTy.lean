/- What the run over plain data asks of each type of this seat's program, by program. -/
import Derived.Test.YtalkmhjanlljhaaGreatMPB
import Derived.Test.YtalkmhjanlljhaaGreatProg
import Derived.KernelRfl
namespace Go.Proofs.YtalkmhjanlljhaaGreat
set_option linter.unusedSimpArgs false
open Go Go.RowKit
theorem gq:bq Tryz.prog 0=some 1:=by kernel_rfl
theorem Un:bV Tryz.prog 0=some 0:=by kernel_rfl
theorem Uo:aU Tryz.prog 0=some false:=by kernel_rfl
theorem Up:ay Tryz.prog 0=some [.x (Value.tuple #[])]:=by kernel_rfl
theorem Uq:aJ Tryz.prog 0=some (.x (Value.tuple #[])):=by kernel_rfl
theorem L2:bq Tryz.prog 1=some 1:=by kernel_rfl
theorem Ur:bV Tryz.prog 1=some 8:=by kernel_rfl
theorem Us:aU Tryz.prog 1=some false:=by kernel_rfl
theorem sz2:bq Tryz.prog 2=some 1:=by kernel_rfl
theorem Ut:bV Tryz.prog 2=some 8:=by kernel_rfl
theorem Uu:aU Tryz.prog 2=some false:=by kernel_rfl
theorem Uv:ay Tryz.prog 2=some [.x (Value.int IntKind.i64 0)]:=by kernel_rfl
theorem Uw:aJ Tryz.prog 2=some (.x (Value.int IntKind.i64 0)):=by kernel_rfl
theorem LF:bq Tryz.prog 3=some 1:=by kernel_rfl
theorem L3:bV Tryz.prog 3=some 8:=by kernel_rfl
theorem Ux:aU Tryz.prog 3=some false:=by kernel_rfl
theorem L4:ay Tryz.prog 3=some [.x (Value.int IntKind.i64 0)]:=by kernel_rfl
theorem QY:aJ Tryz.prog 3=some (.x (Value.int IntKind.i64 0)):=by kernel_rfl
theorem Uy:bq Tryz.prog 4=some 1:=by kernel_rfl
theorem Uz:bV Tryz.prog 4=some 1:=by kernel_rfl
theorem UA:aU Tryz.prog 4=some false:=by kernel_rfl
theorem UB:ay Tryz.prog 4=some [.x (Value.bool false)]:=by kernel_rfl
theorem UC:aJ Tryz.prog 4=some (.x (Value.bool false)):=by kernel_rfl
theorem UD:bq Tryz.prog 5=some 1:=by kernel_rfl
theorem UE:bV Tryz.prog 5=some 1:=by kernel_rfl
theorem UF:aU Tryz.prog 5=some false:=by kernel_rfl
theorem UG:ay Tryz.prog 5=some [.x (Value.int IntKind.u8 0)]:=by kernel_rfl
theorem UH:aJ Tryz.prog 5=some (.x (Value.int IntKind.u8 0)):=by kernel_rfl
theorem UI:bq Tryz.prog 6=some 1:=by kernel_rfl
theorem UJ:bV Tryz.prog 6=some 1:=by kernel_rfl
theorem UK:aU Tryz.prog 6=some false:=by kernel_rfl
theorem UL:ay Tryz.prog 6=some [.x (Value.int IntKind.u8 0)]:=by kernel_rfl
theorem UM:aJ Tryz.prog 6=some (.x (Value.int IntKind.u8 0)):=by kernel_rfl
theorem UN:bq Tryz.prog 7=some 4:=by kernel_rfl
theorem UO:bV Tryz.prog 7=some 24:=by kernel_rfl
theorem UP:aU Tryz.prog 7=some true:=by kernel_rfl
theorem UQ:ay Tryz.prog 7=some [.x (Value.int IntKind.i64 0),.x (Value.int IntKind.i64 0),.x (Value.bool false),.x (Value.int IntKind.u8 0)]:=by kernel_rfl
theorem UR:aJ Tryz.prog 7=some (.agg [.x (Value.int IntKind.i64 0),.x (Value.int IntKind.i64 0),.x (Value.bool false),.x (Value.int IntKind.u8 0)]):=by kernel_rfl
theorem US:bq Tryz.prog 8=some 4:=by kernel_rfl
theorem UT:bV Tryz.prog 8=some 24:=by kernel_rfl
theorem UU:aU Tryz.prog 8=some true:=by kernel_rfl
theorem UV:ay Tryz.prog 8=some [.x (Value.int IntKind.i64 0),.x (Value.int IntKind.i64 0),.x (Value.bool false),.x (Value.int IntKind.u8 0)]:=by kernel_rfl
theorem UW:aJ Tryz.prog 8=some (.agg [.x (Value.int IntKind.i64 0),.x (Value.int IntKind.i64 0),.x (Value.bool false),.x (Value.int IntKind.u8 0)]):=by kernel_rfl
theorem UX:bq Tryz.prog 9=some 1:=by kernel_rfl
theorem UY:bV Tryz.prog 9=some 16:=by kernel_rfl
theorem UZ:aU Tryz.prog 9=some false:=by kernel_rfl
theorem U0:ay Tryz.prog 9=some [.x (Value.string ⟨#[]⟩)]:=by kernel_rfl
theorem U1:aJ Tryz.prog 9=some (.x (Value.string ⟨#[]⟩)):=by kernel_rfl
theorem QZ:bq Tryz.prog 10=some 1:=by kernel_rfl
theorem Q0:bV Tryz.prog 10=some 16:=by kernel_rfl
theorem Q1:aU Tryz.prog 10=some false:=by kernel_rfl
theorem Q2:ay Tryz.prog 10=some [.x (Value.string ⟨#[]⟩)]:=by kernel_rfl
theorem Q3:aJ Tryz.prog 10=some (.x (Value.string ⟨#[]⟩)):=by kernel_rfl
theorem Q4:bq Tryz.prog 12=some 1:=by kernel_rfl
theorem Q5:bV Tryz.prog 12=some 8:=by kernel_rfl
theorem Q6:aU Tryz.prog 12=some false:=by kernel_rfl
theorem Q7:ay Tryz.prog 12=some [.x (Value.int IntKind.u64 0)]:=by kernel_rfl
theorem Q8:aJ Tryz.prog 12=some (.x (Value.int IntKind.u64 0)):=by kernel_rfl
theorem Q9:bq Tryz.prog 16=some 1:=by kernel_rfl
theorem Ra:bV Tryz.prog 16=some 8:=by kernel_rfl
theorem Rb:aU Tryz.prog 16=some false:=by kernel_rfl
theorem Rc:ay Tryz.prog 16=some [.x (Value.pointer none)]:=by kernel_rfl
theorem Re:aJ Tryz.prog 16=some (.x (Value.pointer none)):=by kernel_rfl
theorem Rf:bq Tryz.prog 17=some 1:=by kernel_rfl
theorem Rg:bV Tryz.prog 17=some 8:=by kernel_rfl
theorem Rh:aU Tryz.prog 17=some false:=by kernel_rfl
theorem Ri:ay Tryz.prog 17=some [.x (Value.pointer none)]:=by kernel_rfl
theorem Rj:aJ Tryz.prog 17=some (.x (Value.pointer none)):=by kernel_rfl
theorem Rk:bq Tryz.prog 20=some 1:=by kernel_rfl
theorem Rl:bV Tryz.prog 20=some 16:=by kernel_rfl
theorem Rm:aU Tryz.prog 20=some false:=by kernel_rfl
theorem Rn:bq Tryz.prog 21=some 1:=by kernel_rfl
theorem Ro:bV Tryz.prog 21=some 4:=by kernel_rfl
theorem Rp:aU Tryz.prog 21=some false:=by kernel_rfl
theorem Rq:ay Tryz.prog 21=some [.x (Value.int IntKind.i32 0)]:=by kernel_rfl
theorem Rr:aJ Tryz.prog 21=some (.x (Value.int IntKind.i32 0)):=by kernel_rfl
theorem Rt:bq Tryz.prog 22=some 1:=by kernel_rfl
theorem Ru:bV Tryz.prog 22=some 24:=by kernel_rfl
theorem Rv:aU Tryz.prog 22=some false:=by kernel_rfl
theorem Rw:ay Tryz.prog 22=some [.sl true 0 [] none]:=by kernel_rfl
theorem Ry:aJ Tryz.prog 22=some (.sl true 0 [] none):=by kernel_rfl
theorem Rz:bq Tryz.prog 23=some 3:=by kernel_rfl
theorem RA:bV Tryz.prog 23=some 32:=by kernel_rfl
theorem RB:aU Tryz.prog 23=some true:=by kernel_rfl
theorem RD:ay Tryz.prog 23=some [.x (Value.string ⟨#[]⟩),.x (Value.int IntKind.i64 0),.x (Value.int IntKind.i64 0)]:=by kernel_rfl
theorem RF:aJ Tryz.prog 23=some (.agg [.x (Value.string ⟨#[]⟩),.x (Value.int IntKind.i64 0),.x (Value.int IntKind.i64 0)]):=by kernel_rfl
theorem kL:bq Tryz.prog 24=some 3:=by kernel_rfl
theorem kM:bV Tryz.prog 24=some 32:=by kernel_rfl
theorem RG:aU Tryz.prog 24=some true:=by kernel_rfl
theorem kN:ay Tryz.prog 24=some [.x (Value.string ⟨#[]⟩),.x (Value.int IntKind.i64 0),.x (Value.int IntKind.i64 0)]:=by kernel_rfl
theorem RH:aJ Tryz.prog 24=some (.agg [.x (Value.string ⟨#[]⟩),.x (Value.int IntKind.i64 0),.x (Value.int IntKind.i64 0)]):=by kernel_rfl
theorem RI:bq Tryz.prog 27=some 1:=by kernel_rfl
theorem RJ:bV Tryz.prog 27=some 8:=by kernel_rfl
theorem RK:aU Tryz.prog 27=some false:=by kernel_rfl
theorem RL:ay Tryz.prog 27=some [.x (Value.pointer none)]:=by kernel_rfl
theorem RM:aJ Tryz.prog 27=some (.x (Value.pointer none)):=by kernel_rfl
theorem RN:bq Tryz.prog 29=some 1:=by kernel_rfl
theorem RO:bV Tryz.prog 29=some 8:=by kernel_rfl
theorem RP:aU Tryz.prog 29=some false:=by kernel_rfl
theorem RQ:ay Tryz.prog 29=some [.x (Value.pointer none)]:=by kernel_rfl
theorem RR:aJ Tryz.prog 29=some (.x (Value.pointer none)):=by kernel_rfl
theorem L5:bq Tryz.prog 32=some 1:=by kernel_rfl
theorem L6:bV Tryz.prog 32=some 24:=by kernel_rfl
theorem RT:aU Tryz.prog 32=some false:=by kernel_rfl
theorem L7:ay Tryz.prog 32=some [.sl true 0 [] none]:=by kernel_rfl
theorem RU:aJ Tryz.prog 32=some (.sl true 0 [] none):=by kernel_rfl
theorem RW:bq Tryz.prog 40=some 2:=by kernel_rfl
theorem RX:bV Tryz.prog 40=some 32:=by kernel_rfl
theorem RY:aU Tryz.prog 40=some true:=by kernel_rfl
theorem RZ:ay Tryz.prog 40=some [.sl true 0 [] none,.x (Value.bool false)]:=by kernel_rfl
theorem R0:aJ Tryz.prog 40=some (.agg [.sl true 0 [] none,.x (Value.bool false)]):=by kernel_rfl
theorem R4:bq Tryz.prog 44=some 1:=by kernel_rfl
theorem R5:bV Tryz.prog 44=some 24:=by kernel_rfl
theorem R6:aU Tryz.prog 44=some false:=by kernel_rfl
theorem R7:ay Tryz.prog 44=some [.sl true 0 [] none]:=by kernel_rfl
theorem R8:aJ Tryz.prog 44=some (.sl true 0 [] none):=by kernel_rfl
theorem R9:bq Tryz.prog 45=some 1:=by kernel_rfl
theorem Sa:bV Tryz.prog 45=some 8:=by kernel_rfl
theorem Sb:aU Tryz.prog 45=some false:=by kernel_rfl
theorem Sc:ay Tryz.prog 45=some [.x (Value.int IntKind.u64 0)]:=by kernel_rfl
theorem Sd:aJ Tryz.prog 45=some (.x (Value.int IntKind.u64 0)):=by kernel_rfl
theorem Se:bq Tryz.prog 46=some 3:=by kernel_rfl
theorem Sf:bV Tryz.prog 46=some 32:=by kernel_rfl
theorem Sg:aU Tryz.prog 46=some true:=by kernel_rfl
theorem Sh:ay Tryz.prog 46=some [.x (Value.int IntKind.i64 0),.x (Value.int IntKind.i64 0),.x (Value.string ⟨#[]⟩)]:=by kernel_rfl
theorem Si:aJ Tryz.prog 46=some (.agg [.x (Value.int IntKind.i64 0),.x (Value.int IntKind.i64 0),.x (Value.string ⟨#[]⟩)]):=by kernel_rfl
theorem Sj:bq Tryz.prog 47=some 3:=by kernel_rfl
theorem Sk:bV Tryz.prog 47=some 32:=by kernel_rfl
theorem Sl:aU Tryz.prog 47=some true:=by kernel_rfl
theorem Sm:ay Tryz.prog 47=some [.x (Value.int IntKind.i64 0),.x (Value.int IntKind.i64 0),.x (Value.string ⟨#[]⟩)]:=by kernel_rfl
theorem Sn:aJ Tryz.prog 47=some (.agg [.x (Value.int IntKind.i64 0),.x (Value.int IntKind.i64 0),.x (Value.string ⟨#[]⟩)]):=by kernel_rfl
theorem JG:bq Tryz.prog 48=some 1:=by kernel_rfl
theorem JH:bV Tryz.prog 48=some 24:=by kernel_rfl
theorem So:aU Tryz.prog 48=some false:=by kernel_rfl
theorem JI:ay Tryz.prog 48=some [.sl true 0 [] none]:=by kernel_rfl
theorem Sp:aJ Tryz.prog 48=some (.sl true 0 [] none):=by kernel_rfl
theorem Sq:bq Tryz.prog 49=some 13:=by kernel_rfl
theorem Sr:bV Tryz.prog 49=some 160:=by kernel_rfl
theorem Ss:aU Tryz.prog 49=some true:=by kernel_rfl
theorem Su:ay Tryz.prog 49=some [.x (Value.int IntKind.i64 0),.x (Value.string ⟨#[]⟩),.x (Value.string ⟨#[]⟩),.x (Value.int IntKind.i64 0),.x (Value.int IntKind.i64 0),.x (Value.string ⟨#[]⟩),.x (Value.string ⟨#[]⟩),.x (Value.int IntKind.i64 0),.x (Value.int IntKind.i64 0),.x (Value.string ⟨#[]⟩),.x (Value.int IntKind.i64 0),.x (Value.int IntKind.i64 0),.sl true 0 [] none]:=by kernel_rfl
theorem Sv:aJ Tryz.prog 49=some (.agg [.x (Value.int IntKind.i64 0),.x (Value.string ⟨#[]⟩),.x (Value.string ⟨#[]⟩),.x (Value.int IntKind.i64 0),.x (Value.int IntKind.i64 0),.x (Value.string ⟨#[]⟩),.x (Value.string ⟨#[]⟩),.x (Value.int IntKind.i64 0),.x (Value.int IntKind.i64 0),.x (Value.string ⟨#[]⟩),.x (Value.int IntKind.i64 0),.x (Value.int IntKind.i64 0),.sl true 0 [] none]):=by kernel_rfl
theorem Sw:bq Tryz.prog 50=some 13:=by kernel_rfl
theorem Sx:bV Tryz.prog 50=some 160:=by kernel_rfl
theorem Sy:aU Tryz.prog 50=some true:=by kernel_rfl
theorem Sz:ay Tryz.prog 50=some [.x (Value.int IntKind.i64 0),.x (Value.string ⟨#[]⟩),.x (Value.string ⟨#[]⟩),.x (Value.int IntKind.i64 0),.x (Value.int IntKind.i64 0),.x (Value.string ⟨#[]⟩),.x (Value.string ⟨#[]⟩),.x (Value.int IntKind.i64 0),.x (Value.int IntKind.i64 0),.x (Value.string ⟨#[]⟩),.x (Value.int IntKind.i64 0),.x (Value.int IntKind.i64 0),.sl true 0 [] none]:=by kernel_rfl
theorem SA:aJ Tryz.prog 50=some (.agg [.x (Value.int IntKind.i64 0),.x (Value.string ⟨#[]⟩),.x (Value.string ⟨#[]⟩),.x (Value.int IntKind.i64 0),.x (Value.int IntKind.i64 0),.x (Value.string ⟨#[]⟩),.x (Value.string ⟨#[]⟩),.x (Value.int IntKind.i64 0),.x (Value.int IntKind.i64 0),.x (Value.string ⟨#[]⟩),.x (Value.int IntKind.i64 0),.x (Value.int IntKind.i64 0),.sl true 0 [] none]):=by kernel_rfl
theorem SB:bq Tryz.prog 51=some 20:=by kernel_rfl
theorem SC:bV Tryz.prog 51=some 232:=by kernel_rfl
theorem SD:aU Tryz.prog 51=some true:=by kernel_rfl
theorem SE:ay Tryz.prog 51=some [.x (Value.string ⟨#[]⟩),.x (Value.int IntKind.i64 0),.x (Value.int IntKind.i64 0),.x (Value.bool false),.x (Value.int IntKind.i64 0),.x (Value.string ⟨#[]⟩),.x (Value.string ⟨#[]⟩),.x (Value.int IntKind.i64 0),.x (Value.int IntKind.i64 0),.x (Value.string ⟨#[]⟩),.x (Value.string ⟨#[]⟩),.x (Value.int IntKind.i64 0),.x (Value.int IntKind.i64 0),.x (Value.string ⟨#[]⟩),.x (Value.int IntKind.i64 0),.x (Value.int IntKind.i64 0),.sl true 0 [] none,.x (Value.int IntKind.i64 0),.x (Value.int IntKind.i64 0),.x (Value.string ⟨#[]⟩)]:=by kernel_rfl
theorem SF:aJ Tryz.prog 51=some (.agg [.x (Value.string ⟨#[]⟩),.x (Value.int IntKind.i64 0),.x (Value.int IntKind.i64 0),.x (Value.bool false),.x (Value.int IntKind.i64 0),.x (Value.string ⟨#[]⟩),.x (Value.string ⟨#[]⟩),.x (Value.int IntKind.i64 0),.x (Value.int IntKind.i64 0),.x (Value.string ⟨#[]⟩),.x (Value.string ⟨#[]⟩),.x (Value.int IntKind.i64 0),.x (Value.int IntKind.i64 0),.x (Value.string ⟨#[]⟩),.x (Value.int IntKind.i64 0),.x (Value.int IntKind.i64 0),.sl true 0 [] none,.x (Value.int IntKind.i64 0),.x (Value.int IntKind.i64 0),.x (Value.string ⟨#[]⟩)]):=by kernel_rfl
theorem wq:bq Tryz.prog 52=some 20:=by kernel_rfl
theorem Dd:bV Tryz.prog 52=some 232:=by kernel_rfl
theorem SG:aU Tryz.prog 52=some true:=by kernel_rfl
theorem De:ay Tryz.prog 52=some [.x (Value.string ⟨#[]⟩),.x (Value.int IntKind.i64 0),.x (Value.int IntKind.i64 0),.x (Value.bool false),.x (Value.int IntKind.i64 0),.x (Value.string ⟨#[]⟩),.x (Value.string ⟨#[]⟩),.x (Value.int IntKind.i64 0),.x (Value.int IntKind.i64 0),.x (Value.string ⟨#[]⟩),.x (Value.string ⟨#[]⟩),.x (Value.int IntKind.i64 0),.x (Value.int IntKind.i64 0),.x (Value.string ⟨#[]⟩),.x (Value.int IntKind.i64 0),.x (Value.int IntKind.i64 0),.sl true 0 [] none,.x (Value.int IntKind.i64 0),.x (Value.int IntKind.i64 0),.x (Value.string ⟨#[]⟩)]:=by kernel_rfl
theorem SH:aJ Tryz.prog 52=some (.agg [.x (Value.string ⟨#[]⟩),.x (Value.int IntKind.i64 0),.x (Value.int IntKind.i64 0),.x (Value.bool false),.x (Value.int IntKind.i64 0),.x (Value.string ⟨#[]⟩),.x (Value.string ⟨#[]⟩),.x (Value.int IntKind.i64 0),.x (Value.int IntKind.i64 0),.x (Value.string ⟨#[]⟩),.x (Value.string ⟨#[]⟩),.x (Value.int IntKind.i64 0),.x (Value.int IntKind.i64 0),.x (Value.string ⟨#[]⟩),.x (Value.int IntKind.i64 0),.x (Value.int IntKind.i64 0),.sl true 0 [] none,.x (Value.int IntKind.i64 0),.x (Value.int IntKind.i64 0),.x (Value.string ⟨#[]⟩)]):=by kernel_rfl
theorem SI:bq Tryz.prog 55=some 1:=by kernel_rfl
theorem SJ:bV Tryz.prog 55=some 8:=by kernel_rfl
theorem SK:aU Tryz.prog 55=some false:=by kernel_rfl
theorem SL:ay Tryz.prog 55=some [.x (Value.map none)]:=by kernel_rfl
theorem SM:aJ Tryz.prog 55=some (.x (Value.map none)):=by kernel_rfl
theorem SN:bq Tryz.prog 56=some 1:=by kernel_rfl
theorem SO:bV Tryz.prog 56=some 8:=by kernel_rfl
theorem SP:aU Tryz.prog 56=some false:=by kernel_rfl
theorem SQ:bq Tryz.prog 58=some 1:=by kernel_rfl
theorem SR:bV Tryz.prog 58=some 24:=by kernel_rfl
theorem SS:aU Tryz.prog 58=some false:=by kernel_rfl
theorem SU:ay Tryz.prog 58=some [.sl true 0 [] none]:=by kernel_rfl
theorem SV:aJ Tryz.prog 58=some (.sl true 0 [] none):=by kernel_rfl
theorem SW:bq Tryz.prog 59=some 4:=by kernel_rfl
theorem SX:bV Tryz.prog 59=some 80:=by kernel_rfl
theorem SY:aU Tryz.prog 59=some true:=by kernel_rfl
theorem SZ:ay Tryz.prog 59=some [.sl true 0 [] none,.x (Value.map none),.sl true 0 [] none,.sl true 0 [] none]:=by kernel_rfl
theorem S0:aJ Tryz.prog 59=some (.agg [.sl true 0 [] none,.x (Value.map none),.sl true 0 [] none,.sl true 0 [] none]):=by kernel_rfl
theorem S4:bq Tryz.prog 60=some 4:=by kernel_rfl
theorem S5:bV Tryz.prog 60=some 80:=by kernel_rfl
theorem S6:aU Tryz.prog 60=some true:=by kernel_rfl
theorem S7:ay Tryz.prog 60=some [.sl true 0 [] none,.x (Value.map none),.sl true 0 [] none,.sl true 0 [] none]:=by kernel_rfl
theorem S8:aJ Tryz.prog 60=some (.agg [.sl true 0 [] none,.x (Value.map none),.sl true 0 [] none,.sl true 0 [] none]):=by kernel_rfl
theorem S9:bq Tryz.prog 64=some 1:=by kernel_rfl
theorem Ta:bV Tryz.prog 64=some 24:=by kernel_rfl
theorem Tb:aU Tryz.prog 64=some false:=by kernel_rfl
theorem Tc:ay Tryz.prog 64=some [.sl true 0 [] none]:=by kernel_rfl
theorem Td:aJ Tryz.prog 64=some (.sl true 0 [] none):=by kernel_rfl
theorem Te:bq Tryz.prog 65=some 2:=by kernel_rfl
theorem Tf:bV Tryz.prog 65=some 48:=by kernel_rfl
theorem Tg:aU Tryz.prog 65=some true:=by kernel_rfl
theorem Th:ay Tryz.prog 65=some [.sl true 0 [] none,.sl true 0 [] none]:=by kernel_rfl
theorem Ti:aJ Tryz.prog 65=some (.agg [.sl true 0 [] none,.sl true 0 [] none]):=by kernel_rfl
theorem Tj:bq Tryz.prog 66=some 2:=by kernel_rfl
theorem Tk:bV Tryz.prog 66=some 48:=by kernel_rfl
theorem Tl:aU Tryz.prog 66=some true:=by kernel_rfl
theorem Tm:ay Tryz.prog 66=some [.sl true 0 [] none,.sl true 0 [] none]:=by kernel_rfl
theorem Tn:aJ Tryz.prog 66=some (.agg [.sl true 0 [] none,.sl true 0 [] none]):=by kernel_rfl
theorem To:bq Tryz.prog 68=some 1:=by kernel_rfl
theorem Tp:bV Tryz.prog 68=some 0:=by kernel_rfl
theorem Tq:aU Tryz.prog 68=some false:=by kernel_rfl
theorem Tr:ay Tryz.prog 68=some [.x (Value.tuple #[Value.int IntKind.i64 0,Value.bool false])]:=by kernel_rfl
theorem Ts:aJ Tryz.prog 68=some (.x (Value.tuple #[Value.int IntKind.i64 0,Value.bool false])):=by kernel_rfl
theorem Tt:bq Tryz.prog 71=some 1:=by kernel_rfl
theorem Tu:bV Tryz.prog 71=some 8:=by kernel_rfl
theorem Tv:aU Tryz.prog 71=some false:=by kernel_rfl
theorem Tw:ay Tryz.prog 71=some [.x (Value.map none)]:=by kernel_rfl
theorem Tx:aJ Tryz.prog 71=some (.x (Value.map none)):=by kernel_rfl
theorem Ty:bq Tryz.prog 72=some 0:=by kernel_rfl
theorem Tz:bV Tryz.prog 72=some 0:=by kernel_rfl
theorem TB:aU Tryz.prog 72=some true:=by kernel_rfl
theorem TC:ay Tryz.prog 72=some []:=by kernel_rfl
theorem JJ:aJ Tryz.prog 72=some (.agg []):=by kernel_rfl
theorem TD:bq Tryz.prog 73=some 1:=by kernel_rfl
theorem TE:bV Tryz.prog 73=some 0:=by kernel_rfl
theorem TF:aU Tryz.prog 73=some false:=by kernel_rfl
theorem TG:ay Tryz.prog 73=some [.x (Value.tuple #[Value.agg #[],Value.bool false])]:=by kernel_rfl
theorem TH:aJ Tryz.prog 73=some (.x (Value.tuple #[Value.agg #[],Value.bool false])):=by kernel_rfl
theorem TI:bq Tryz.prog 75=some 1:=by kernel_rfl
theorem TJ:bV Tryz.prog 75=some 8:=by kernel_rfl
theorem TK:aU Tryz.prog 75=some false:=by kernel_rfl
theorem TL:bq Tryz.prog 76=some 1:=by kernel_rfl
theorem TM:bV Tryz.prog 76=some 8:=by kernel_rfl
theorem TN:aU Tryz.prog 76=some false:=by kernel_rfl
theorem TO:bq Tryz.prog 97=some 1:=by kernel_rfl
theorem TP:bV Tryz.prog 97=some 8:=by kernel_rfl
theorem TQ:aU Tryz.prog 97=some false:=by kernel_rfl
theorem TR:bq Tryz.prog 99=some 1:=by kernel_rfl
theorem TS:bV Tryz.prog 99=some 8:=by kernel_rfl
theorem TT:aU Tryz.prog 99=some false:=by kernel_rfl
theorem TU:ay Tryz.prog 99=some [.x (Value.map none)]:=by kernel_rfl
theorem TV:aJ Tryz.prog 99=some (.x (Value.map none)):=by kernel_rfl
theorem L8:bq Tryz.prog 100=some 1:=by kernel_rfl
theorem L9:bV Tryz.prog 100=some 8:=by kernel_rfl
theorem Ma:aU Tryz.prog 100=some false:=by kernel_rfl
theorem Mb:ay Tryz.prog 100=some [.x (Value.map none)]:=by kernel_rfl
theorem Mc:aJ Tryz.prog 100=some (.x (Value.map none)):=by kernel_rfl
theorem Md:bq Tryz.prog 101=some 1:=by kernel_rfl
theorem Me:bV Tryz.prog 101=some 8:=by kernel_rfl
theorem Mf:aU Tryz.prog 101=some false:=by kernel_rfl
theorem Mg:bq Tryz.prog 102=some 1:=by kernel_rfl
theorem Mh:bV Tryz.prog 102=some 8:=by kernel_rfl
theorem Mi:aU Tryz.prog 102=some false:=by kernel_rfl
theorem Mj:bq Tryz.prog 104=some 6:=by kernel_rfl
theorem Ml:bV Tryz.prog 104=some 64:=by kernel_rfl
theorem Mm:aU Tryz.prog 104=some true:=by kernel_rfl
theorem Mn:ay Tryz.prog 104=some [.x (Value.string ⟨#[]⟩),.x (Value.int IntKind.i64 0),.x (Value.int IntKind.i64 0),.x (Value.string ⟨#[]⟩),.x (Value.int IntKind.i64 0),.x (Value.int IntKind.i64 0)]:=by kernel_rfl
theorem Mo:aJ Tryz.prog 104=some (.agg [.x (Value.string ⟨#[]⟩),.x (Value.int IntKind.i64 0),.x (Value.int IntKind.i64 0),.x (Value.string ⟨#[]⟩),.x (Value.int IntKind.i64 0),.x (Value.int IntKind.i64 0)]):=by kernel_rfl
theorem Mp:bq Tryz.prog 105=some 6:=by kernel_rfl
theorem Mq:bV Tryz.prog 105=some 64:=by kernel_rfl
theorem Mr:aU Tryz.prog 105=some true:=by kernel_rfl
theorem Ms:ay Tryz.prog 105=some [.x (Value.string ⟨#[]⟩),.x (Value.int IntKind.i64 0),.x (Value.int IntKind.i64 0),.x (Value.string ⟨#[]⟩),.x (Value.int IntKind.i64 0),.x (Value.int IntKind.i64 0)]:=by kernel_rfl
theorem Mt:aJ Tryz.prog 105=some (.agg [.x (Value.string ⟨#[]⟩),.x (Value.int IntKind.i64 0),.x (Value.int IntKind.i64 0),.x (Value.string ⟨#[]⟩),.x (Value.int IntKind.i64 0),.x (Value.int IntKind.i64 0)]):=by kernel_rfl
theorem Mu:bq Tryz.prog 108=some 1:=by kernel_rfl
theorem Mv:bV Tryz.prog 108=some 8:=by kernel_rfl
theorem Mw:aU Tryz.prog 108=some false:=by kernel_rfl
theorem Mx:bq Tryz.prog 109=some 1:=by kernel_rfl
theorem My:bV Tryz.prog 109=some 8:=by kernel_rfl
theorem Mz:aU Tryz.prog 109=some false:=by kernel_rfl
theorem MA:bq Tryz.prog 111=some 1:=by kernel_rfl
theorem MC:bV Tryz.prog 111=some 8:=by kernel_rfl
theorem MD:aU Tryz.prog 111=some false:=by kernel_rfl
theorem ME:bq Tryz.prog 113=some 1:=by kernel_rfl
theorem MF:bV Tryz.prog 113=some 8:=by kernel_rfl
theorem MG:aU Tryz.prog 113=some false:=by kernel_rfl
theorem MH:bq Tryz.prog 122=some 1:=by kernel_rfl
theorem MI:bV Tryz.prog 122=some 8:=by kernel_rfl
theorem MJ:aU Tryz.prog 122=some false:=by kernel_rfl
theorem MK:ay Tryz.prog 122=some [.x (Value.pointer none)]:=by kernel_rfl
theorem ML:aJ Tryz.prog 122=some (.x (Value.pointer none)):=by kernel_rfl
theorem MM:bq Tryz.prog 123=some 1:=by kernel_rfl
theorem MN:bV Tryz.prog 123=some 8:=by kernel_rfl
theorem MO:aU Tryz.prog 123=some false:=by kernel_rfl
theorem MP:ay Tryz.prog 123=some [.x (Value.int IntKind.u64 0)]:=by kernel_rfl
theorem MQ:aJ Tryz.prog 123=some (.x (Value.int IntKind.u64 0)):=by kernel_rfl
theorem MR:bq Tryz.prog 124=some 3:=by kernel_rfl
theorem MS:bV Tryz.prog 124=some 24:=by kernel_rfl
theorem MT:aU Tryz.prog 124=some true:=by kernel_rfl
theorem MU:ay Tryz.prog 124=some [.x (Value.pointer none),.x (Value.pointer none),.x (Value.int IntKind.u64 0)]:=by kernel_rfl
theorem MV:aJ Tryz.prog 124=some (.agg [.x (Value.pointer none),.x (Value.pointer none),.x (Value.int IntKind.u64 0)]):=by kernel_rfl
theorem MW:bq Tryz.prog 125=some 3:=by kernel_rfl
theorem MY:bV Tryz.prog 125=some 24:=by kernel_rfl
theorem MZ:aU Tryz.prog 125=some true:=by kernel_rfl
theorem M0:ay Tryz.prog 125=some [.x (Value.pointer none),.x (Value.pointer none),.x (Value.int IntKind.u64 0)]:=by kernel_rfl
theorem M1:aJ Tryz.prog 125=some (.agg [.x (Value.pointer none),.x (Value.pointer none),.x (Value.int IntKind.u64 0)]):=by kernel_rfl
theorem M2:bq Tryz.prog 127=some 1:=by kernel_rfl
theorem M3:bV Tryz.prog 127=some 8:=by kernel_rfl
theorem M4:aU Tryz.prog 127=some false:=by kernel_rfl
theorem M5:bq Tryz.prog 131=some 2:=by kernel_rfl
theorem M6:bV Tryz.prog 131=some 16:=by kernel_rfl
theorem M7:aU Tryz.prog 131=some true:=by kernel_rfl
theorem M8:ay Tryz.prog 131=some [.x (Value.nilFunc),.x (Value.nilFunc)]:=by kernel_rfl
theorem M9:aJ Tryz.prog 131=some (.agg [.x (Value.nilFunc),.x (Value.nilFunc)]):=by kernel_rfl
theorem Na:bq Tryz.prog 132=some 2:=by kernel_rfl
theorem Nb:bV Tryz.prog 132=some 16:=by kernel_rfl
theorem Nc:aU Tryz.prog 132=some true:=by kernel_rfl
theorem Nf:ay Tryz.prog 132=some [.x (Value.nilFunc),.x (Value.nilFunc)]:=by kernel_rfl
theorem Ng:aJ Tryz.prog 132=some (.agg [.x (Value.nilFunc),.x (Value.nilFunc)]):=by kernel_rfl
theorem Nh:bq Tryz.prog 136=some 1:=by kernel_rfl
theorem Ni:bV Tryz.prog 136=some 8:=by kernel_rfl
theorem Nj:aU Tryz.prog 136=some false:=by kernel_rfl
theorem Nk:bq Tryz.prog 137=some 1:=by kernel_rfl
theorem Nl:bV Tryz.prog 137=some 24:=by kernel_rfl
theorem Nm:aU Tryz.prog 137=some false:=by kernel_rfl
theorem Nn:ay Tryz.prog 137=some [.sl true 0 [] none]:=by kernel_rfl
theorem No:aJ Tryz.prog 137=some (.sl true 0 [] none):=by kernel_rfl
theorem Np:bq Tryz.prog 138=some 1:=by kernel_rfl
theorem Nq:bV Tryz.prog 138=some 0:=by kernel_rfl
theorem Nr:aU Tryz.prog 138=some false:=by kernel_rfl
theorem Ns:ay Tryz.prog 138=some [.x (Value.tuple #[Value.agg #[Value.string ⟨#[]⟩,Value.int IntKind.i64 0,Value.int IntKind.i64 0,Value.string ⟨#[]⟩,Value.int IntKind.i64 0,Value.int IntKind.i64 0],Value.bool false])]:=by kernel_rfl
theorem Nt:aJ Tryz.prog 138=some (.x (Value.tuple #[Value.agg #[Value.string ⟨#[]⟩,Value.int IntKind.i64 0,Value.int IntKind.i64 0,Value.string ⟨#[]⟩,Value.int IntKind.i64 0,Value.int IntKind.i64 0],Value.bool false])):=by kernel_rfl
theorem Nu:bq Tryz.prog 157=some 1:=by kernel_rfl
theorem Nv:bV Tryz.prog 157=some 4:=by kernel_rfl
theorem Nw:aU Tryz.prog 157=some false:=by kernel_rfl
theorem Nx:ay Tryz.prog 157=some [.x (Value.int IntKind.u32 0)]:=by kernel_rfl
theorem Ny:aJ Tryz.prog 157=some (.x (Value.int IntKind.u32 0)):=by kernel_rfl
theorem Nz:bq Tryz.prog 159=some 1:=by kernel_rfl
theorem NA:bV Tryz.prog 159=some 8:=by kernel_rfl
theorem NB:aU Tryz.prog 159=some false:=by kernel_rfl
theorem NC:ay Tryz.prog 159=some [.x (Value.int IntKind.u64 0)]:=by kernel_rfl
theorem ND:aJ Tryz.prog 159=some (.x (Value.int IntKind.u64 0)):=by kernel_rfl
theorem NE:bq Tryz.prog 161=some 1:=by kernel_rfl
theorem NF:bV Tryz.prog 161=some 8:=by kernel_rfl
theorem NG:aU Tryz.prog 161=some false:=by kernel_rfl
theorem NH:ay Tryz.prog 161=some [.x (Value.int IntKind.i64 0)]:=by kernel_rfl
theorem NI:aJ Tryz.prog 161=some (.x (Value.int IntKind.i64 0)):=by kernel_rfl
theorem NJ:bq Tryz.prog 162=some 1:=by kernel_rfl
theorem NK:bV Tryz.prog 162=some 0:=by kernel_rfl
theorem NL:aU Tryz.prog 162=some false:=by kernel_rfl
theorem NM:ay Tryz.prog 162=some [.x (Value.tuple #[Value.int IntKind.i64 0,Value.int IntKind.i64 0])]:=by kernel_rfl
theorem NN:aJ Tryz.prog 162=some (.x (Value.tuple #[Value.int IntKind.i64 0,Value.int IntKind.i64 0])):=by kernel_rfl
theorem NO:bq Tryz.prog 167=some 1:=by kernel_rfl
theorem NP:bV Tryz.prog 167=some 24:=by kernel_rfl
theorem NQ:aU Tryz.prog 167=some false:=by kernel_rfl
theorem NR:ay Tryz.prog 167=some [.sl true 0 [] none]:=by kernel_rfl
theorem NS:aJ Tryz.prog 167=some (.sl true 0 [] none):=by kernel_rfl
theorem NT:bq Tryz.prog 168=some 1:=by kernel_rfl
theorem NU:bV Tryz.prog 168=some 8:=by kernel_rfl
theorem NV:aU Tryz.prog 168=some false:=by kernel_rfl
theorem NW:ay Tryz.prog 168=some [.x (Value.pointer none)]:=by kernel_rfl
theorem NX:aJ Tryz.prog 168=some (.x (Value.pointer none)):=by kernel_rfl
theorem NY:bq Tryz.prog 171=some 1:=by kernel_rfl
theorem NZ:bV Tryz.prog 171=some 8:=by kernel_rfl
theorem N0:aU Tryz.prog 171=some false:=by kernel_rfl
theorem N2:ay Tryz.prog 171=some [.x (Value.int IntKind.i64 0)]:=by kernel_rfl
theorem N3:aJ Tryz.prog 171=some (.x (Value.int IntKind.i64 0)):=by kernel_rfl
theorem N4:bq Tryz.prog 172=some 1:=by kernel_rfl
theorem N5:bV Tryz.prog 172=some 0:=by kernel_rfl
theorem N6:aU Tryz.prog 172=some false:=by kernel_rfl
theorem N7:ay Tryz.prog 172=some [.x (Value.tuple #[Value.int IntKind.i64 0,Value.int IntKind.i64 0])]:=by kernel_rfl
theorem N8:aJ Tryz.prog 172=some (.x (Value.tuple #[Value.int IntKind.i64 0,Value.int IntKind.i64 0])):=by kernel_rfl
theorem N9:bq Tryz.prog 177=some 1:=by kernel_rfl
theorem Oa:bV Tryz.prog 177=some 8:=by kernel_rfl
theorem Ob:aU Tryz.prog 177=some false:=by kernel_rfl
theorem Od:ay Tryz.prog 177=some [.x (Value.int IntKind.u64 0)]:=by kernel_rfl
theorem Oe:aJ Tryz.prog 177=some (.x (Value.int IntKind.u64 0)):=by kernel_rfl
theorem Og:bq Tryz.prog 181=some 1:=by kernel_rfl
theorem Oh:bV Tryz.prog 181=some 8:=by kernel_rfl
theorem Oj:aU Tryz.prog 181=some false:=by kernel_rfl
theorem Ol:ay Tryz.prog 181=some [.x (Value.pointer none)]:=by kernel_rfl
theorem Om:aJ Tryz.prog 181=some (.x (Value.pointer none)):=by kernel_rfl
theorem On:bq Tryz.prog 183=some 1:=by kernel_rfl
theorem Oo:bV Tryz.prog 183=some 8:=by kernel_rfl
theorem Oq:aU Tryz.prog 183=some false:=by kernel_rfl
theorem Ot:ay Tryz.prog 183=some [.x (Value.int IntKind.u64 0)]:=by kernel_rfl
theorem Ou:aJ Tryz.prog 183=some (.x (Value.int IntKind.u64 0)):=by kernel_rfl
theorem Ov:bq Tryz.prog 186=some 1:=by kernel_rfl
theorem Ow:bV Tryz.prog 186=some 8:=by kernel_rfl
theorem Ox:aU Tryz.prog 186=some false:=by kernel_rfl
theorem Oy:ay Tryz.prog 186=some [.x (Value.pointer none)]:=by kernel_rfl
theorem Oz:aJ Tryz.prog 186=some (.x (Value.pointer none)):=by kernel_rfl
theorem OA:bq Tryz.prog 187=some 1:=by kernel_rfl
theorem OB:bV Tryz.prog 187=some 0:=by kernel_rfl
theorem OC:aU Tryz.prog 187=some false:=by kernel_rfl
theorem OD:ay Tryz.prog 187=some [.x (Value.tuple #[Value.int IntKind.i64 0,Value.int IntKind.i64 0])]:=by kernel_rfl
theorem OE:aJ Tryz.prog 187=some (.x (Value.tuple #[Value.int IntKind.i64 0,Value.int IntKind.i64 0])):=by kernel_rfl
theorem OF:bq Tryz.prog 189=some 1:=by kernel_rfl
theorem OG:bV Tryz.prog 189=some 8:=by kernel_rfl
theorem OH:aU Tryz.prog 189=some false:=by kernel_rfl
theorem OI:ay Tryz.prog 189=some [.x (Value.pointer none)]:=by kernel_rfl
theorem OJ:aJ Tryz.prog 189=some (.x (Value.pointer none)):=by kernel_rfl
theorem OK:bq Tryz.prog 194=some 0:=by kernel_rfl
theorem OL:bV Tryz.prog 194=some 0:=by kernel_rfl
theorem OM:aU Tryz.prog 194=some true:=by kernel_rfl
theorem ON:ay Tryz.prog 194=some []:=by kernel_rfl
theorem OO:aJ Tryz.prog 194=some (.agg []):=by kernel_rfl
theorem OP:bq Tryz.prog 195=some 0:=by kernel_rfl
theorem OQ:bV Tryz.prog 195=some 0:=by kernel_rfl
theorem OR:aU Tryz.prog 195=some true:=by kernel_rfl
theorem OS:ay Tryz.prog 195=some []:=by kernel_rfl
theorem OT:aJ Tryz.prog 195=some (.agg []):=by kernel_rfl
theorem OU:bq Tryz.prog 196=some 0:=by kernel_rfl
theorem OV:bV Tryz.prog 196=some 0:=by kernel_rfl
theorem OW:aU Tryz.prog 196=some true:=by kernel_rfl
theorem OX:ay Tryz.prog 196=some []:=by kernel_rfl
theorem OY:aJ Tryz.prog 196=some (.agg []):=by kernel_rfl
theorem OZ:bq Tryz.prog 197=some 1:=by kernel_rfl
theorem O0:bV Tryz.prog 197=some 1:=by kernel_rfl
theorem O6:aU Tryz.prog 197=some false:=by kernel_rfl
theorem Pa:ay Tryz.prog 197=some [.x (Value.int IntKind.u8 0)]:=by kernel_rfl
theorem Pb:aJ Tryz.prog 197=some (.x (Value.int IntKind.u8 0)):=by kernel_rfl
theorem Pc:bq Tryz.prog 198=some 1:=by kernel_rfl
theorem Pd:bV Tryz.prog 198=some 1:=by kernel_rfl
theorem Pe:aU Tryz.prog 198=some false:=by kernel_rfl
theorem Pf:ay Tryz.prog 198=some [.x (Value.int IntKind.u8 0)]:=by kernel_rfl
theorem Pg:aJ Tryz.prog 198=some (.x (Value.int IntKind.u8 0)):=by kernel_rfl
theorem Ph:bq Tryz.prog 199=some 1:=by kernel_rfl
theorem Pi:bV Tryz.prog 199=some 8:=by kernel_rfl
theorem Pj:aU Tryz.prog 199=some false:=by kernel_rfl
theorem Pk:bq Tryz.prog 200=some 1:=by kernel_rfl
theorem Pn:bV Tryz.prog 200=some 4:=by kernel_rfl
theorem Po:aU Tryz.prog 200=some false:=by kernel_rfl
theorem Pp:ay Tryz.prog 200=some [.x (Value.int IntKind.i32 0)]:=by kernel_rfl
theorem Pq:aJ Tryz.prog 200=some (.x (Value.int IntKind.i32 0)):=by kernel_rfl
theorem Ps:bq Tryz.prog 201=some 1:=by kernel_rfl
theorem Pt:bV Tryz.prog 201=some 4:=by kernel_rfl
theorem Pu:aU Tryz.prog 201=some false:=by kernel_rfl
theorem Pv:ay Tryz.prog 201=some [.x (Value.int IntKind.i32 0)]:=by kernel_rfl
theorem Pw:aJ Tryz.prog 201=some (.x (Value.int IntKind.i32 0)):=by kernel_rfl
theorem Px:bq Tryz.prog 202=some 11:=by kernel_rfl
theorem Py:bV Tryz.prog 202=some 48:=by kernel_rfl
theorem Pz:aU Tryz.prog 202=some true:=by kernel_rfl
theorem PA:ay Tryz.prog 202=some [.x (Value.int IntKind.u64 0),.x (Value.int IntKind.u64 0),.x (Value.int IntKind.u32 0),.x (Value.int IntKind.u8 0),.x (Value.int IntKind.u8 0),.x (Value.int IntKind.u8 0),.x (Value.int IntKind.u8 0),.x (Value.nilFunc),.x (Value.pointer none),.x (Value.int IntKind.i32 0),.x (Value.int IntKind.i32 0)]:=by kernel_rfl
theorem PB:aJ Tryz.prog 202=some (.agg [.x (Value.int IntKind.u64 0),.x (Value.int IntKind.u64 0),.x (Value.int IntKind.u32 0),.x (Value.int IntKind.u8 0),.x (Value.int IntKind.u8 0),.x (Value.int IntKind.u8 0),.x (Value.int IntKind.u8 0),.x (Value.nilFunc),.x (Value.pointer none),.x (Value.int IntKind.i32 0),.x (Value.int IntKind.i32 0)]):=by kernel_rfl
theorem PC:bq Tryz.prog 203=some 11:=by kernel_rfl
theorem PE:bV Tryz.prog 203=some 48:=by kernel_rfl
theorem PF:aU Tryz.prog 203=some true:=by kernel_rfl
theorem PG:ay Tryz.prog 203=some [.x (Value.int IntKind.u64 0),.x (Value.int IntKind.u64 0),.x (Value.int IntKind.u32 0),.x (Value.int IntKind.u8 0),.x (Value.int IntKind.u8 0),.x (Value.int IntKind.u8 0),.x (Value.int IntKind.u8 0),.x (Value.nilFunc),.x (Value.pointer none),.x (Value.int IntKind.i32 0),.x (Value.int IntKind.i32 0)]:=by kernel_rfl
theorem PH:aJ Tryz.prog 203=some (.agg [.x (Value.int IntKind.u64 0),.x (Value.int IntKind.u64 0),.x (Value.int IntKind.u32 0),.x (Value.int IntKind.u8 0),.x (Value.int IntKind.u8 0),.x (Value.int IntKind.u8 0),.x (Value.int IntKind.u8 0),.x (Value.nilFunc),.x (Value.pointer none),.x (Value.int IntKind.i32 0),.x (Value.int IntKind.i32 0)]):=by kernel_rfl
attribute [go_sem] gq Un L2 Ur sz2 Ut LF L3 Uy Uz UD UE UI UJ UN UO US UT UX UY QZ Q0 Q4 Q5 Q9 Ra Rf Rg Rk Rl Rn Ro Rt Ru Rz RA kL kM RI RJ RN RO L5 L6 RW RX R4 R5 R9 Sa Se Sf Sj Sk JG JH Sq Sr Sw Sx SB SC wq Dd SI SJ SN SO SQ SR SW SX S4 S5 S9 Ta Te Tf Tj Tk To Tp Tt Tu Ty Tz TD TE TI TJ TL TM TO TP TR TS L8 L9 Md Me Mg Mh Mj Ml Mp Mq Mu Mv Mx My MA MC ME MF MH MI MM MN MR MS MW MY M2 M3 M5 M6 Na Nb Nh Ni Nk Nl Np Nq Nu Nv Nz NA NE NF NJ NK NO NP NT NU NY NZ N4 N5 N9 Oa Og Oh On Oo Ov Ow OA OB OF OG OK OL OP OQ OU OV OZ O0 Pc Pd Ph Pi Pk Pn Ps Pt Px Py PC PE Uo Us Uu Ux UA UF UK UP UU UZ Q1 Q6 Rb Rh Rm Rp Rv RB RG RK RP RT RY R6 Sb Sg Sl So Ss Sy SD SG SK SP SS SY S6 Tb Tg Tl Tq Tv TB TF TK TN TQ TT Ma Mf Mi Mm Mr Mw Mz MD MG MJ MO MT MZ M4 M7 Nc Nj Nm Nr Nw NB NG NL NQ NV N0 N6 Ob Oj Oq Ox OC OH OM OR OW O6 Pe Pj Po Pu Pz PF Up Uq Uv Uw L4 QY UB UC UG UH UL UM UQ UR UV UW U0 U1 Q2 Q3 Q7 Q8 Rc Re Ri Rj Rq Rr Rw Ry RD RF kN RH RL RM RQ RR L7 RU RZ R0 R7 R8 Sc Sd Sh Si Sm Sn JI Sp Su Sv Sz SA SE SF De SH SL SM SU SV SZ S0 S7 S8 Tc Td Th Ti Tm Tn Tr Ts Tw Tx TC JJ TG TH TU TV Mb Mc Mn Mo Ms Mt MK ML MP MQ MU MV M0 M1 M8 M9 Nf Ng Nn No Ns Nt Nx Ny NC ND NH NI NM NN NR NS NW NX N2 N3 N7 N8 Od Oe Ol Om Ot Ou Oy Oz OD OE OI OJ ON OO OS OT OX OY Pa Pb Pf Pg Pp Pq Pv Pw PA PB PG PH Tryz.underlying0 Tryz.underlying1 Tryz.underlying2 Tryz.underlying3 Tryz.underlying4 Tryz.underlying5 Tryz.underlying6 Tryz.underlying7 Tryz.eqGuardType7 Tryz.stoodInHeld7 Tryz.underlying8 Tryz.eqGuardType8 Tryz.stoodInHeld8 Tryz.underlying9 Tryz.underlying10 Tryz.underlying12 Tryz.underlying16 Tryz.underlying17 Tryz.underlying20 Tryz.underlying21 Tryz.underlying22 Tryz.underlying23 Tryz.eqGuardType23 Tryz.stoodInHeld23 Tryz.underlying24 Tryz.eqGuardType24 Tryz.stoodInHeld24 Tryz.underlying27 Tryz.underlying29 Tryz.underlying32 Tryz.underlying40 Tryz.eqGuardType40 Tryz.stoodInHeld40 Tryz.underlying44 Tryz.underlying45 Tryz.underlying46 Tryz.eqGuardType46 Tryz.stoodInHeld46 Tryz.underlying47 Tryz.eqGuardType47 Tryz.stoodInHeld47 Tryz.underlying48 Tryz.underlying49 Tryz.eqGuardType49 Tryz.stoodInHeld49 Tryz.underlying50 Tryz.eqGuardType50 Tryz.stoodInHeld50 Tryz.underlying51 Tryz.eqGuardType51 Tryz.stoodInHeld51 Tryz.underlying52 Tryz.eqGuardType52 Tryz.stoodInHeld52 Tryz.underlying55 Tryz.underlying56 Tryz.underlying58 Tryz.underlying59 Tryz.eqGuardType59 Tryz.stoodInHeld59 Tryz.underlying60 Tryz.eqGuardType60 Tryz.stoodInHeld60 Tryz.underlying64 Tryz.underlying65 Tryz.eqGuardType65 Tryz.stoodInHeld65 Tryz.underlying66 Tryz.eqGuardType66 Tryz.stoodInHeld66 Tryz.underlying68 Tryz.underlying71 Tryz.underlying72 Tryz.eqGuardType72 Tryz.stoodInHeld72 Tryz.underlying73 Tryz.underlying75 Tryz.underlying76 Tryz.underlying97 Tryz.underlying99 Tryz.underlying100 Tryz.underlying101 Tryz.underlying102 Tryz.underlying104 Tryz.eqGuardType104 Tryz.stoodInHeld104 Tryz.underlying105 Tryz.eqGuardType105 Tryz.stoodInHeld105 Tryz.underlying108 Tryz.underlying109 Tryz.underlying111 Tryz.underlying113 Tryz.underlying122 Tryz.underlying123 Tryz.underlying124 Tryz.eqGuardType124 Tryz.stoodInHeld124 Tryz.underlying125 Tryz.eqGuardType125 Tryz.stoodInHeld125 Tryz.underlying127 Tryz.underlying131 Tryz.eqGuardType131 Tryz.stoodInHeld131 Tryz.underlying132 Tryz.eqGuardType132 Tryz.stoodInHeld132 Tryz.underlying136 Tryz.underlying137 Tryz.underlying138 Tryz.underlying157 Tryz.underlying159 Tryz.underlying161 Tryz.underlying162 Tryz.underlying167 Tryz.underlying168 Tryz.underlying171 Tryz.underlying172 Tryz.underlying177 Tryz.underlying181 Tryz.underlying183 Tryz.underlying186 Tryz.underlying187 Tryz.underlying189 Tryz.underlying194 Tryz.eqGuardType194 Tryz.underlying195 Tryz.eqGuardType195 Tryz.stoodInHeld195 Tryz.underlying196 Tryz.eqGuardType196 Tryz.stoodInHeld196 Tryz.underlying197 Tryz.underlying198 Tryz.underlying199 Tryz.underlying200 Tryz.underlying201 Tryz.underlying202 Tryz.eqGuardType202 Tryz.stoodInHeld202 Tryz.underlying203 Tryz.eqGuardType203 Tryz.stoodInHeld203
end Go.Proofs.YtalkmhjanlljhaaGreat
