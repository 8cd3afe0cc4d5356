/- What the run over plain data asks of each type of this seat's program, by program. -/
import Derived.Test.YtenmccehpkiamaaMPB
import Derived.Test.YtenmccehpkiamaaProg
import Derived.KernelRfl
namespace Go.Proofs.Ytenmccehpkiamaa
set_option linter.unusedSimpArgs false
open Go Go.RowKit
theorem ek:bi Try.prog 0=some 1:=by kernel_rfl
theorem KZ:cB Try.prog 0=some 0:=by kernel_rfl
theorem K0:aX Try.prog 0=some false:=by kernel_rfl
theorem K1:aF Try.prog 0=some [.x (Value.tuple #[])]:=by kernel_rfl
theorem K2:aN Try.prog 0=some (.x (Value.tuple #[])):=by kernel_rfl
theorem E8:bi Try.prog 1=some 1:=by kernel_rfl
theorem K3:cB Try.prog 1=some 8:=by kernel_rfl
theorem K4:aX Try.prog 1=some false:=by kernel_rfl
theorem KU:bi Try.prog 2=some 1:=by kernel_rfl
theorem K5:cB Try.prog 2=some 8:=by kernel_rfl
theorem K6:aX Try.prog 2=some false:=by kernel_rfl
theorem K7:aF Try.prog 2=some [.x (Value.int IntKind.i64 0)]:=by kernel_rfl
theorem K8:aN Try.prog 2=some (.x (Value.int IntKind.i64 0)):=by kernel_rfl
theorem K9:bi Try.prog 3=some 1:=by kernel_rfl
theorem La:cB Try.prog 3=some 8:=by kernel_rfl
theorem Lb:aX Try.prog 3=some false:=by kernel_rfl
theorem Lc:aF Try.prog 3=some [.x (Value.int IntKind.i64 0)]:=by kernel_rfl
theorem KV:aN Try.prog 3=some (.x (Value.int IntKind.i64 0)):=by kernel_rfl
theorem Ld:bi Try.prog 4=some 1:=by kernel_rfl
theorem Lf:cB Try.prog 4=some 1:=by kernel_rfl
theorem Lg:aX Try.prog 4=some false:=by kernel_rfl
theorem Lh:aF Try.prog 4=some [.x (Value.bool false)]:=by kernel_rfl
theorem Li:aN Try.prog 4=some (.x (Value.bool false)):=by kernel_rfl
theorem Lj:bi Try.prog 5=some 1:=by kernel_rfl
theorem Lk:cB Try.prog 5=some 1:=by kernel_rfl
theorem Ll:aX Try.prog 5=some false:=by kernel_rfl
theorem Lm:aF Try.prog 5=some [.x (Value.int IntKind.u8 0)]:=by kernel_rfl
theorem Ln:aN Try.prog 5=some (.x (Value.int IntKind.u8 0)):=by kernel_rfl
theorem Lo:bi Try.prog 6=some 1:=by kernel_rfl
theorem Lp:cB Try.prog 6=some 1:=by kernel_rfl
theorem Lq:aX Try.prog 6=some false:=by kernel_rfl
theorem Lt:aF Try.prog 6=some [.x (Value.int IntKind.u8 0)]:=by kernel_rfl
theorem Lu:aN Try.prog 6=some (.x (Value.int IntKind.u8 0)):=by kernel_rfl
theorem Lw:bi Try.prog 7=some 4:=by kernel_rfl
theorem Lx:cB Try.prog 7=some 24:=by kernel_rfl
theorem Ly:aX Try.prog 7=some true:=by kernel_rfl
theorem Lz:aF Try.prog 7=some [.x (Value.int IntKind.i64 0),.x (Value.int IntKind.i64 0),.x (Value.bool false),.x (Value.int IntKind.u8 0)]:=by kernel_rfl
theorem LA:aN Try.prog 7=some (.agg [.x (Value.int IntKind.i64 0),.x (Value.int IntKind.i64 0),.x (Value.bool false),.x (Value.int IntKind.u8 0)]):=by kernel_rfl
theorem LB:bi Try.prog 8=some 4:=by kernel_rfl
theorem LC:cB Try.prog 8=some 24:=by kernel_rfl
theorem LD:aX Try.prog 8=some true:=by kernel_rfl
theorem LE:aF Try.prog 8=some [.x (Value.int IntKind.i64 0),.x (Value.int IntKind.i64 0),.x (Value.bool false),.x (Value.int IntKind.u8 0)]:=by kernel_rfl
theorem LF:aN Try.prog 8=some (.agg [.x (Value.int IntKind.i64 0),.x (Value.int IntKind.i64 0),.x (Value.bool false),.x (Value.int IntKind.u8 0)]):=by kernel_rfl
theorem LG:bi Try.prog 9=some 1:=by kernel_rfl
theorem LH:cB Try.prog 9=some 16:=by kernel_rfl
theorem LI:aX Try.prog 9=some false:=by kernel_rfl
theorem LJ:aF Try.prog 9=some [.x (Value.string ⟨#[]⟩)]:=by kernel_rfl
theorem LK:aN Try.prog 9=some (.x (Value.string ⟨#[]⟩)):=by kernel_rfl
theorem GE:bi Try.prog 10=some 1:=by kernel_rfl
theorem GF:cB Try.prog 10=some 16:=by kernel_rfl
theorem GG:aX Try.prog 10=some false:=by kernel_rfl
theorem GH:aF Try.prog 10=some [.x (Value.string ⟨#[]⟩)]:=by kernel_rfl
theorem GI:aN Try.prog 10=some (.x (Value.string ⟨#[]⟩)):=by kernel_rfl
theorem GJ:bi Try.prog 12=some 1:=by kernel_rfl
theorem GK:cB Try.prog 12=some 8:=by kernel_rfl
theorem GL:aX Try.prog 12=some false:=by kernel_rfl
theorem GM:aF Try.prog 12=some [.x (Value.int IntKind.u64 0)]:=by kernel_rfl
theorem GN:aN Try.prog 12=some (.x (Value.int IntKind.u64 0)):=by kernel_rfl
theorem GO:bi Try.prog 16=some 1:=by kernel_rfl
theorem GP:cB Try.prog 16=some 8:=by kernel_rfl
theorem GQ:aX Try.prog 16=some false:=by kernel_rfl
theorem GR:aF Try.prog 16=some [.x (Value.pointer none)]:=by kernel_rfl
theorem GS:aN Try.prog 16=some (.x (Value.pointer none)):=by kernel_rfl
theorem GT:bi Try.prog 17=some 1:=by kernel_rfl
theorem GU:cB Try.prog 17=some 8:=by kernel_rfl
theorem GV:aX Try.prog 17=some false:=by kernel_rfl
theorem GW:aF Try.prog 17=some [.x (Value.pointer none)]:=by kernel_rfl
theorem GX:aN Try.prog 17=some (.x (Value.pointer none)):=by kernel_rfl
theorem GY:bi Try.prog 20=some 1:=by kernel_rfl
theorem GZ:cB Try.prog 20=some 16:=by kernel_rfl
theorem G0:aX Try.prog 20=some false:=by kernel_rfl
theorem G1:bi Try.prog 21=some 1:=by kernel_rfl
theorem G2:cB Try.prog 21=some 4:=by kernel_rfl
theorem G3:aX Try.prog 21=some false:=by kernel_rfl
theorem G4:aF Try.prog 21=some [.x (Value.int IntKind.i32 0)]:=by kernel_rfl
theorem G5:aN Try.prog 21=some (.x (Value.int IntKind.i32 0)):=by kernel_rfl
theorem G6:bi Try.prog 22=some 1:=by kernel_rfl
theorem G7:cB Try.prog 22=some 24:=by kernel_rfl
theorem G8:aX Try.prog 22=some false:=by kernel_rfl
theorem G9:aF Try.prog 22=some [.sl true 0 [] none]:=by kernel_rfl
theorem Ha:aN Try.prog 22=some (.sl true 0 [] none):=by kernel_rfl
theorem Hc:bi Try.prog 23=some 3:=by kernel_rfl
theorem He:cB Try.prog 23=some 24:=by kernel_rfl
theorem Hf:aX Try.prog 23=some true:=by kernel_rfl
theorem Hg:aF Try.prog 23=some [.x (Value.int IntKind.i64 0),.x (Value.int IntKind.i64 0),.x (Value.int IntKind.i64 0)]:=by kernel_rfl
theorem Hh:aN Try.prog 23=some (.agg [.x (Value.int IntKind.i64 0),.x (Value.int IntKind.i64 0),.x (Value.int IntKind.i64 0)]):=by kernel_rfl
theorem Db:bi Try.prog 24=some 3:=by kernel_rfl
theorem Dc:cB Try.prog 24=some 24:=by kernel_rfl
theorem Hi:aX Try.prog 24=some true:=by kernel_rfl
theorem Dd:aF Try.prog 24=some [.x (Value.int IntKind.i64 0),.x (Value.int IntKind.i64 0),.x (Value.int IntKind.i64 0)]:=by kernel_rfl
theorem Hj:aN Try.prog 24=some (.agg [.x (Value.int IntKind.i64 0),.x (Value.int IntKind.i64 0),.x (Value.int IntKind.i64 0)]):=by kernel_rfl
theorem Hk:bi Try.prog 26=some 1:=by kernel_rfl
theorem Hl:cB Try.prog 26=some 8:=by kernel_rfl
theorem Hm:aX Try.prog 26=some false:=by kernel_rfl
theorem Hn:aF Try.prog 26=some [.x (Value.pointer none)]:=by kernel_rfl
theorem Ho:aN Try.prog 26=some (.x (Value.pointer none)):=by kernel_rfl
theorem Hp:bi Try.prog 27=some 1:=by kernel_rfl
theorem Hq:cB Try.prog 27=some 8:=by kernel_rfl
theorem Hr:aX Try.prog 27=some false:=by kernel_rfl
theorem Hs:aF Try.prog 27=some [.x (Value.map none)]:=by kernel_rfl
theorem Ht:aN Try.prog 27=some (.x (Value.map none)):=by kernel_rfl
theorem Hu:bi Try.prog 28=some 1:=by kernel_rfl
theorem Hv:cB Try.prog 28=some 8:=by kernel_rfl
theorem Hw:aX Try.prog 28=some true:=by kernel_rfl
theorem HA:aF Try.prog 28=some [.x (Value.map none)]:=by kernel_rfl
theorem HB:aN Try.prog 28=some (.agg [.x (Value.map none)]):=by kernel_rfl
theorem HC:bi Try.prog 29=some 1:=by kernel_rfl
theorem HD:cB Try.prog 29=some 8:=by kernel_rfl
theorem HE:aX Try.prog 29=some true:=by kernel_rfl
theorem HF:aF Try.prog 29=some [.x (Value.map none)]:=by kernel_rfl
theorem HG:aN Try.prog 29=some (.agg [.x (Value.map none)]):=by kernel_rfl
theorem HI:bi Try.prog 30=some 1:=by kernel_rfl
theorem HJ:cB Try.prog 30=some 8:=by kernel_rfl
theorem HK:aX Try.prog 30=some false:=by kernel_rfl
theorem HL:aF Try.prog 30=some [.x (Value.pointer none)]:=by kernel_rfl
theorem HM:aN Try.prog 30=some (.x (Value.pointer none)):=by kernel_rfl
theorem HN:bi Try.prog 31=some 1:=by kernel_rfl
theorem HO:cB Try.prog 31=some 24:=by kernel_rfl
theorem HP:aX Try.prog 31=some false:=by kernel_rfl
theorem HQ:aF Try.prog 31=some [.sl true 0 [] none]:=by kernel_rfl
theorem HR:aN Try.prog 31=some (.sl true 0 [] none):=by kernel_rfl
theorem HS:bi Try.prog 32=some 1:=by kernel_rfl
theorem HT:cB Try.prog 32=some 24:=by kernel_rfl
theorem HU:aX Try.prog 32=some true:=by kernel_rfl
theorem HV:aF Try.prog 32=some [.sl true 0 [] none]:=by kernel_rfl
theorem HW:aN Try.prog 32=some (.agg [.sl true 0 [] none]):=by kernel_rfl
theorem HX:bi Try.prog 33=some 1:=by kernel_rfl
theorem HY:cB Try.prog 33=some 24:=by kernel_rfl
theorem HZ:aX Try.prog 33=some true:=by kernel_rfl
theorem H0:aF Try.prog 33=some [.sl true 0 [] none]:=by kernel_rfl
theorem H5:aN Try.prog 33=some (.agg [.sl true 0 [] none]):=by kernel_rfl
theorem H6:bi Try.prog 34=some 4:=by kernel_rfl
theorem H7:cB Try.prog 34=some 32:=by kernel_rfl
theorem H8:aX Try.prog 34=some true:=by kernel_rfl
theorem H9:aF Try.prog 34=some [.x (Value.int IntKind.i64 0),.x (Value.int IntKind.i64 0),.x (Value.int IntKind.i64 0),.x (Value.int IntKind.i64 0)]:=by kernel_rfl
theorem Ia:aN Try.prog 34=some (.agg [.x (Value.int IntKind.i64 0),.x (Value.int IntKind.i64 0),.x (Value.int IntKind.i64 0),.x (Value.int IntKind.i64 0)]):=by kernel_rfl
theorem Ib:bi Try.prog 35=some 4:=by kernel_rfl
theorem Ic:cB Try.prog 35=some 32:=by kernel_rfl
theorem Ie:aX Try.prog 35=some true:=by kernel_rfl
theorem If:aF Try.prog 35=some [.x (Value.int IntKind.i64 0),.x (Value.int IntKind.i64 0),.x (Value.int IntKind.i64 0),.x (Value.int IntKind.i64 0)]:=by kernel_rfl
theorem Ig:aN Try.prog 35=some (.agg [.x (Value.int IntKind.i64 0),.x (Value.int IntKind.i64 0),.x (Value.int IntKind.i64 0),.x (Value.int IntKind.i64 0)]):=by kernel_rfl
theorem Ih:bi Try.prog 38=some 1:=by kernel_rfl
theorem Ii:cB Try.prog 38=some 24:=by kernel_rfl
theorem Ij:aX Try.prog 38=some false:=by kernel_rfl
theorem Ik:aF Try.prog 38=some [.sl true 0 [] none]:=by kernel_rfl
theorem Il:aN Try.prog 38=some (.sl true 0 [] none):=by kernel_rfl
theorem Im:bi Try.prog 40=some 1:=by kernel_rfl
theorem In:cB Try.prog 40=some 8:=by kernel_rfl
theorem Ip:aX Try.prog 40=some false:=by kernel_rfl
theorem Iq:bi Try.prog 44=some 4:=by kernel_rfl
theorem Ir:cB Try.prog 44=some 32:=by kernel_rfl
theorem Is:aX Try.prog 44=some true:=by kernel_rfl
theorem It:aF Try.prog 44=some [.x (Value.int IntKind.i64 0),.x (Value.int IntKind.i64 0),.x (Value.int IntKind.i64 0),.x (Value.int IntKind.i64 0)]:=by kernel_rfl
theorem Iu:aN Try.prog 44=some (.agg [.x (Value.int IntKind.i64 0),.x (Value.int IntKind.i64 0),.x (Value.int IntKind.i64 0),.x (Value.int IntKind.i64 0)]):=by kernel_rfl
theorem Iv:bi Try.prog 47=some 1:=by kernel_rfl
theorem Iw:cB Try.prog 47=some 8:=by kernel_rfl
theorem Ix:aX Try.prog 47=some false:=by kernel_rfl
theorem Iy:bi Try.prog 49=some 1:=by kernel_rfl
theorem Iz:cB Try.prog 49=some 8:=by kernel_rfl
theorem IA:aX Try.prog 49=some false:=by kernel_rfl
theorem IB:aF Try.prog 49=some [.x (Value.pointer none)]:=by kernel_rfl
theorem IC:aN Try.prog 49=some (.x (Value.pointer none)):=by kernel_rfl
theorem ID:bi Try.prog 50=some 1:=by kernel_rfl
theorem IE:cB Try.prog 50=some 8:=by kernel_rfl
theorem IG:aX Try.prog 50=some false:=by kernel_rfl
theorem IH:aF Try.prog 50=some [.x (Value.int IntKind.u64 0)]:=by kernel_rfl
theorem II:aN Try.prog 50=some (.x (Value.int IntKind.u64 0)):=by kernel_rfl
theorem IJ:bi Try.prog 51=some 3:=by kernel_rfl
theorem IK:cB Try.prog 51=some 24:=by kernel_rfl
theorem IM:aX Try.prog 51=some true:=by kernel_rfl
theorem IN:aF Try.prog 51=some [.x (Value.pointer none),.x (Value.pointer none),.x (Value.int IntKind.u64 0)]:=by kernel_rfl
theorem IP:aN Try.prog 51=some (.agg [.x (Value.pointer none),.x (Value.pointer none),.x (Value.int IntKind.u64 0)]):=by kernel_rfl
theorem IQ:bi Try.prog 52=some 3:=by kernel_rfl
theorem IR:cB Try.prog 52=some 24:=by kernel_rfl
theorem IS:aX Try.prog 52=some true:=by kernel_rfl
theorem IT:aF Try.prog 52=some [.x (Value.pointer none),.x (Value.pointer none),.x (Value.int IntKind.u64 0)]:=by kernel_rfl
theorem IU:aN Try.prog 52=some (.agg [.x (Value.pointer none),.x (Value.pointer none),.x (Value.int IntKind.u64 0)]):=by kernel_rfl
theorem IV:bi Try.prog 54=some 1:=by kernel_rfl
theorem IW:cB Try.prog 54=some 8:=by kernel_rfl
theorem IX:aX Try.prog 54=some false:=by kernel_rfl
theorem IY:bi Try.prog 58=some 1:=by kernel_rfl
theorem IZ:cB Try.prog 58=some 8:=by kernel_rfl
theorem I0:aX Try.prog 58=some false:=by kernel_rfl
theorem I1:aF Try.prog 58=some [.x (Value.int IntKind.u64 0)]:=by kernel_rfl
theorem I2:aN Try.prog 58=some (.x (Value.int IntKind.u64 0)):=by kernel_rfl
theorem I3:bi Try.prog 60=some 2:=by kernel_rfl
theorem I4:cB Try.prog 60=some 16:=by kernel_rfl
theorem I5:aX Try.prog 60=some true:=by kernel_rfl
theorem I6:aF Try.prog 60=some [.x (Value.nilFunc),.x (Value.nilFunc)]:=by kernel_rfl
theorem I7:aN Try.prog 60=some (.agg [.x (Value.nilFunc),.x (Value.nilFunc)]):=by kernel_rfl
theorem I8:bi Try.prog 61=some 2:=by kernel_rfl
theorem I9:cB Try.prog 61=some 16:=by kernel_rfl
theorem Ja:aX Try.prog 61=some true:=by kernel_rfl
theorem Jb:aF Try.prog 61=some [.x (Value.nilFunc),.x (Value.nilFunc)]:=by kernel_rfl
theorem Jc:aN Try.prog 61=some (.agg [.x (Value.nilFunc),.x (Value.nilFunc)]):=by kernel_rfl
theorem Jd:bi Try.prog 68=some 1:=by kernel_rfl
theorem Je:cB Try.prog 68=some 4:=by kernel_rfl
theorem Jf:aX Try.prog 68=some false:=by kernel_rfl
theorem Jg:aF Try.prog 68=some [.x (Value.int IntKind.u32 0)]:=by kernel_rfl
theorem Jh:aN Try.prog 68=some (.x (Value.int IntKind.u32 0)):=by kernel_rfl
theorem Ji:bi Try.prog 70=some 1:=by kernel_rfl
theorem Jj:cB Try.prog 70=some 8:=by kernel_rfl
theorem Jk:aX Try.prog 70=some false:=by kernel_rfl
theorem Jl:aF Try.prog 70=some [.x (Value.int IntKind.u64 0)]:=by kernel_rfl
theorem Jm:aN Try.prog 70=some (.x (Value.int IntKind.u64 0)):=by kernel_rfl
theorem Jn:bi Try.prog 72=some 1:=by kernel_rfl
theorem Jo:cB Try.prog 72=some 8:=by kernel_rfl
theorem Jp:aX Try.prog 72=some false:=by kernel_rfl
theorem Jq:aF Try.prog 72=some [.x (Value.int IntKind.i64 0)]:=by kernel_rfl
theorem Jr:aN Try.prog 72=some (.x (Value.int IntKind.i64 0)):=by kernel_rfl
theorem Js:bi Try.prog 73=some 1:=by kernel_rfl
theorem Jt:cB Try.prog 73=some 0:=by kernel_rfl
theorem Ju:aX Try.prog 73=some false:=by kernel_rfl
theorem Jv:aF Try.prog 73=some [.x (Value.tuple #[Value.int IntKind.i64 0,Value.int IntKind.i64 0])]:=by kernel_rfl
theorem Jw:aN Try.prog 73=some (.x (Value.tuple #[Value.int IntKind.i64 0,Value.int IntKind.i64 0])):=by kernel_rfl
theorem Jy:bi Try.prog 77=some 1:=by kernel_rfl
theorem Jz:cB Try.prog 77=some 0:=by kernel_rfl
theorem JA:aX Try.prog 77=some false:=by kernel_rfl
theorem JB:aF Try.prog 77=some [.x (Value.tuple #[Value.int IntKind.i64 0,Value.bool false])]:=by kernel_rfl
theorem JC:aN Try.prog 77=some (.x (Value.tuple #[Value.int IntKind.i64 0,Value.bool false])):=by kernel_rfl
theorem JD:bi Try.prog 79=some 1:=by kernel_rfl
theorem JE:cB Try.prog 79=some 24:=by kernel_rfl
theorem JG:aX Try.prog 79=some false:=by kernel_rfl
theorem JH:aF Try.prog 79=some [.sl true 0 [] none]:=by kernel_rfl
theorem JI:aN Try.prog 79=some (.sl true 0 [] none):=by kernel_rfl
theorem JJ:bi Try.prog 81=some 1:=by kernel_rfl
theorem JK:cB Try.prog 81=some 8:=by kernel_rfl
theorem JM:aX Try.prog 81=some false:=by kernel_rfl
theorem JN:aF Try.prog 81=some [.x (Value.int IntKind.u64 0)]:=by kernel_rfl
theorem JO:aN Try.prog 81=some (.x (Value.int IntKind.u64 0)):=by kernel_rfl
theorem JP:bi Try.prog 85=some 1:=by kernel_rfl
theorem JQ:cB Try.prog 85=some 8:=by kernel_rfl
theorem JR:aX Try.prog 85=some false:=by kernel_rfl
theorem JS:aF Try.prog 85=some [.x (Value.pointer none)]:=by kernel_rfl
theorem JT:aN Try.prog 85=some (.x (Value.pointer none)):=by kernel_rfl
theorem JU:bi Try.prog 87=some 1:=by kernel_rfl
theorem JV:cB Try.prog 87=some 8:=by kernel_rfl
theorem JW:aX Try.prog 87=some false:=by kernel_rfl
theorem JX:aF Try.prog 87=some [.x (Value.pointer none)]:=by kernel_rfl
theorem JY:aN Try.prog 87=some (.x (Value.pointer none)):=by kernel_rfl
theorem JZ:bi Try.prog 88=some 1:=by kernel_rfl
theorem J0:cB Try.prog 88=some 0:=by kernel_rfl
theorem J1:aX Try.prog 88=some false:=by kernel_rfl
theorem J2:aF Try.prog 88=some [.x (Value.tuple #[Value.int IntKind.i64 0,Value.int IntKind.i64 0])]:=by kernel_rfl
theorem J3:aN Try.prog 88=some (.x (Value.tuple #[Value.int IntKind.i64 0,Value.int IntKind.i64 0])):=by kernel_rfl
theorem J4:bi Try.prog 93=some 0:=by kernel_rfl
theorem J5:cB Try.prog 93=some 0:=by kernel_rfl
theorem J6:aX Try.prog 93=some true:=by kernel_rfl
theorem J7:aF Try.prog 93=some []:=by kernel_rfl
theorem J8:aN Try.prog 93=some (.agg []):=by kernel_rfl
theorem J9:bi Try.prog 94=some 0:=by kernel_rfl
theorem Ka:cB Try.prog 94=some 0:=by kernel_rfl
theorem Kb:aX Try.prog 94=some true:=by kernel_rfl
theorem Kc:aF Try.prog 94=some []:=by kernel_rfl
theorem Kd:aN Try.prog 94=some (.agg []):=by kernel_rfl
theorem Ke:bi Try.prog 95=some 0:=by kernel_rfl
theorem Kf:cB Try.prog 95=some 0:=by kernel_rfl
theorem Kg:aX Try.prog 95=some true:=by kernel_rfl
theorem Kh:aF Try.prog 95=some []:=by kernel_rfl
theorem Ki:aN Try.prog 95=some (.agg []):=by kernel_rfl
theorem Kj:bi Try.prog 96=some 1:=by kernel_rfl
theorem Kk:cB Try.prog 96=some 1:=by kernel_rfl
theorem Kl:aX Try.prog 96=some false:=by kernel_rfl
theorem Km:aF Try.prog 96=some [.x (Value.int IntKind.u8 0)]:=by kernel_rfl
theorem Ko:aN Try.prog 96=some (.x (Value.int IntKind.u8 0)):=by kernel_rfl
theorem Kp:bi Try.prog 97=some 1:=by kernel_rfl
theorem Kq:cB Try.prog 97=some 1:=by kernel_rfl
theorem Kr:aX Try.prog 97=some false:=by kernel_rfl
theorem Ks:aF Try.prog 97=some [.x (Value.int IntKind.u8 0)]:=by kernel_rfl
theorem Kt:aN Try.prog 97=some (.x (Value.int IntKind.u8 0)):=by kernel_rfl
theorem Ku:bi Try.prog 98=some 1:=by kernel_rfl
theorem Kv:cB Try.prog 98=some 8:=by kernel_rfl
theorem Kw:aX Try.prog 98=some false:=by kernel_rfl
theorem Kx:bi Try.prog 99=some 1:=by kernel_rfl
theorem Ky:cB Try.prog 99=some 8:=by kernel_rfl
theorem Kz:aX Try.prog 99=some false:=by kernel_rfl
theorem KA:aF Try.prog 99=some [.x (Value.pointer none)]:=by kernel_rfl
theorem KB:aN Try.prog 99=some (.x (Value.pointer none)):=by kernel_rfl
theorem E9:bi Try.prog 100=some 1:=by kernel_rfl
theorem Fa:cB Try.prog 100=some 4:=by kernel_rfl
theorem Fb:aX Try.prog 100=some false:=by kernel_rfl
theorem Fc:aF Try.prog 100=some [.x (Value.int IntKind.i32 0)]:=by kernel_rfl
theorem Fd:aN Try.prog 100=some (.x (Value.int IntKind.i32 0)):=by kernel_rfl
theorem Fe:bi Try.prog 101=some 1:=by kernel_rfl
theorem Fg:cB Try.prog 101=some 4:=by kernel_rfl
theorem Fh:aX Try.prog 101=some false:=by kernel_rfl
theorem Fi:aF Try.prog 101=some [.x (Value.int IntKind.i32 0)]:=by kernel_rfl
theorem Fj:aN Try.prog 101=some (.x (Value.int IntKind.i32 0)):=by kernel_rfl
theorem Fk:bi Try.prog 102=some 11:=by kernel_rfl
theorem Fl:cB Try.prog 102=some 48:=by kernel_rfl
theorem Fm:aX Try.prog 102=some true:=by kernel_rfl
theorem Fn:aF Try.prog 102=some [.x (Value.int IntKind.u64 0),.x (Value.int IntKind.u64 0),.x (Value.int IntKind.u32 0),.x (Value.int IntKind.u8 0),.x (Value.int IntKind.u8 0),.x (Value.int IntKind.u8 0),.x (Value.int IntKind.u8 0),.x (Value.nilFunc),.x (Value.pointer none),.x (Value.int IntKind.i32 0),.x (Value.int IntKind.i32 0)]:=by kernel_rfl
theorem Fp:aN Try.prog 102=some (.agg [.x (Value.int IntKind.u64 0),.x (Value.int IntKind.u64 0),.x (Value.int IntKind.u32 0),.x (Value.int IntKind.u8 0),.x (Value.int IntKind.u8 0),.x (Value.int IntKind.u8 0),.x (Value.int IntKind.u8 0),.x (Value.nilFunc),.x (Value.pointer none),.x (Value.int IntKind.i32 0),.x (Value.int IntKind.i32 0)]):=by kernel_rfl
theorem Fq:bi Try.prog 103=some 11:=by kernel_rfl
theorem Fs:cB Try.prog 103=some 48:=by kernel_rfl
theorem Ft:aX Try.prog 103=some true:=by kernel_rfl
theorem Fu:aF Try.prog 103=some [.x (Value.int IntKind.u64 0),.x (Value.int IntKind.u64 0),.x (Value.int IntKind.u32 0),.x (Value.int IntKind.u8 0),.x (Value.int IntKind.u8 0),.x (Value.int IntKind.u8 0),.x (Value.int IntKind.u8 0),.x (Value.nilFunc),.x (Value.pointer none),.x (Value.int IntKind.i32 0),.x (Value.int IntKind.i32 0)]:=by kernel_rfl
theorem Fv:aN Try.prog 103=some (.agg [.x (Value.int IntKind.u64 0),.x (Value.int IntKind.u64 0),.x (Value.int IntKind.u32 0),.x (Value.int IntKind.u8 0),.x (Value.int IntKind.u8 0),.x (Value.int IntKind.u8 0),.x (Value.int IntKind.u8 0),.x (Value.nilFunc),.x (Value.pointer none),.x (Value.int IntKind.i32 0),.x (Value.int IntKind.i32 0)]):=by kernel_rfl
attribute [go_sem] ek KZ E8 K3 KU K5 K9 La Ld Lf Lj Lk Lo Lp Lw Lx LB LC LG LH GE GF GJ GK GO GP GT GU GY GZ G1 G2 G6 G7 Hc He Db Dc Hk Hl Hp Hq Hu Hv HC HD HI HJ HN HO HS HT HX HY H6 H7 Ib Ic Ih Ii Im In Iq Ir Iv Iw Iy Iz ID IE IJ IK IQ IR IV IW IY IZ I3 I4 I8 I9 Jd Je Ji Jj Jn Jo Js Jt Jy Jz JD JE JJ JK JP JQ JU JV JZ J0 J4 J5 J9 Ka Ke Kf Kj Kk Kp Kq Ku Kv Kx Ky E9 Fa Fe Fg Fk Fl Fq Fs K0 K4 K6 Lb Lg Ll Lq Ly LD LI GG GL GQ GV G0 G3 G8 Hf Hi Hm Hr Hw HE HK HP HU HZ H8 Ie Ij Ip Is Ix IA IG IM IS IX I0 I5 Ja Jf Jk Jp Ju JA JG JM JR JW J1 J6 Kb Kg Kl Kr Kw Kz Fb Fh Fm Ft K1 K2 K7 K8 Lc KV Lh Li Lm Ln Lt Lu Lz LA LE LF LJ LK GH GI GM GN GR GS GW GX G4 G5 G9 Ha Hg Hh Dd Hj Hn Ho Hs Ht HA HB HF HG HL HM HQ HR HV HW H0 H5 H9 Ia If Ig Ik Il It Iu IB IC IH II IN IP IT IU I1 I2 I6 I7 Jb Jc Jg Jh Jl Jm Jq Jr Jv Jw JB JC JH JI JN JO JS JT JX JY J2 J3 J7 J8 Kc Kd Kh Ki Km Ko Ks Kt KA KB Fc Fd Fi Fj Fn Fp Fu Fv Try.underlying0 Try.underlying1 Try.underlying2 Try.underlying3 Try.underlying4 Try.underlying5 Try.underlying6 Try.underlying7 Try.eqGuardType7 Try.stoodInHeld7 Try.underlying8 Try.eqGuardType8 Try.stoodInHeld8 Try.underlying9 Try.underlying10 Try.underlying12 Try.underlying16 Try.underlying17 Try.underlying20 Try.underlying21 Try.underlying22 Try.underlying23 Try.eqGuardType23 Try.stoodInHeld23 Try.underlying24 Try.eqGuardType24 Try.stoodInHeld24 Try.underlying26 Try.underlying27 Try.underlying28 Try.eqGuardType28 Try.stoodInHeld28 Try.underlying29 Try.eqGuardType29 Try.stoodInHeld29 Try.underlying30 Try.underlying31 Try.underlying32 Try.eqGuardType32 Try.stoodInHeld32 Try.underlying33 Try.eqGuardType33 Try.stoodInHeld33 Try.underlying34 Try.eqGuardType34 Try.stoodInHeld34 Try.underlying35 Try.eqGuardType35 Try.stoodInHeld35 Try.underlying38 Try.underlying40 Try.underlying44 Try.eqGuardType44 Try.stoodInHeld44 Try.underlying47 Try.underlying49 Try.underlying50 Try.underlying51 Try.eqGuardType51 Try.stoodInHeld51 Try.underlying52 Try.eqGuardType52 Try.stoodInHeld52 Try.underlying54 Try.underlying58 Try.underlying60 Try.eqGuardType60 Try.stoodInHeld60 Try.underlying61 Try.eqGuardType61 Try.stoodInHeld61 Try.underlying68 Try.underlying70 Try.underlying72 Try.underlying73 Try.underlying77 Try.underlying79 Try.underlying81 Try.underlying85 Try.underlying87 Try.underlying88 Try.underlying93 Try.eqGuardType93 Try.underlying94 Try.eqGuardType94 Try.stoodInHeld94 Try.underlying95 Try.eqGuardType95 Try.stoodInHeld95 Try.underlying96 Try.underlying97 Try.underlying98 Try.underlying99 Try.underlying100 Try.underlying101 Try.underlying102 Try.eqGuardType102 Try.stoodInHeld102 Try.underlying103 Try.eqGuardType103 Try.stoodInHeld103
end Go.Proofs.Ytenmccehpkiamaa
