/- Contracts of this seat's functions, and their mathematics (StrA WorC WorD). -/
import Derived.Test.YtfejobjgbadfjaaGreatK3
import Derived.Test.YtfejobjgbadfjaaGreatK1
import Derived.Laws.Strings
import Derived.Test.YtfejobjgbadfjaaGreatK18
set_option linter.unusedVariables false
set_option linter.unusedSimpArgs false
set_option maxRecDepth 10000
set_option maxHeartbeats 4000000
namespace Go.Proofs.YtfejobjgbadfjaaGreat.Str
open Go.RowKit RowG
theorem beq_text (x y:ByteArray):(x.toList==y.toList)=decide (x=y):=by
 rw [ByteArray.toList_eq,ByteArray.toList_eq]
 by_cases e:x=y
 ·rw [e]
  simp
 ·rw [decide_eq_false e]
  refine beq_eq_false_iff_ne.2 fun q=>e ?_
  cases x
  cases y
  congr 1
  exact Array.toList_inj.1 q
structure Sm where
 tx:ByteArray
 rd:Int
 en:Bool
 dn:Bool
 sn:Bool
abbrev Sm.c (s:Sm):List Value:=[.string s.tx,.int .i64 s.rd,.bool s.en,.bool s.dn,.bool s.sn]
abbrev Sm.v (s:Sm):Value:=.agg #[.string s.tx,.int .i64 s.rd,.bool s.en,.bool s.dn,.bool s.sn]
def growB (s:Sm)(b:ByteArray):Bool:= !(s.en||decide (2000<(s.tx.size:Int)+b.size))
def growS (s:Sm)(b:ByteArray):Sm:=if growB s b then {s with tx:=s.tx++b}else s
def readB (s:Sm)(b:ByteArray):Bool:= !(decide ((s.tx.size:Int)<s.rd+b.size)||decide (s.tx.extract s.rd.toNat (s.rd+b.size).toNat≠b))
def readS (s:Sm)(b:ByteArray):Sm:=if readB s b then {s with rd:=s.rd+b.size}else s
def tellB (s:Sm)(seen:Bool):Bool:=s.en&& !(seen&&(s.sn||decide (s.rd<(s.tx.size:Int))))&& !(!seen&&s.dn)
def tellS (s:Sm)(seen:Bool):Sm:=if tellB s seen then(if seen then {s with sn:=true}else {s with dn:=true})else s
theorem l15Grow {T:TypeId}{pre post:List Value}{ow:Nat}(k:Nat)(s:Sm)(b:ByteArray)(w:World)(hv:Win T pre post ow w k s.c)(hs:s.tx.size≤2097152)(hb:b.size≤2097152):
  Calls Tryz.prog 65 #[.pointer (some ⟨k,ow,none⟩),.string b] w fun x w'=>x=.returned (.bool (growB s b))∧Win T pre post ow w' k (growS s b).c∧Draw.Kept k w w':=by
 have hmix:=Tak.mix
 have HG:Hid (growS s b=if growB s b then {s with tx:=s.tx++b}else s):=rfl
 have HB:Hid (growB s b= !(s.en||decide (2000<(s.tx.size:Int)+b.size))):=rfl
 generalize growS s b=S' at *
 generalize growB s b=B' at *
 have e0:=hv.cell0 rfl
 have e2:=hv.cell (i:=2) rfl
 have f0:=hv.free0
 have v1:Hid _:=hv.set0 (.string (s.tx++b))
 have k1:Hid _:=(Draw.Kept.refl k w).setCell (p:=⟨k,ow,none⟩) (.inl rfl) (.string (s.tx++b))
 have HV:Hid (Win T pre post ow w k s.c):=hv
 clear hv
 obtain⟨tx,rd,en,dn,sn⟩:=s
 dsimp only at *
 cases en
 ·by_cases hz:(2000:Int)<(tx.size:Int)+b.size
  ·have hzd:decide ((2000:Int)<(tx.size:Int)+b.size)=true:=decide_eq_true hz
   have hB:B'=false:=by rw [HB.out,hzd];rfl
   subst hB
   have hS:S'=⟨tx,rd,false,dn,sn⟩:=HG.out
   subst hS
   go_enter Tryz.func65,Tryz.ntmps65
   go_wp2_with fail
   go_ret
   exact⟨rfl,HV.out,Draw.Kept.refl _ _⟩
  ·have hzd:decide ((2000:Int)<(tx.size:Int)+b.size)=false:=decide_eq_false hz
   have hB:B'=true:=by rw [HB.out,hzd];rfl
   subst hB
   have hS:S'=⟨tx++b,rd,false,dn,sn⟩:=HG.out
   subst hS
   go_enter Tryz.func65,Tryz.ntmps65
   go_wp2_with fail
   go_ret
   exact⟨rfl,v1.out,k1.out⟩
 ·have hB:B'=false:=by rw [HB.out];rfl
  subst hB
  have hS:S'=⟨tx,rd,true,dn,sn⟩:=HG.out
  subst hS
  go_enter Tryz.func65,Tryz.ntmps65
  go_wp2_with fail
  go_ret
  exact⟨rfl,HV.out,Draw.Kept.refl _ _⟩
theorem l15Tell {T:TypeId}{pre post:List Value}{ow:Nat}(k:Nat)(s:Sm)(seen:Bool)(w:World)(hv:Win T pre post ow w k s.c)(hs:s.tx.size≤2097152):
  Calls Tryz.prog 69 #[.pointer (some ⟨k,ow,none⟩),.bool seen] w fun x w'=>x=.returned (.bool (tellB s seen))∧Win T pre post ow w' k (tellS s seen).c∧Draw.Kept k w w':=by
 have hmix:=Tak.mix
 have HG:Hid (tellS s seen=if tellB s seen then(if seen then {s with sn:=true}else {s with dn:=true})else s):=rfl
 have HB:Hid (tellB s seen=(s.en&& !(seen&&(s.sn||decide (s.rd<(s.tx.size:Int))))&& !(!seen&&s.dn))):=rfl
 generalize tellS s seen=S' at *
 generalize tellB s seen=B' at *
 have e0:=hv.cell0 rfl
 have e1:=hv.cell (i:=1) rfl
 have e2:=hv.cell (i:=2) rfl
 have e3:=hv.cell (i:=3) rfl
 have e4:=hv.cell (i:=4) rfl
 have HV:Hid (Win T pre post ow w k s.c):=hv
 clear hv
 obtain⟨tx,rd,en,dn,sn⟩:=s
 dsimp only at *
 have d0:=Draw.Later.cell e0
 have d1:=Draw.Later.cell e1
 have d2:=Draw.Later.cell e2
 have d3:=Draw.Later.cell e3
 have d4:=Draw.Later.cell e4
 clear e0 e1 e2 e3 e4
 obtain⟨u,hu⟩: ∃u,decide (rd<(tx.size:Int))=u:=⟨_,rfl⟩
 rw [hu]at HB
 cases en
 case false=>
  have hB:B'=false:=by rw [HB.out];rfl
  subst hB
  have hS:S'=⟨tx,rd,false,dn,sn⟩:=HG.out
  subst hS
  go_enter Tryz.func69,Tryz.ntmps69
  go_wp2_with fail
  refine Draw.wp_region_later hmix (by kernel_rfl) ?_
  repeat (go_big_quiet_step (fail))
  refine wpQuiet_nil ?_
  intro wq hw'
  obtain⟨q9,hq9⟩:=hw'
  have hBq:=q9.h
  rw [←hq9]at hBq
  clear hq9 q9
  have hvq:=HV.out.later hBq
  have kq:Draw.Kept k w wq:=Draw.Kept.ofBelow hBq (Nat.le_refl _)
  go_wp2_with fail
  go_ret
  exact⟨rfl,hvq,kq⟩
 cases seen
 case false=>
  cases dn
  ·have hB:B'=true:=by rw [HB.out];rfl
   subst hB
   have hS:S'=⟨tx,rd,true,true,sn⟩:=HG.out
   subst hS
   go_enter Tryz.func69,Tryz.ntmps69
   go_wp2_with fail
   refine Draw.wp_region_later hmix (by kernel_rfl) ?_
   repeat (go_big_quiet_step (fail))
   refine wpQuiet_nil ?_
   intro wq hw'
   obtain⟨q9,hq9⟩:=hw'
   have hBq:=q9.h
   rw [←hq9]at hBq
   clear hq9 q9
   have hvq:=HV.out.later hBq
   have kq:Draw.Kept k w wq:=Draw.Kept.ofBelow hBq (Nat.le_refl _)
   have fq:=hvq.free 3
   have cq:=hvq.cell (i:=3) rfl
   have vq:Hid _:=hvq.set 3 (.bool true)
   have kq':Hid _:=kq.setCell (p:=⟨k,ow+3,none⟩) (.inl rfl) (.bool true)
   clear hvq kq
   go_wp2_with fail
   go_ret
   exact⟨rfl,vq.out,kq'.out⟩
  ·have hB:B'=false:=by rw [HB.out];rfl
   subst hB
   have hS:S'=⟨tx,rd,true,true,sn⟩:=HG.out
   subst hS
   go_enter Tryz.func69,Tryz.ntmps69
   go_wp2_with fail
   refine Draw.wp_region_later hmix (by kernel_rfl) ?_
   repeat (go_big_quiet_step (fail))
   refine wpQuiet_nil ?_
   intro wq hw'
   obtain⟨q9,hq9⟩:=hw'
   have hBq:=q9.h
   rw [←hq9]at hBq
   clear hq9 q9
   have hvq:=HV.out.later hBq
   have kq:Draw.Kept k w wq:=Draw.Kept.ofBelow hBq (Nat.le_refl _)
   go_wp2_with fail
   go_ret
   exact⟨rfl,hvq,kq⟩
 cases sn
 case true=>
  have hB:B'=false:=by rw [HB.out];rfl
  subst hB
  have hS:S'=⟨tx,rd,true,dn,true⟩:=HG.out
  subst hS
  go_enter Tryz.func69,Tryz.ntmps69
  go_wp2_with fail
  refine Draw.wp_region_later hmix (by kernel_rfl) ?_
  repeat (go_big_quiet_step (fail))
  refine wpQuiet_nil ?_
  intro wq hw'
  obtain⟨q9,hq9⟩:=hw'
  have hBq:=q9.h
  rw [←hq9]at hBq
  clear hq9 q9
  have hvq:=HV.out.later hBq
  have kq:Draw.Kept k w wq:=Draw.Kept.ofBelow hBq (Nat.le_refl _)
  go_wp2_with fail
  go_ret
  exact⟨rfl,hvq,kq⟩
 cases u
 ·have hB:B'=true:=by rw [HB.out];rfl
  subst hB
  have hS:S'=⟨tx,rd,true,dn,true⟩:=HG.out
  subst hS
  have hu': ¬rd<(tx.size:Int):=of_decide_eq_false hu
  go_enter Tryz.func69,Tryz.ntmps69
  go_wp2_with fail
  refine Draw.wp_region_later hmix (by kernel_rfl) ?_
  repeat (go_big_quiet_step (fail))
  refine wpQuiet_nil ?_
  intro wq hw'
  obtain⟨q9,hq9⟩:=hw'
  have hBq:=q9.h
  rw [←hq9]at hBq
  clear hq9 q9
  have hvq:=HV.out.later hBq
  have kq:Draw.Kept k w wq:=Draw.Kept.ofBelow hBq (Nat.le_refl _)
  have fq:=hvq.free 4
  have cq:=hvq.cell (i:=4) rfl
  have vq:Hid _:=hvq.set 4 (.bool true)
  have kq':Hid _:=kq.setCell (p:=⟨k,ow+4,none⟩) (.inl rfl) (.bool true)
  clear hvq kq
  go_wp2_with fail
  go_ret
  exact⟨rfl,vq.out,kq'.out⟩
 ·have hB:B'=false:=by rw [HB.out];rfl
  subst hB
  have hS:S'=⟨tx,rd,true,dn,false⟩:=HG.out
  subst hS
  have hu':rd<(tx.size:Int):=of_decide_eq_true hu
  go_enter Tryz.func69,Tryz.ntmps69
  go_wp2_with fail
  refine Draw.wp_region_later hmix (by kernel_rfl) ?_
  repeat (go_big_quiet_step (fail))
  refine wpQuiet_nil ?_
  intro wq hw'
  obtain⟨q9,hq9⟩:=hw'
  have hBq:=q9.h
  rw [←hq9]at hBq
  clear hq9 q9
  have hvq:=HV.out.later hBq
  have kq:Draw.Kept k w wq:=Draw.Kept.ofBelow hBq (Nat.le_refl _)
  go_wp2_with fail
  go_ret
  exact⟨rfl,hvq,kq⟩
theorem l15Read {T:TypeId}{pre post:List Value}{ow:Nat}(k:Nat)(s:Sm)(b:ByteArray)(w:World)(hv:Win T pre post ow w k s.c)(hs:s.tx.size≤2097152)(hb:b.size≤2097152)(hr:0≤s.rd∧s.rd≤(s.tx.size:Int)):
  Calls Tryz.prog 93 #[.pointer (some ⟨k,ow,none⟩),.string b] w fun x w'=>x=.returned (.bool (readB s b))∧Win T pre post ow w' k (readS s b).c∧Draw.Kept k w w':=by
 have hmix:=Tak.mix
 have HG:Hid (readS s b=if readB s b then {s with rd:=s.rd+b.size}else s):=rfl
 have HB:Hid (readB s b= !(decide ((s.tx.size:Int)<s.rd+b.size)||decide (s.tx.extract s.rd.toNat (s.rd+b.size).toNat≠b))):=rfl
 generalize readS s b=S' at *
 generalize readB s b=B' at *
 have e0:=hv.cell0 rfl
 have e1:=hv.cell (i:=1) rfl
 have HV:Hid (Win T pre post ow w k s.c):=hv
 clear hv
 obtain⟨tx,rd,en,dn,sn⟩:=s
 dsimp only at *
 obtain⟨r,rfl⟩: ∃r:Nat,rd=(r:Int):=⟨rd.toNat,by omega⟩
 have d0:=Draw.Later.cell e0
 have d1:=Draw.Later.cell e1
 by_cases hz:(tx.size:Int)<(r:Int)+b.size
 ·have hzd:decide ((tx.size:Int)<(r:Int)+b.size)=true:=decide_eq_true hz
  have hB:B'=false:=by rw [HB.out,hzd];rfl
  subst hB
  have hS:S'=⟨tx,r,en,dn,sn⟩:=HG.out
  subst hS
  go_enter Tryz.func93,Tryz.ntmps93
  go_wp2_with fail
  refine Draw.wp_region_later hmix (by kernel_rfl) ?_
  repeat (go_big_quiet_step (fail))
  refine wpQuiet_nil ?_
  intro wq hw'
  obtain⟨q9,hq9⟩:=hw'
  have hBq:=q9.h
  rw [←hq9]at hBq
  clear hq9 q9
  have hvq:=HV.out.later hBq
  have kq:Draw.Kept k w wq:=Draw.Kept.ofBelow hBq (Nat.le_refl _)
  go_wp2_with fail
  go_ret
  exact⟨rfl,hvq,kq⟩
 ·have hzd:decide ((tx.size:Int)<(r:Int)+b.size)=false:=decide_eq_false hz
  rw [hzd,Bool.false_or,show((r:Int)).toNat=r by omega,show((r:Int)+(b.size:Int)).toNat=r+b.size by omega]at HB
  have i0:(r:Int)+(b.size:Int)≤(tx.size:Int):=by omega
  have i1:(r:Int)≤(r:Int)+(b.size:Int):=by omega
  have i2:(0:Int)≤(r:Int):=by omega
  go_enter Tryz.func93,Tryz.ntmps93
  go_wp2_with fail
  refine Draw.wp_region_later hmix (by kernel_rfl) ?_
  repeat (go_big_quiet_step (fail))
  refine wpQuiet_nil ?_
  intro wq hw'
  obtain⟨q9,hq9⟩:=hw'
  have hBq:=q9.h
  rw [←hq9]at hBq
  clear hq9 q9
  have hvq:=HV.out.later hBq
  have kq:Draw.Kept k w wq:=Draw.Kept.ofBelow hBq (Nat.le_refl _)
  have hc:=beq_text (tx.extract r (r+b.size)) b
  by_cases hq:tx.extract r (r+b.size)=b
  ·rw [decide_eq_true hq]at hc
   have hB:B'=true:=by rw [HB.out,hq];simp
   subst hB
   have hS:S'=⟨tx,(r:Int)+(b.size:Int),en,dn,sn⟩:=HG.out
   subst hS
   have fq:=hvq.free 1
   have cq:=hvq.cell (i:=1) rfl
   have vq:Hid _:=hvq.set 1 (.int .i64 ((r:Int)+(b.size:Int)))
   have kq':Hid _:=kq.setCell (p:=⟨k,ow+1,none⟩) (.inl rfl) (.int .i64 ((r:Int)+(b.size:Int)))
   clear hvq kq
   rw [hc]
   clear hc hq
   go_wp2_with fail
   go_ret
   exact⟨rfl,vq.out,kq'.out⟩
  ·rw [decide_eq_false hq]at hc
   have hB:B'=false:=by rw [HB.out];simp [hq]
   subst hB
   have hS:S'=⟨tx,(r:Int),en,dn,sn⟩:=HG.out
   subst hS
   rw [hc]
   clear hc hq
   go_wp2_with fail
   go_ret
   exact⟨rfl,hvq,kq⟩
end Go.Proofs.YtfejobjgbadfjaaGreat.Str
namespace Go.Proofs.YtfejobjgbadfjaaGreat.Wor
open Go.RowKit RowG Hop Roa Pum Lin
theorem own_cell {T:TypeId}{w:World}{B g c:Nat}{xs:List Ha}(h:hopE.Own T w B (some ⟨g,0,none⟩) c xs){i:Nat}{x:Ha}(hx:xs[i]? =some x){j:Nat}{u:Value}(hu:x.c[j]? =some u):w.cell? ⟨g,i*13+j,none⟩=some u:=by
 obtain⟨pre,post,v,_⟩:=h.win hx
 exact v.cell hu
theorem l16Open (aH:Option Addr)(nH cH:Nat)(aR:Option Addr)(cR:Nat)(rs:List Rd)(h road:Int)(w:World)(hL:Roa.E.Lies w aR rs)(hl:rs.length≤2097152):
  Calls Tryz.prog 85 #[.agg #[.slice aH nH cH,.slice aR rs.length cR],.int .i64 h,.int .i64 road] w fun x w'=>x=.returned (.bool (openB rs h road))∧Below w.heap.size w w':=by
 have hmix:=Tak.mix
 have bW:=(Below.refl w.heap.size w).alloc (Nat.le_refl _) (.cells #[.slice aH nH cH,.slice aR rs.length cR] 27)
 have v0:Var 27 (w.alloc (.cells #[.slice aH nH cH,.slice aR rs.length cR] 27)) w.heap.size [.slice aH nH cH,.slice aR rs.length cR]:=Var.new w _
 have HB:Hid (openB rs h road=if h=1 then hasB rs road&&(at' rs road.toNat).op else decide (road=0)):=rfl
 generalize openB rs h road=R at *
 by_cases h1:h=1
 ·subst h1
  rw [if_pos rfl]at HB
  obtain⟨v,hv⟩: ∃v,decide (0≤road∧road<(rs.length:Int))=v:=⟨_,rfl⟩
  go_enter Tryz.func85,Tryz.ntmps85
  go_wp2_with fail
  generalize w.alloc (.cells #[.slice aH nH cH,.slice aR rs.length cR] 27)=V at *
  refine(Roa.l10Has _ _ _ _ v _ hv).mono ?_
  rintro x w1 ⟨rfl,rfl⟩
  cases v
  ·have hR:R=false:=by rw [HB.out];unfold hasB;rw [hv];rfl
   subst hR
   go_wp2_with fail
   go_ret
   exact⟨rfl,bW⟩
  ·obtain⟨r0,r1⟩:=of_decide_eq_true hv
   obtain⟨j,rfl⟩: ∃j:Nat,road=(j:Int):=⟨road.toNat,by omega⟩
   have hj:j<rs.length:=by omega
   have hR:R=(at' rs j).op:=by rw [HB.out];unfold hasB;rw [hv,Bool.true_and,show((j:Int)).toNat=j by omega]
   have e1:=v0.cell (i:=1) rfl
   rcases hL.later bW with hs|⟨b,off,rfl,hs⟩
   ·rw [hs]at hj;simp at hj
   obtain⟨c0,_,_,_⟩:=cells4 hs hj
   clear hs hv
   go_wp2_with fail
   go_ret
   exact⟨by rw [hR];rfl,bW⟩
 ·rw [if_neg h1]at HB
  have hb:(road==0)=R:=by rw [HB.out];rfl
  go_enter Tryz.func85,Tryz.ntmps85
  go_wp2_with fail
  go_ret
  exact⟨by rw [←hb];rfl,bW⟩
theorem l14May (B g cH:Nat)(xs:List Ha)(aR:Option Addr)(nR cR:Nat)(i:Nat)(hi:i<3)(y z:Ha)(w:World)(L:hopE.Own 47 w B (some ⟨g,0,none⟩) cH xs)(hl:xs.length=3)(hy:xs[i]? =some y)(hz:i<2→xs[i+1]? =some z):
  Calls Tryz.prog 88 #[.agg #[.slice (some ⟨g,0,none⟩) 3 cH,.slice aR nR cR],.int .i64 (i:Int)] w fun x w'=>x=.returned (.bool (y.h.t.en&&(decide (i=2)||z.h.g.dn)))∧Below w.heap.size w w':=by
 have hmix:=Tak.mix
 have bW:=(Below.refl w.heap.size w).alloc (Nat.le_refl _) (.cells #[.slice (some ⟨g,0,none⟩) 3 cH,.slice aR nR cR] 27)
 have v0:Var 27 (w.alloc (.cells #[.slice (some ⟨g,0,none⟩) 3 cH,.slice aR nR cR] 27)) w.heap.size [.slice (some ⟨g,0,none⟩) 3 cH,.slice aR nR cR]:=Var.new w _
 have c11:_=_:=own_cell (L.later bW) hy (j:=11) rfl
 rw [show i*13+11=i*13+6+5 by omega]at c11
 have n5:=fun q=>own_cell (L.later bW) (hz q) (j:=5) rfl
 have i0:(0:Int)≤(i:Int):=by omega
 have i1:(i:Int)<3:=by omega
 have HN:Hid _:=n5
 clear n5 hl hz hy
 have e0:=v0.cell (i:=0) rfl
 cases hen:y.h.t.en
 ·rw [hen]at c11
  go_enter Tryz.func88,Tryz.ntmps88
  go_upto_region 1 with(fail)
  generalize w.alloc (.cells #[.slice (some ⟨g,0,none⟩) 3 cH,.slice aR nR cR] 27)=V at *
  go_wp2_with fail
  go_ret
  exact⟨rfl,bW⟩
 rw [hen]at c11
 by_cases h2:i=2
 ·subst h2
  go_enter Tryz.func88,Tryz.ntmps88
  go_upto_region 1 with(fail)
  generalize w.alloc (.cells #[.slice (some ⟨g,0,none⟩) 3 cH,.slice aR nR cR] 27)=V at *
  go_wp2_with fail
  go_ret
  exact⟨rfl,bW⟩
 ·have c5:=HN.out (by omega)
  have h2i: ¬(i:Int)=2:=by omega
  have h2b:((i:Int)==2)=false:=beq_eq_false_iff_ne.2 h2i
  have h2d:decide (i=2)=false:=decide_eq_false h2
  have i2:(0:Int)≤(i:Int)+1:=by omega
  have i3:(i:Int)+1<3:=by omega
  rw [h2d]
  go_enter Tryz.func88,Tryz.ntmps88
  go_upto_region 1 with(fail)
  generalize w.alloc (.cells #[.slice (some ⟨g,0,none⟩) 3 cH,.slice aR nR cR] 27)=V at *
  go_wp2_with fail
  go_ret
  exact⟨rfl,bW⟩
theorem l14AtEnd (B g cH:Nat)(xs:List Ha)(aR:Option Addr)(nR cR:Nat)(y:Ha)(w:World)(L:hopE.Own 47 w B (some ⟨g,0,none⟩) cH xs)(hy:xs[2]? =some y):
  Calls Tryz.prog 94 #[.agg #[.slice (some ⟨g,0,none⟩) 3 cH,.slice aR nR cR]] w fun x w'=>x=.returned (.bool (y.h.t.en&&decide (y.h.t.bs.size=0)))∧Below w.heap.size w w':=by
 have hmix:=Tak.mix
 have bW:=(Below.refl w.heap.size w).alloc (Nat.le_refl _) (.cells #[.slice (some ⟨g,0,none⟩) 3 cH,.slice aR nR cR] 27)
 have v0:Var 27 (w.alloc (.cells #[.slice (some ⟨g,0,none⟩) 3 cH,.slice aR nR cR] 27)) w.heap.size [.slice (some ⟨g,0,none⟩) 3 cH,.slice aR nR cR]:=Var.new w _
 have c11:_=_:=own_cell (L.later bW) hy (j:=11) rfl
 have c7:_=_:=own_cell (L.later bW) hy (j:=7) rfl
 have e0:=v0.cell (i:=0) rfl
 have hE:=Giv.isEmpty_eq y.h.t.bs
 obtain⟨u,hu⟩: ∃u,decide (y.h.t.bs.size=0)=u:=⟨_,rfl⟩
 rw [hu]at hE ⊢
 cases hen:y.h.t.en
 ·rw [hen]at c11
  go_enter Tryz.func94,Tryz.ntmps94
  go_upto_region 1 with(fail)
  generalize w.alloc (.cells #[.slice (some ⟨g,0,none⟩) 3 cH,.slice aR nR cR] 27)=V at *
  go_wp2_with fail
  go_ret
  exact⟨rfl,bW⟩
 ·rw [hen]at c11
  go_enter Tryz.func94,Tryz.ntmps94
  go_upto_region 1 with(fail)
  generalize w.alloc (.cells #[.slice (some ⟨g,0,none⟩) 3 cH,.slice aR nR cR] 27)=V at *
  go_wp2_with fail
  go_ret
  exact⟨by rw [←hE];rfl,bW⟩
end Go.Proofs.YtfejobjgbadfjaaGreat.Wor
namespace Go.Proofs.YtfejobjgbadfjaaGreat.Wor
open Go.RowKit RowG Hop Roa Pum Lin
structure WAt (T:TypeId)(pre post:List Value)(ow:Nat)(w:World)(B k g cH:Nat)(xs:List Ha)(aR:Option Addr)(cR:Nat)(W:Wd):Prop where
 v:Win T pre post ow w k [.slice (some ⟨g,0,none⟩) 3 cH,.slice aR W.rs.length cR,.string W.tx,.int .i64 W.rd,.bool W.en,.bool W.dn,.bool W.sn]
 L:LineLay w B (some ⟨g,0,none⟩) cH xs
 hs:xs.map (·.h)=W.hs
 R:Roa.E.Own 95 w B aR cR W.rs
def WLay (T:TypeId)(pre post:List Value)(ow:Nat)(w:World)(B k g:Nat)(W:Wd):Prop:= ∃cH xs aR cR,WAt T pre post ow w B k g cH xs aR cR W
def ActS (w w':World)(k:Option Nat):Prop:= ∀(i:Nat) (cs:Array Value) (m:Nat×Nat),some i≠k→w.heap[i]? =some (.cells cs 69 m)→w'.heap[i]? =some (.cells cs 69 m)
def OthS (g:Nat)(w w':World)(k:Option Nat):Prop:= ∀(i:Nat) (cs:Array Value) (T:TypeId) (m:Nat×Nat),some i≠k→(T=47→i≠g)→T≠123→T≠75→T≠95→w.heap[i]? =some (.cells cs T m)→w'.heap[i]? =some (.cells cs T m)
theorem OthS.act {g:Nat}{w w':World}{k:Option Nat}(h:OthS g w w' k):ActS w w' k:=fun i cs m hk hi=>h i cs _ m hk (fun e=>absurd e (by decide)) (by decide) (by decide) (by decide) hi
structure Fr (B g:Nat)(w w':World):Prop extends Below B w w' where
 act:OthS g w w' none
theorem OthS.trans {g:Nat}{a b d:World}{k:Option Nat}(h:OthS g a b k)(h':OthS g b d k):OthS g a d k:=fun i cs T m hk h1 h2 h3 h4 hi=>h' i cs T m hk h1 h2 h3 h4 (h i cs T m hk h1 h2 h3 h4 hi)
theorem OthS.ofBelow {g:Nat}{w w':World}{k:Option Nat}(h:Below w.heap.size w w'):OthS g w w' k:=fun i cs T m _ _ _ _ _ hi=>(h.block i (Array.getElem?_eq_some_iff.1 hi).1).trans hi
theorem OthS.ofKept {g:Nat}{w w':World}{k:Nat}(h:Draw.Kept k w w'):OthS g w w' (some k):=fun i cs T m hk _ _ _ _ hi=>(h.block i (Array.getElem?_eq_some_iff.1 hi).1 (fun e=>hk (by rw [e]))).trans hi
theorem OthS.wide {g:Nat}{w w':World}{k:Option Nat}(h:OthS g w w' none):OthS g w w' k:=fun i cs T m _ h1 h2 h3 h4 hi=>h i cs T m (by simp) h1 h2 h3 h4 hi
theorem OthS.ofKeep {w w':World}{B g:Nat}{r:Option Addr}{c c':Nat}{xs:List Ha}{l:List Lt}(o:hopE.Own 47 w B (some ⟨g,0,none⟩) c xs)(o':letE.Own 75 w B r c' l)(h:Keep g (blk r) w w'):OthS g w w' none:=fun i cs T m _ q1 _ q3 _ hi=>(h.block i (Array.getElem?_eq_some_iff.1 hi).1 (fun e=>by
  obtain⟨cs',h1⟩:=own_row o ⟨g,0,none⟩ rfl
  have hi':=hi
  rw [e,h1]at hi'
  injection hi' with hi'
  injection hi' with _ h2 _
  exact q1 h2.symm e) (fun e=>by
  cases hr:r with
  | none=>rw [hr]at e;cases e
  | some p=>
   rw [hr]at e
   simp only [blk,Option.map_some,Option.some.injEq]at e
   obtain⟨cs',h1⟩:=own_row o' p hr
   rw [e,h1]at hi
   injection hi with hi
   injection hi with _ h2 _
   exact q3 h2.symm)).trans hi
theorem Fr.trans {B g:Nat}{a b d:World}(h:Fr B g a b)(h':Fr B g b d):Fr B g a d:=⟨h.toBelow.trans h'.toBelow,h.act.trans h'.act⟩
theorem Fr.ofB {B g:Nat}{w w':World}(h:Below w.heap.size w w')(hB:B≤w.heap.size):Fr B g w w':=⟨h.mono hB,OthS.ofBelow h⟩
theorem Fr.later {B g:Nat}{a w w':World}(h:Fr B g a w)(hb:Below w.heap.size w w')(hB:B≤w.heap.size):Fr B g a w':=h.trans (Fr.ofB hb hB)
structure KW (B k g:Nat)(w w':World):Prop extends KB B k w w' where
 act:OthS g w w' (some k)
theorem KW.refl (B k g:Nat)(w:World):KW B k g w w:=⟨KB.refl B k w,fun _ _ _ _ _ _ _ _ _ h=>h⟩
theorem KW.trans {B k g:Nat}{a b d:World}(h:KW B k g a b)(h':KW B k g b d):KW B k g a d:=⟨h.toKB.trans h'.toKB,h.act.trans h'.act⟩
theorem KW.ofKept {B k g:Nat}{w w':World}(h:Draw.Kept k w w')(hB:B≤w.heap.size):KW B k g w w':=⟨KB.ofKept h hB,OthS.ofKept h⟩
theorem KW.ofBelow {B k g:Nat}{w w':World}(h:Below w.heap.size w w')(hB:B≤w.heap.size):KW B k g w w':=⟨KB.ofBelow h hB,OthS.ofBelow h⟩
theorem KW.ofFr {B k g:Nat}{w w':World}(h:Fr B g w w'):KW B k g w w':=⟨⟨h.os,h.tape,h.output,h.size,fun q hq _=>h.block q hq⟩,h.act.wide⟩
theorem WAt.later {T:TypeId}{pre post:List Value}{ow:Nat}{w w':World}{B k g cH:Nat}{xs:List Ha}{aR:Option Addr}{cR:Nat}{W:Wd}(h:WAt T pre post ow w B k g cH xs aR cR W)(b:Below w.heap.size w w'):WAt T pre post ow w' B k g cH xs aR cR W:=⟨h.v.later b,h.L.later b,h.hs,h.R.later b⟩
theorem WAt.hop {T:TypeId}{pre post:List Value}{ow:Nat}{w:World}{B k g cH:Nat}{xs:List Ha}{aR:Option Addr}{cR:Nat}{W:Wd}(h:WAt T pre post ow w B k g cH xs aR cR W)(hok:hopsB W.hs W.rs=true){i:Nat}(hi:i<3): ∃x,xs[i]? =some x∧x.h=W.at i:=by
 have hl:xs.length=3:=by
  have:=congrArg List.length h.hs
  rw [List.length_map,(hops_iff.1 hok).1]at this
  exact this
 refine⟨xs[i],List.getElem?_eq_getElem (by omega),?_⟩
 unfold Wd.at
 rw [←h.hs,List.getD_eq_getElem?_getD,List.getElem?_map,List.getElem?_eq_getElem (by omega)]
 rfl
theorem WAt.turn {T:TypeId}{pre post:List Value}{ow:Nat}{w w':World}{B k g cH:Nat}{xs:List Ha}{aR:Option Addr}{cR:Nat}{W:Wd}(h:WAt T pre post ow w B k g cH xs aR cR W)(hkB:NT T){i:Nat}{x y:Ha}(hx:xs[i]? =some x)
  (L':LineLay w' B (some ⟨g,0,none⟩) cH (xs.set i y)) (kp:Keep g (blk x.aW) w w') (hB:B≤w.heap.size):WAt T pre post ow w' B k g cH (xs.set i y) aR cR (W.put i y.h)∧Fr B g w w':=by
 have hg:=(h.L.row.lt _ rfl).1
 have Rx:=h.L.rows x (List.mem_of_getElem? hx)
 have hw: ∀q,blk x.aW=some q→B≤q:=blk_ge Rx.l
 have bB:Below B w w':=kp.below hg hw hB
 refine⟨⟨h.v.same (kp.block k h.v.lt (Ne.symm (own_win hkB.h h.L.row h.v _ rfl)) (fun e=>by cases hq:x.aW with|none=>(rw [hq]at e;cases e)|some q=>(rw [hq]at e;simp only [blk,Option.map_some,Option.some.injEq]at e;exact own_win hkB.l Rx.l h.v q hq e.symm))),L',?_,?_⟩,⟨bB,OthS.ofKeep h.L.row Rx.l kp⟩⟩
 ·show List.map _ (xs.set i y)=W.hs.set i y.h
  rw [←h.hs,List.map_set]
 ·exact h.R.keep kp (fun q hq e=>by
   have h1:=own_row h.R q hq
   obtain⟨cs,h1⟩:=h1
   obtain⟨cs',h2⟩:=own_row h.L.row ⟨g,0,none⟩ rfl
   rw [e]at h1
   rw [h1]at h2
   injection h2 with h2
   injection h2 with _ h3 _
   exact absurd h3 (by decide)) (own_two (by decide) h.R Rx.l)
end Go.Proofs.YtfejobjgbadfjaaGreat.Wor
