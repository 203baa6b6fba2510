/- Contracts of this seat's functions, and their mathematics (CouA StrB PlaA). -/
import Derived.Test.YtfejobjgbadfjaaGreatK45
import Derived.Test.YtfejobjgbadfjaaGreatK7
import Derived.Laws.EntriesVeiled
import Derived.Test.YtfejobjgbadfjaaGreatK19
import Derived.Test.YtfejobjgbadfjaaGreatK34
set_option linter.unusedVariables false
set_option linter.unusedSimpArgs false
set_option maxRecDepth 10000
set_option maxHeartbeats 4000000
namespace Go.Proofs.YtfejobjgbadfjaaGreat.Cou
open Go.RowKit RowG
structure Hd where
 k1:Nat
 k2:Nat
 st:Int
 bs:ByteArray
abbrev Hd.c (d:Hd):List Value:=[.func (.func 53) #[] #[.pointer (some ⟨d.k1,0,none⟩)],.func (.func 54) #[] #[.pointer (some ⟨d.k1,0,none⟩),.pointer (some ⟨d.k2,0,none⟩)],.func (.func 55) #[] #[.pointer (some ⟨d.k2,0,none⟩),.pointer (some ⟨d.k1,0,none⟩)]]
structure HdAt (w:World)(d:Hd):Prop where
 a:Var 2 w d.k1 [.int .i64 d.st]
 b:Var 9 w d.k2 [.string d.bs]
theorem HdAt.later {w w':World}{d:Hd}(h:HdAt w d)(b:Below w.heap.size w w'):HdAt w' d:=⟨h.a.later b,h.b.later b⟩
def byteN (b:ByteArray)(i:Int):Int:=if h:i.toNat<b.size then((b[i.toNat]'h).toNat:Int)else 0
def Hd.en (d:Hd):Int:=d.st+d.bs.size
def Hd.Fine (d:Hd):Prop:=0≤d.st∧d.st+d.bs.size≤1000000000
theorem held1 (d:Hd)(w:World)(h:HdAt w d):Calls Tryz.prog 53 #[.pointer (some ⟨d.k1,0,none⟩)] w fun e w'=>e=.returned (.int .i64 d.st)∧w'=w:=by
 have e0:=h.a.cell (i:=0) rfl
 go_enter Tryz.func53,Tryz.ntmps53
 go_wp2_with fail
 go_ret
 exact⟨rfl,rfl⟩
theorem held2 (d:Hd)(w:World)(h:HdAt w d)(hf:d.Fine):Calls Tryz.prog 54 #[.pointer (some ⟨d.k1,0,none⟩),.pointer (some ⟨d.k2,0,none⟩)] w fun e w'=>e=.returned (.int .i64 d.en)∧w'=w:=by
 have e0:=h.a.cell (i:=0) rfl
 have e1:=h.b.cell (i:=0) rfl
 obtain⟨f0,f1⟩:=hf
 have z: -9223372036854775808≤d.st+(d.bs.size:Int)∧d.st+(d.bs.size:Int)≤9223372036854775807:=by omega
 go_enter Tryz.func54,Tryz.ntmps54
 go_wp2_with fail
 go_ret
 exact⟨by unfold Hd.en;go_num,rfl⟩
theorem held3 (d:Hd)(p:Int)(w:World)(h:HdAt w d)(hf:d.Fine)(h0:d.st≤p)(h1:p<d.en):Calls Tryz.prog 55 #[.int .i64 p,.pointer (some ⟨d.k2,0,none⟩),.pointer (some ⟨d.k1,0,none⟩)] w fun e w'=>e=.returned (.int .u8 (byteN d.bs (p-d.st)))∧w'=w:=by
 have e0:=h.a.cell (i:=0) rfl
 have e1:=h.b.cell (i:=0) rfl
 obtain⟨f0,f1⟩:=hf
 unfold Hd.en at h1
 have z: -9223372036854775808≤p-d.st∧p-d.st≤9223372036854775807:=by omega
 have i0:0≤p-d.st:=by omega
 have i1:p-d.st<(d.bs.size:Int):=by omega
 go_enter Tryz.func55,Tryz.ntmps55
 go_wp2_with fail
 go_ret
 exact⟨by rw [byteN,dif_pos (by omega)];rfl,rfl⟩
theorem heldFrom (st:Int)(bs:ByteArray)(w:World):Calls Tryz.prog 32 #[.int .i64 st,.string bs] w fun e w'=> ∃k1 k2,e=.returned (.agg (Hd.c ⟨k1,k2,st,bs⟩).toArray)∧HdAt w' ⟨k1,k2,st,bs⟩∧Below w.heap.size w w':=by
 have va:Var 2 (((w.alloc (.cells #[.int .i64 st] 2)).alloc (.cells #[.string bs] 9)).alloc (.cells (Hd.c (⟨w.heap.size,w.heap.size+1,st,bs⟩:Hd)).toArray 53)) w.heap.size [.int .i64 st]:=((Var.new w _).alloc _).alloc _
 have vb:Var 9 (((w.alloc (.cells #[.int .i64 st] 2)).alloc (.cells #[.string bs] 9)).alloc (.cells (Hd.c (⟨w.heap.size,w.heap.size+1,st,bs⟩:Hd)).toArray 53)) (w.heap.size+1) [.string bs]:=by
  have q:=(Var.new (T:=9) (w.alloc (.cells #[.int .i64 st] 2)) [.string bs]).alloc (.cells (Hd.c (⟨w.heap.size,w.heap.size+1,st,bs⟩:Hd)).toArray 53)
  simpa using q
 have vc:Var 53 (((w.alloc (.cells #[.int .i64 st] 2)).alloc (.cells #[.string bs] 9)).alloc (.cells (Hd.c (⟨w.heap.size,w.heap.size+1,st,bs⟩:Hd)).toArray 53)) (w.heap.size+1+1) (Hd.c (⟨w.heap.size,w.heap.size+1,st,bs⟩:Hd)):=by
  have q:=Var.new (T:=53) ((w.alloc (.cells #[.int .i64 st] 2)).alloc (.cells #[.string bs] 9)) (Hd.c (⟨w.heap.size,w.heap.size+1,st,bs⟩:Hd))
  simpa using q
 have b0:Below w.heap.size w (((w.alloc (.cells #[.int .i64 st] 2)).alloc (.cells #[.string bs] 9)).alloc (.cells (Hd.c (⟨w.heap.size,w.heap.size+1,st,bs⟩:Hd)).toArray 53)):=(((Below.refl _ _).alloc (Nat.le_refl _) _).alloc (by simp) _).alloc (by simp;omega) _
 go_enter Tryz.func32,Tryz.ntmps32
 go_wp2_with fail
 generalize ((w.alloc (.cells #[.int .i64 st] 2)).alloc (.cells #[.string bs] 9)).alloc (.cells _ 53)=WZ at *
 have c0:=vc.cell (i:=0) rfl
 have c1:=vc.cell (i:=1) rfl
 have c2:=vc.cell (i:=2) rfl
 refine bodyPost_ret (v:=.agg (Hd.c (⟨w.heap.size,w.heap.size+1,st,bs⟩:Hd)).toArray) (by rw [Hop.res_one rfl];go_simp) rfl ⟨_,_,rfl,⟨va,vb⟩,b0⟩
end Go.Proofs.YtfejobjgbadfjaaGreat.Cou
namespace Go.Proofs.YtfejobjgbadfjaaGreat.Str
open Go.RowKit RowG
def Sm.ok (s:Sm):Bool:=decide ((s.tx.size:Int)≤2000)&&(decide (0≤s.rd∧s.rd≤(s.tx.size:Int))&&((!s.sn||(s.en&&decide (s.rd=(s.tx.size:Int))))&&(!s.dn||s.en)))
theorem specStreamOk (s:Sm)(w:World)(hs:s.tx.size≤2097152):
  Calls Tryz.prog 44 #[s.v] w fun x w'=>x=.returned (.bool s.ok)∧Below w.heap.size w w':=by
 have hmix:=Tak.mix
 have HO:Hid (s.ok=(decide ((s.tx.size:Int)≤2000)&&(decide (0≤s.rd∧s.rd≤(s.tx.size:Int))&&((!s.sn||(s.en&&decide (s.rd=(s.tx.size:Int))))&&(!s.dn||s.en))))):=rfl
 generalize s.ok=O at *
 obtain⟨tx,rd,en,dn,sn⟩:=s
 dsimp only [Sm.v]at *
 obtain⟨V,hV⟩: ∃z,Hid (z=w.alloc (.cells #[.string tx,.int .i64 rd,.bool en,.bool dn,.bool sn] 31)):=⟨_,rfl⟩
 have v1:Var 31 V w.heap.size [.string tx,.int .i64 rd,.bool en,.bool dn,.bool sn]:=by rw [hV.out];exact Var.new w _
 have b1:Below w.heap.size w V:=by rw [hV.out];exact(Below.refl _ _).alloc (Nat.le_refl _) _
 go_enter Tryz.func44,Tryz.ntmps44
 go_upto_region 1 with(fail)
 rw [←hV.out]
 clear hV
 have e0:=v1.cell (i:=0) rfl
 have e1:=v1.cell (i:=1) rfl
 have e2:=v1.cell (i:=2) rfl
 have e3:=v1.cell (i:=3) rfl
 have e4:=v1.cell (i:=4) rfl
 by_cases h1:(tx.size:Int)≤2000
 case neg=>
  have h1':(2000:Int)<(tx.size:Int):=by omega
  have hO:O=false:=by rw [HO.out,decide_eq_false h1];rfl
  subst hO
  go_wp2_with fail
  go_ret
  exact⟨rfl,b1⟩
 have h1': ¬(2000:Int)<(tx.size:Int):=by omega
 rw [decide_eq_true h1,Bool.true_and]at HO
 go_wp2_with fail
 refine(Tak.l1In rd 0 tx.size _).mono ?_
 rintro x w1 ⟨rfl,rfl⟩
 cases h2:decide (0≤rd∧rd≤(tx.size:Int))
 case false=>
  have hO:O=false:=by rw [HO.out,h2];rfl
  subst hO
  clear h2
  go_wp2_with fail
  go_ret
  exact⟨rfl,b1⟩
 rw [h2,Bool.true_and]at HO
 clear h2
 cases sn <;>cases en <;>cases dn
 all_goals first
  | (have hO:O=_:=HO.out;simp only [Bool.not_false,Bool.not_true,Bool.true_or,Bool.false_or,Bool.or_true,Bool.or_false,Bool.and_true,Bool.true_and,Bool.false_and,Bool.and_false]at hO;subst hO;(go_wp2_with fail);go_ret;exact⟨rfl,b1⟩)
  | (by_cases h3:rd=(tx.size:Int);(focus (have hO:O=true:=(by rw [HO.out,decide_eq_true h3];rfl);subst hO;(go_wp2_with fail);go_ret;exact⟨rfl,b1⟩));have hO:O=false:=(by rw [HO.out,decide_eq_false h3];rfl);subst hO;(go_wp2_with fail);go_ret;exact⟨rfl,b1⟩)
end Go.Proofs.YtfejobjgbadfjaaGreat.Str
namespace Go.Proofs.YtfejobjgbadfjaaGreat.Wor
open Go.RowKit RowG Hop Roa Pum Lin
abbrev W7 (W:Wd)(g cH:Nat)(aR:Option Addr)(cR:Nat):List Value:=[.slice (some ⟨g,0,none⟩) 3 cH,.slice aR W.rs.length cR,.string W.tx,.int .i64 W.rd,.bool W.en,.bool W.dn,.bool W.sn]
abbrev Z7:List Value:=[.slice none 0 0,.slice none 0 0,.string ⟨#[]⟩,.int .i64 0,.bool false,.bool false,.bool false]
def Wd.sm (W:Wd):Str.Sm:=⟨W.tx,W.rd,W.en,W.dn,W.sn⟩
theorem stream_sm (W:Wd):streamB W=W.sm.ok:=by
 unfold streamB Str.Sm.ok Wd.sm
 rw [show decide (W.tx.size≤2000)=decide ((W.tx.size:Int)≤2000) by simp;omega]
theorem specWorldOk (aH aR:Option Addr)(n m cH cR:Nat)(xs:List Ha)(rs:List Rd)(s:Str.Sm)(w:World)(hn:n=xs.length)(hm:m=rs.length)(L:LL w aH xs)(R:Roa.E.Lies w aR rs)(hl:xs.length≤1000)(hr:rs.length≤1000)(hs: ∀x∈xs,x.h.Sm)(hz:s.tx.size≤2097152):
  Calls Tryz.prog 26 #[.agg #[.slice aH n cH,.slice aR m cR,.string s.tx,.int .i64 s.rd,.bool s.en,.bool s.dn,.bool s.sn]] w fun x w'=>x=.returned (.bool (hopsB (xs.map (·.h)) rs&&s.ok))∧Below w.heap.size w w':=by
 have hL:=fun w' (b:Below w.heap.size w w')=>specLineOk aH aR n m cH cR xs rs w' hn hm (L.later b) (R.later b) hl hr hs
 have hS:=fun w'=>Str.specStreamOk s w' hz
 clear L R hn hm hl hr hs hz
 generalize hopsB (xs.map (·.h)) rs=q at *
 generalize s.ok=o at *
 obtain⟨tx,rd,en,dn,sn⟩:=s
 dsimp only [Str.Sm.v]at *
 obtain⟨V,hV⟩: ∃z,Hid (z=w.alloc (.cells #[.slice aH n cH,.slice aR m cR,.string tx,.int .i64 rd,.bool en,.bool dn,.bool sn] 33)):=⟨_,rfl⟩
 have v1:Var 33 V w.heap.size [.slice aH n cH,.slice aR m cR,.string tx,.int .i64 rd,.bool en,.bool dn,.bool sn]:=by rw [hV.out];exact Var.new w _
 have b1:Below w.heap.size w V:=by rw [hV.out];exact(Below.refl _ _).alloc (Nat.le_refl _) _
 go_enter Tryz.func26,Tryz.ntmps26
 go_upto_region 1 with(fail)
 rw [←hV.out]
 clear hV
 have e0:=v1.cell (i:=0) rfl
 have e1:=v1.cell (i:=1) rfl
 go_wp2_with fail
 refine(hL _ b1).mono ?_
 rintro x w1 ⟨rfl,b2⟩
 have B2:=b1.trans (b2.mono b1.size)
 have x1:=v1.later b2
 clear v1 b1 b2 e0 e1
 cases q
 ·go_wp2_with fail
  go_ret
  exact⟨rfl,B2⟩
 ·have e2:=x1.cell (i:=2) rfl
  have e3:=x1.cell (i:=3) rfl
  have e4:=x1.cell (i:=4) rfl
  have e5:=x1.cell (i:=5) rfl
  have e6:=x1.cell (i:=6) rfl
  go_wp2_with fail
  refine(hS _).mono ?_
  rintro x w2 ⟨rfl,b3⟩
  go_wp2_with fail
  go_ret
  exact⟨by simp,B2.trans (b3.mono B2.size)⟩
end Go.Proofs.YtfejobjgbadfjaaGreat.Wor
