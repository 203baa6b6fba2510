/- Contracts of this seat's functions, and their mathematics (StrB PlaA LinD). -/
import Derived.Test.YtfmcahjdhoabcaaGreatU24
import Derived.Test.YtfmcahjdhoabcaaGreatU40
import Derived.Test.YtfmcahjdhoabcaaGreatU22
set_option linter.unusedVariables false
set_option linter.unusedSimpArgs false
set_option maxRecDepth 10000
set_option maxHeartbeats 4000000
namespace Go.Proofs.YtfmcahjdhoabcaaGreat.Str
open Go.RowKit RowG
def Sm.ok (s:Sm):Bool:=decide ((s.tx.size:Int)≤2000)&&(decide (0≤s.rd∧s.rd≤(s.tx.size:Int))&&((!s.sn||(s.en&&decide (s.rd=(s.tx.size:Int))))&&(!s.dn||s.en)))
theorem specStreamOk (s:Sm)(w:World)(hs:s.tx.size≤2097152):
  Calls Tryz.prog 49 #[s.v] w fun x w'=>x=.returned (.bool s.ok)∧Below w.heap.size w w':=by
 have hmix:=Tak.mix
 have HO:Hid (s.ok=(decide ((s.tx.size:Int)≤2000)&&(decide (0≤s.rd∧s.rd≤(s.tx.size:Int))&&((!s.sn||(s.en&&decide (s.rd=(s.tx.size:Int))))&&(!s.dn||s.en))))):=rfl
 generalize s.ok=O at *
 obtain⟨tx,rd,en,dn,sn⟩:=s
 dsimp only [Sm.v]at *
 obtain⟨V,hV⟩: ∃z,Hid (z=w.alloc (.cells #[.string tx,.int .i64 rd,.bool en,.bool dn,.bool sn] 29)):=⟨_,rfl⟩
 have v1:Var 29 V w.heap.size [.string tx,.int .i64 rd,.bool en,.bool dn,.bool sn]:=by rw [hV.out];exact Var.new w _
 have b1:Below w.heap.size w V:=by rw [hV.out];exact(Below.refl _ _).alloc (Nat.le_refl _) _
 go_enter Tryz.func49,Tryz.ntmps49
 go_upto_region 1 with(fail)
 rw [←hV.out]
 clear hV
 have e0:=v1.cell (i:=0) rfl
 have e1:=v1.cell (i:=1) rfl
 have e2:=v1.cell (i:=2) rfl
 have e3:=v1.cell (i:=3) rfl
 have e4:=v1.cell (i:=4) rfl
 by_cases h1:(tx.size:Int)≤2000
 case neg=>
  have h1':(2000:Int)<(tx.size:Int):=by omega
  have hO:O=false:=by rw [HO.out,decide_eq_false h1];rfl
  subst hO
  go_wp2_with fail
  go_ret
  exact⟨rfl,b1⟩
 have h1': ¬(2000:Int)<(tx.size:Int):=by omega
 rw [decide_eq_true h1,Bool.true_and]at HO
 go_wp2_with fail
 refine(Tak.l1In rd 0 tx.size _).mono ?_
 rintro x w1 ⟨rfl,rfl⟩
 cases h2:decide (0≤rd∧rd≤(tx.size:Int))
 case false=>
  have hO:O=false:=by rw [HO.out,h2];rfl
  subst hO
  clear h2
  go_wp2_with fail
  go_ret
  exact⟨rfl,b1⟩
 rw [h2,Bool.true_and]at HO
 clear h2
 cases sn <;>cases en <;>cases dn
 all_goals first
  | (have hO:O=_:=HO.out;simp only [Bool.not_false,Bool.not_true,Bool.true_or,Bool.false_or,Bool.or_true,Bool.or_false,Bool.and_true,Bool.true_and,Bool.false_and,Bool.and_false]at hO;subst hO;(go_wp2_with fail);go_ret;exact⟨rfl,b1⟩)
  | (by_cases h3:rd=(tx.size:Int);(focus (have hO:O=true:=(by rw [HO.out,decide_eq_true h3];rfl);subst hO;(go_wp2_with fail);go_ret;exact⟨rfl,b1⟩));have hO:O=false:=(by rw [HO.out,decide_eq_false h3];rfl);subst hO;(go_wp2_with fail);go_ret;exact⟨rfl,b1⟩)
end Go.Proofs.YtfmcahjdhoabcaaGreat.Str
namespace Go.Proofs.YtfmcahjdhoabcaaGreat.Wor
open Go.RowKit RowG Hop Roa Pum Lin
abbrev W7 (W:Wd)(g cH:Nat)(aR:Option Addr)(cR:Nat):List Value:=[.slice (some ⟨g,0,none⟩) 3 cH,.slice aR W.rs.length cR,.string W.tx,.int .i64 W.rd,.bool W.en,.bool W.dn,.bool W.sn]
abbrev Z7:List Value:=[.slice none 0 0,.slice none 0 0,.string ⟨#[]⟩,.int .i64 0,.bool false,.bool false,.bool false]
def Wd.sm (W:Wd):Str.Sm:=⟨W.tx,W.rd,W.en,W.dn,W.sn⟩
theorem stream_sm (W:Wd):streamB W=W.sm.ok:=by
 unfold streamB Str.Sm.ok Wd.sm
 rw [show decide (W.tx.size≤2000)=decide ((W.tx.size:Int)≤2000) by simp;omega]
theorem specWorldOk (aH aR:Option Addr)(n m cH cR:Nat)(xs:List Ha)(rs:List Rd)(s:Str.Sm)(w:World)(hn:n=xs.length)(hm:m=rs.length)(L:LL w aH xs)(R:Roa.E.Lies w aR rs)(hl:xs.length≤1000)(hr:rs.length≤1000)(hs: ∀x∈xs,x.h.Sm)(hz:s.tx.size≤2097152):
  Calls Tryz.prog 26 #[.agg #[.slice aH n cH,.slice aR m cR,.string s.tx,.int .i64 s.rd,.bool s.en,.bool s.dn,.bool s.sn]] w fun x w'=>x=.returned (.bool (hopsB (xs.map (·.h)) rs&&s.ok))∧Below w.heap.size w w':=by
 have hL:=fun w' (b:Below w.heap.size w w')=>specLineOk aH aR n m cH cR xs rs w' hn hm (L.later b) (R.later b) hl hr hs
 have hS:=fun w'=>Str.specStreamOk s w' hz
 clear L R hn hm hl hr hs hz
 generalize hopsB (xs.map (·.h)) rs=q at *
 generalize s.ok=o at *
 obtain⟨tx,rd,en,dn,sn⟩:=s
 dsimp only [Str.Sm.v]at *
 obtain⟨V,hV⟩: ∃z,Hid (z=w.alloc (.cells #[.slice aH n cH,.slice aR m cR,.string tx,.int .i64 rd,.bool en,.bool dn,.bool sn] 31)):=⟨_,rfl⟩
 have v1:Var 31 V w.heap.size [.slice aH n cH,.slice aR m cR,.string tx,.int .i64 rd,.bool en,.bool dn,.bool sn]:=by rw [hV.out];exact Var.new w _
 have b1:Below w.heap.size w V:=by rw [hV.out];exact(Below.refl _ _).alloc (Nat.le_refl _) _
 go_enter Tryz.func26,Tryz.ntmps26
 go_upto_region 1 with(fail)
 rw [←hV.out]
 clear hV
 have e0:=v1.cell (i:=0) rfl
 have e1:=v1.cell (i:=1) rfl
 go_wp2_with fail
 refine(hL _ b1).mono ?_
 rintro x w1 ⟨rfl,b2⟩
 have B2:=b1.trans (b2.mono b1.size)
 have x1:=v1.later b2
 clear v1 b1 b2 e0 e1
 cases q
 ·go_wp2_with fail
  go_ret
  exact⟨rfl,B2⟩
 ·have e2:=x1.cell (i:=2) rfl
  have e3:=x1.cell (i:=3) rfl
  have e4:=x1.cell (i:=4) rfl
  have e5:=x1.cell (i:=5) rfl
  have e6:=x1.cell (i:=6) rfl
  go_wp2_with fail
  refine(hS _).mono ?_
  rintro x w2 ⟨rfl,b3⟩
  go_wp2_with fail
  go_ret
  exact⟨by simp,B2.trans (b3.mono B2.size)⟩
end Go.Proofs.YtfmcahjdhoabcaaGreat.Wor
namespace Go.Proofs.YtfmcahjdhoabcaaGreat.Wor
open Go.RowKit RowG Hop Roa Pum Lin
theorem fldLine (a b e f g h i:Value)(w:World):(Instr.field 31 (.agg #[a,b,e,f,g,h,i]) 0).run Tryz.prog w=.ok (.agg #[a,b]) w:=by kernel_rfl
theorem l13Draw (c:Nat)(w:World)(hc:Draw.Cur w c):
  Calls Tryz.prog 65 #[.pointer (some ⟨c,0,none⟩)] w fun e w'=> ∃(W:Wd) (g cH:Nat) (xs:List Ha) (gR cR:Nat),e=.returned (.agg #[.slice (some ⟨g,0,none⟩) 3 cH,.slice (some ⟨gR,0,none⟩) W.rs.length cR])∧WAs w' w.heap.size g cH xs (some ⟨gR,0,none⟩) cR W∧Draw.Cur w' c∧Draw.Kept c w w':=by
 have hmix:=Roa.mix
 have hcl:=hc.lt
 have vR:Var 27 (w.alloc (.cells #[.slice none 0 0,.slice none 0 0] 27)) w.heap.size [.slice none 0 0,.slice none 0 0]:=Var.new w _
 have cu0:=hc.alloc (.cells #[.slice none 0 0,.slice none 0 0] 27)
 have K0:=(Draw.Kept.refl c w).alloc (.cells #[.slice none 0 0,.slice none 0 0] 27)
 go_enter Tryz.func65,Tryz.ntmps65
 go_wp2_with fail
 generalize w.alloc (.cells #[.slice none 0 0,.slice none 0 0] 27)=V at *
 have hzV:=K0.size
 refine(l16Draw c _ cu0).mono ?_
 rintro e w1 ⟨v,W,rfl,⟨g2,h2,xs2,a2,r2,rfl,A2⟩,cu1,k1⟩
 replace vR:=vR.kept k1 (by omega)
 replace K0:=K0.trans k1
 clear k1 cu0
 have hfl:=fldLine (.slice (some ⟨g2,0,none⟩) 3 h2) (.slice a2 W.rs.length r2) (.string W.tx) (.int .i64 W.rd) (.bool W.en) (.bool W.dn) (.bool W.sn) w1
 go_wp2_with fail
 refine(Lin.l13Copy _ a2 3 W.rs.length h2 r2 xs2 W.rs _ A2.len.symm rfl A2.L.ll A2.R.lies A2.R.none_cap (by rw [A2.len];decide) (by have:=(roads_len (hops_iff.1 (ok_parts.1 A2.ok).1).2.1).2;omega) (few_of A2.ok A2.hs)).mono ?_
 rintro e w2 ⟨a',c',ys,g',c'',rfl,La,hma,Ra,ba⟩
 obtain⟨g,rfl⟩: ∃g,a'=some ⟨g,0,none⟩:=by
  rcases La.row.form with⟨_,_,h0⟩|⟨g,rfl,_⟩
  ·rw [h0]at hma
   have:=congrArg List.length hma
   simp [A2.len]at this
  ·exact⟨g,rfl⟩
 have A3:WAs w2 w1.heap.size g c' ys (some ⟨g',0,none⟩) c'' W:=⟨La,hma.trans A2.hs,Ra,A2.ok⟩
 replace vR:=vR.later ba
 have cu2:=cu1.below ba (Nat.le_refl _)
 have K2:=K0.trans (Draw.Kept.ofBelow ba (Nat.le_refl _))
 have hz1:w.heap.size≤w1.heap.size:=K0.size
 clear hfl La Ra ba cu1 K0 A2 hma
 have e0:=vR.cell (i:=0) rfl
 have e1:=vR.cell (i:=1) rfl
 have f0:=vR.free 0
 have f1:=vR.free 1
 go_wp2_with fail
 clear e0 e1 f0 f1
 obtain⟨WZ,hWZ⟩: ∃z,Hid (z=(w2.setCell ⟨w.heap.size,0,none⟩ (.slice (some ⟨g,0,none⟩) 3 c')).setCell ⟨w.heap.size,1,none⟩ (.slice (some ⟨g',0,none⟩) W.rs.length c'')):=⟨_,rfl⟩
 have ka:Draw.Kept w.heap.size w2 WZ:=by rw [hWZ.out];exact((Draw.Kept.refl _ _).setCell (p:=⟨w.heap.size,0,none⟩) (.inl rfl) _).setCell (p:=⟨w.heap.size,1,none⟩) (.inl rfl) _
 have vv:Var 27 WZ w.heap.size [.slice (some ⟨g,0,none⟩) 3 c',.slice (some ⟨g',0,none⟩) W.rs.length c'']:=by rw [hWZ.out];exact(vR.set 0 _).set 1 _
 have A6:=A3.keptV vR (by decide) (by decide) (by decide) (by decide) ka
 have cu6:=cu2.upto (fun i hi=>ka.block i (by have:=cu2.lt;omega) (by omega))
 have K6:Draw.Kept c w WZ:=⟨ka.os.trans K2.os,ka.tape.trans K2.tape,ka.output.trans K2.output,Nat.le_trans K2.size ka.size,fun i hi hc=>(ka.block i (Nat.lt_of_lt_of_le hi K2.size) (by omega)).trans (K2.block i hi hc)⟩
 clear ka A3 vR cu2 K2
 have hWZo:=hWZ.out
 clear hWZ
 subst hWZo
 generalize (w2.setCell ⟨w.heap.size,0,none⟩ (.slice (some ⟨g,0,none⟩) 3 c')).setCell ⟨w.heap.size,1,none⟩ (.slice (some ⟨g',0,none⟩) W.rs.length c'')=WZ at *
 have e0:=vv.cell (i:=0) rfl
 have e1:=vv.cell (i:=1) rfl
 refine bodyPost_ret (v:=.agg #[.slice (some ⟨g,0,none⟩) 3 c',.slice (some ⟨g',0,none⟩) W.rs.length c'']) (by rw [Hop.res_one rfl];go_simp) rfl ⟨W,g,c',ys,g',c'',rfl,⟨A6.L.mono hz1,A6.hs,A6.R.mono hz1,A6.ok⟩,cu6,K6⟩
end Go.Proofs.YtfmcahjdhoabcaaGreat.Wor
