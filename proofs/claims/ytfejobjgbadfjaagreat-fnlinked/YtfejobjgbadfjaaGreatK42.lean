/- Contracts of this seat's functions, and their mathematics (LinI CouF). -/
import Derived.Test.YtfejobjgbadfjaaGreatK41
set_option linter.unusedVariables false
set_option linter.unusedSimpArgs false
set_option maxRecDepth 10000
set_option maxHeartbeats 4000000
namespace Go.Proofs.YtfejobjgbadfjaaGreat.Wor
open Go.RowKit RowG Hop Roa Pum Lin
theorem drawLineOk (a:Option Addr)(len cap:Nat)(w:World)(hb:Draw.Bytes w a len)(hl:len≤4096):
  Calls Tryz.prog 11 #[.slice a len cap] w fun e w'=> ∃(aH aR:Option Addr) (cH cR:Nat) (xs:List Ha) (rs:List Rd),e=.returned (.agg #[.slice aH xs.length cH,.slice aR rs.length cR])∧DL w' aH xs aR rs∧Below w.heap.size w w':=by
 have vR:Var 27 (w.alloc (.cells #[.slice none 0 0,.slice none 0 0] 27)) w.heap.size [.slice none 0 0,.slice none 0 0]:=Var.new w _
 have hb0:=hb.below ((Below.refl w.heap.size w).alloc (Nat.le_refl _) (.cells #[.slice none 0 0,.slice none 0 0] 27)) (Nat.le_refl _)
 have b0:=(Below.refl w.heap.size w).alloc (Nat.le_refl _) (.cells #[.slice none 0 0,.slice none 0 0] 27)
 go_enter Tryz.func11,Tryz.ntmps11
 go_wp2_with fail
 generalize w.alloc (.cells #[.slice none 0 0,.slice none 0 0] 27)=V at *
 have hV:=vR.lt
 refine(Draw.l1New a len cap _ hb0 hl).mono ?_
 rintro x w1 ⟨rfl,hh,hw1⟩
 have c1:Draw.Cur w1 V.heap.size:=by rw [hw1];exact Draw.cur_new hb0 hl hh _
 have b1:Below V.heap.size V w1:=by rw [hw1];exact(Below.refl _ _).alloc (Nat.le_refl _) _
 replace vR:=vR.later b1
 have B1:=b0.trans (b1.mono b0.size)
 clear hw1 b0 b1
 go_wp2_with fail
 refine(l13DrawAny _ _ c1).mono ?_
 rintro e w2 ⟨aH,aR,cH,cR,xs,rs,rfl,D,-,c2,k2⟩
 replace vR:=vR.kept k2 (by omega)
 have B2:Below w.heap.size w w2:=B1.trans (k2.below (Nat.le_of_lt hV) B1.size)
 clear c1 c2 k2 B1
 have e0:=vR.cell (i:=0) rfl
 have e1:=vR.cell (i:=1) rfl
 have f0:=vR.free 0
 have f1:=vR.free 1
 go_wp2_with fail
 obtain⟨WZ,hWZ⟩: ∃z,Hid (z=(w2.setCell ⟨w.heap.size,0,none⟩ (.slice aH xs.length cH)).setCell ⟨w.heap.size,1,none⟩ (.slice aR rs.length cR)):=⟨_,rfl⟩
 have ka:Draw.Kept w.heap.size w2 WZ:=by rw [hWZ.out];exact((Draw.Kept.refl _ _).setCell (p:=⟨w.heap.size,0,none⟩) (.inl rfl) _).setCell (p:=⟨w.heap.size,1,none⟩) (.inl rfl) _
 have vv:Var 27 WZ w.heap.size [.slice aH xs.length cH,.slice aR rs.length cR]:=by rw [hWZ.out];exact(vR.set 0 _).set 1 _
 have DZ:=D.keptV vR ntLine ka
 have BZ:Below w.heap.size w WZ:=B2.trans (ka.below (Nat.le_refl _) B2.size)
 clear ka e0 e1 f0 f1 D B2 vR
 have hWZo:=hWZ.out
 clear hWZ
 subst hWZo
 generalize (w2.setCell ⟨w.heap.size,0,none⟩ (.slice aH xs.length cH)).setCell ⟨w.heap.size,1,none⟩ (.slice aR rs.length cR)=WZ at *
 have e0:=vv.cell (i:=0) rfl
 have e1:=vv.cell (i:=1) rfl
 refine bodyPost_ret (v:=.agg #[.slice aH xs.length cH,.slice aR rs.length cR]) (by rw [Hop.res_one rfl];go_simp) rfl ⟨aH,aR,cH,cR,xs,rs,rfl,DZ,BZ⟩
end Go.Proofs.YtfejobjgbadfjaaGreat.Wor
namespace Go.Proofs.YtfejobjgbadfjaaGreat.Wor
open Go.RowKit RowG Hop Roa Pum Lin
theorem drawLinked (a:Option Addr)(len cap:Nat)(w:World)(hb:Draw.Bytes w a len)(hl:len≤4096):
  Calls Tryz.prog 5 #[.slice a len cap] w fun e w'=> ∃(aH aR:Option Addr) (cH cR:Nat) (xs:List Ha) (rs:List Rd),e=.returned (.agg #[.slice aH xs.length cH,.slice aR rs.length cR])∧DL w' aH xs aR rs∧Below w.heap.size w w':=by
 have vR:Var 27 (w.alloc (.cells #[.slice none 0 0,.slice none 0 0] 27)) w.heap.size [.slice none 0 0,.slice none 0 0]:=Var.new w _
 have hb0:=hb.below ((Below.refl w.heap.size w).alloc (Nat.le_refl _) (.cells #[.slice none 0 0,.slice none 0 0] 27)) (Nat.le_refl _)
 have b0:=(Below.refl w.heap.size w).alloc (Nat.le_refl _) (.cells #[.slice none 0 0,.slice none 0 0] 27)
 go_enter Tryz.func5,Tryz.ntmps5
 go_wp2_with fail
 generalize w.alloc (.cells #[.slice none 0 0,.slice none 0 0] 27)=V at *
 have hV:=vR.lt
 refine(drawLineOk a len cap _ hb0 hl).mono ?_
 rintro e w2 ⟨aH,aR,cH,cR,xs,rs,rfl,D,b2⟩
 replace vR:=vR.later b2
 have B2:Below w.heap.size w w2:=b0.trans (b2.mono b0.size)
 clear b2 b0
 have e0:=vR.cell (i:=0) rfl
 have e1:=vR.cell (i:=1) rfl
 have f0:=vR.free 0
 have f1:=vR.free 1
 go_wp2_with fail
 obtain⟨WZ,hWZ⟩: ∃z,Hid (z=(w2.setCell ⟨w.heap.size,0,none⟩ (.slice aH xs.length cH)).setCell ⟨w.heap.size,1,none⟩ (.slice aR rs.length cR)):=⟨_,rfl⟩
 have ka:Draw.Kept w.heap.size w2 WZ:=by rw [hWZ.out];exact((Draw.Kept.refl _ _).setCell (p:=⟨w.heap.size,0,none⟩) (.inl rfl) _).setCell (p:=⟨w.heap.size,1,none⟩) (.inl rfl) _
 have vv:Var 27 WZ w.heap.size [.slice aH xs.length cH,.slice aR rs.length cR]:=by rw [hWZ.out];exact(vR.set 0 _).set 1 _
 have DZ:=D.keptV vR ntLine ka
 have BZ:Below w.heap.size w WZ:=B2.trans (ka.below (Nat.le_refl _) B2.size)
 clear ka e0 e1 f0 f1 D B2 vR
 have hWZo:=hWZ.out
 clear hWZ
 subst hWZo
 generalize (w2.setCell ⟨w.heap.size,0,none⟩ (.slice aH xs.length cH)).setCell ⟨w.heap.size,1,none⟩ (.slice aR rs.length cR)=WZ at *
 have e0:=vv.cell (i:=0) rfl
 have e1:=vv.cell (i:=1) rfl
 refine bodyPost_ret (v:=.agg #[.slice aH xs.length cH,.slice aR rs.length cR]) (by rw [Hop.res_one rfl];go_simp) rfl ⟨aH,aR,cH,cR,xs,rs,rfl,DZ,BZ⟩
end Go.Proofs.YtfejobjgbadfjaaGreat.Wor
