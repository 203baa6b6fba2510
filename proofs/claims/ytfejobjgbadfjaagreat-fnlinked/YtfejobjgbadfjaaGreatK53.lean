/- Contracts of this seat's functions, and their mathematics (CouI). -/
import Derived.Test.YtfejobjgbadfjaaGreatK52
set_option linter.unusedVariables false
set_option linter.unusedSimpArgs false
set_option maxRecDepth 10000
set_option maxHeartbeats 16000000
namespace Go.Proofs.YtfejobjgbadfjaaGreat.Cou
open Go.RowKit RowG Hop Lin Wor
theorem l17Alike (z:Hp)(aT:Option Addr)(cT:Nat)(aW:Option Addr)(cW:Nat)(w:World)(hb:hopB z=true):
  Calls Tryz.prog 19 #[.agg #[.int .i64 z.g.ba,.string z.g.bs,.int .i64 z.g.cp,.int .i64 z.g.lm,.bool z.g.en,.bool z.g.dn,.int .i64 z.t.nx,.string z.t.bs,.slice aT z.t.l.length cT,.int .i64 z.t.cp,.int .i64 z.t.fi,.bool z.t.en,.slice aW z.ws.length cW]] w fun e w'=>e=.returned (.bool (alikeB z.g.ba z.g.bs (z.t.nx-z.t.bs.size) z.t.bs))∧Below w.heap.size w w':=by
 have hmix:=Roa.mix
 have hf:=hop_fine hb
 have HG:Hid (Giv.small z.g):=by have q:=Giv.ok_iff.1 (hop_ok hb).2.1;exact⟨⟨by omega,by omega⟩,by omega⟩
 clear hb
 have v1:Var 47 (w.alloc (.cells #[.int .i64 z.g.ba,.string z.g.bs,.int .i64 z.g.cp,.int .i64 z.g.lm,.bool z.g.en,.bool z.g.dn,.int .i64 z.t.nx,.string z.t.bs,.slice aT z.t.l.length cT,.int .i64 z.t.cp,.int .i64 z.t.fi,.bool z.t.en,.slice aW z.ws.length cW] 47)) w.heap.size [.int .i64 z.g.ba,.string z.g.bs,.int .i64 z.g.cp,.int .i64 z.g.lm,.bool z.g.en,.bool z.g.dn,.int .i64 z.t.nx,.string z.t.bs,.slice aT z.t.l.length cT,.int .i64 z.t.cp,.int .i64 z.t.fi,.bool z.t.en,.slice aW z.ws.length cW]:=Var.new w _
 have v2:Var 44 ((w.alloc (.cells #[.int .i64 z.g.ba,.string z.g.bs,.int .i64 z.g.cp,.int .i64 z.g.lm,.bool z.g.en,.bool z.g.dn,.int .i64 z.t.nx,.string z.t.bs,.slice aT z.t.l.length cT,.int .i64 z.t.cp,.int .i64 z.t.fi,.bool z.t.en,.slice aW z.ws.length cW] 47)).alloc (.cells #[.int .i64 z.t.nx,.string z.t.bs,.slice aT z.t.l.length cT,.int .i64 z.t.cp,.int .i64 z.t.fi,.bool z.t.en] 44)) (w.heap.size+1) [.int .i64 z.t.nx,.string z.t.bs,.slice aT z.t.l.length cT,.int .i64 z.t.cp,.int .i64 z.t.fi,.bool z.t.en]:=by
  have q:=Var.new (T:=44) (w.alloc (.cells #[.int .i64 z.g.ba,.string z.g.bs,.int .i64 z.g.cp,.int .i64 z.g.lm,.bool z.g.en,.bool z.g.dn,.int .i64 z.t.nx,.string z.t.bs,.slice aT z.t.l.length cT,.int .i64 z.t.cp,.int .i64 z.t.fi,.bool z.t.en,.slice aW z.ws.length cW] 47)) [.int .i64 z.t.nx,.string z.t.bs,.slice aT z.t.l.length cT,.int .i64 z.t.cp,.int .i64 z.t.fi,.bool z.t.en]
  simpa using q
 have v3:Var 41 (((w.alloc (.cells #[.int .i64 z.g.ba,.string z.g.bs,.int .i64 z.g.cp,.int .i64 z.g.lm,.bool z.g.en,.bool z.g.dn,.int .i64 z.t.nx,.string z.t.bs,.slice aT z.t.l.length cT,.int .i64 z.t.cp,.int .i64 z.t.fi,.bool z.t.en,.slice aW z.ws.length cW] 47)).alloc (.cells #[.int .i64 z.t.nx,.string z.t.bs,.slice aT z.t.l.length cT,.int .i64 z.t.cp,.int .i64 z.t.fi,.bool z.t.en] 44)).alloc (.cells #[.int .i64 z.g.ba,.string z.g.bs,.int .i64 z.g.cp,.int .i64 z.g.lm,.bool z.g.en,.bool z.g.dn] 41)) (w.heap.size+1+1) [.int .i64 z.g.ba,.string z.g.bs,.int .i64 z.g.cp,.int .i64 z.g.lm,.bool z.g.en,.bool z.g.dn]:=by
  have q:=Var.new (T:=41) ((w.alloc (.cells #[.int .i64 z.g.ba,.string z.g.bs,.int .i64 z.g.cp,.int .i64 z.g.lm,.bool z.g.en,.bool z.g.dn,.int .i64 z.t.nx,.string z.t.bs,.slice aT z.t.l.length cT,.int .i64 z.t.cp,.int .i64 z.t.fi,.bool z.t.en,.slice aW z.ws.length cW] 47)).alloc (.cells #[.int .i64 z.t.nx,.string z.t.bs,.slice aT z.t.l.length cT,.int .i64 z.t.cp,.int .i64 z.t.fi,.bool z.t.en] 44)) [.int .i64 z.g.ba,.string z.g.bs,.int .i64 z.g.cp,.int .i64 z.g.lm,.bool z.g.en,.bool z.g.dn]
  simpa using q
 have b0:Below w.heap.size w (((w.alloc (.cells #[.int .i64 z.g.ba,.string z.g.bs,.int .i64 z.g.cp,.int .i64 z.g.lm,.bool z.g.en,.bool z.g.dn,.int .i64 z.t.nx,.string z.t.bs,.slice aT z.t.l.length cT,.int .i64 z.t.cp,.int .i64 z.t.fi,.bool z.t.en,.slice aW z.ws.length cW] 47)).alloc (.cells #[.int .i64 z.t.nx,.string z.t.bs,.slice aT z.t.l.length cT,.int .i64 z.t.cp,.int .i64 z.t.fi,.bool z.t.en] 44)).alloc (.cells #[.int .i64 z.g.ba,.string z.g.bs,.int .i64 z.g.cp,.int .i64 z.g.lm,.bool z.g.en,.bool z.g.dn] 41)):=(((Below.refl _ _).alloc (Nat.le_refl _) _).alloc (by simp) _).alloc (by simp;omega) _
 replace v2:=v2.alloc (.cells #[.int .i64 z.g.ba,.string z.g.bs,.int .i64 z.g.cp,.int .i64 z.g.lm,.bool z.g.en,.bool z.g.dn] 41)
 clear v1
 go_enter Tryz.func19,Tryz.ntmps19
 go_upto_region 3 with(fail)
 generalize (((w.alloc (.cells #[.int .i64 z.g.ba,.string z.g.bs,.int .i64 z.g.cp,.int .i64 z.g.lm,.bool z.g.en,.bool z.g.dn,.int .i64 z.t.nx,.string z.t.bs,.slice aT z.t.l.length cT,.int .i64 z.t.cp,.int .i64 z.t.fi,.bool z.t.en,.slice aW z.ws.length cW] 47)).alloc (.cells #[.int .i64 z.t.nx,.string z.t.bs,.slice aT z.t.l.length cT,.int .i64 z.t.cp,.int .i64 z.t.fi,.bool z.t.en] 44)).alloc (.cells #[.int .i64 z.g.ba,.string z.g.bs,.int .i64 z.g.cp,.int .i64 z.g.lm,.bool z.g.en,.bool z.g.dn] 41))=V at *
 have hw: -9223372036854775808≤z.t.nx-(z.t.bs.size:Int)∧z.t.nx-(z.t.bs.size:Int)≤9223372036854775807:=by omega
 have HMX:Hid (∀w',Calls Tryz.prog 37 #[.int .i64 z.g.ba,.int .i64 (z.t.nx-(z.t.bs.size:Int))] w' fun e w''=>e=.returned (.int .i64 (max z.g.ba (z.t.nx-(z.t.bs.size:Int))))∧w'=w''):=fun w'=>(Draw.l1Max _ _ w').mono (by rintro e w'' ⟨rfl,rfl⟩;exact⟨by congr 2;split <;>omega,rfl⟩)
 have x0:=v2.cell (i:=0) rfl
 have x1:=v2.cell (i:=1) rfl
 have g0:=v3.cell (i:=0) rfl
 go_wp2_with fail
 refine(HMX.out _).mono ?_
 rintro e w' ⟨rfl,rfl⟩
 clear x0 x1 g0
 go_wp2_with fail
 go_loopw [5] (fun pv wr=> ∃i:Nat,pv=.int .i64 ((max z.g.ba (z.t.nx-(z.t.bs.size:Int)))+(i:Int))∧Hid (∀j,j<i→byteN z.g.bs ((max z.g.ba (z.t.nx-(z.t.bs.size:Int)))+(j:Int)-z.g.ba)=byteN z.t.bs ((max z.g.ba (z.t.nx-(z.t.bs.size:Int)))+(j:Int)-(z.t.nx-z.t.bs.size)))∧Below V.heap.size V wr) (fun pv _=>((min z.t.nx (z.g.ba+(z.g.bs.size:Int)))-intOf pv).toNat)
 case atStart=>exact⟨0,by simp,fun j hj=>by omega,Below.refl _ _⟩
 case round=>
  obtain⟨i,rfl,HA,b1⟩:=hrel
  have B1:=b0.trans (b1.mono b0.size)
  have HE:Hid (∀p:Draw.Later wr,Calls Tryz.prog 36 #[.agg #[.int .i64 z.g.ba,.string z.g.bs,.int .i64 z.g.cp,.int .i64 z.g.lm,.bool z.g.en,.bool z.g.dn]] p.1 fun x w''=>x=.returned (.int .i64 (z.g.ba+z.g.bs.size))∧Below p.1.heap.size p.1 w''):=fun p=>Giv.l6End z.g p.1 HG.out
  have HM:Hid (∀p:Draw.Later wr,Calls Tryz.prog 38 #[.int .i64 z.t.nx,.int .i64 (z.g.ba+z.g.bs.size)] p.1 fun e w''=>e=.returned (.int .i64 (min z.t.nx (z.g.ba+(z.g.bs.size:Int))))∧Below p.1.heap.size p.1 w''):=fun p=>(Tak.l1Min _ _ p.1).mono (by rintro e w'' ⟨rfl,rfl⟩;exact⟨by congr 2;split <;>omega,Below.refl _ _⟩)
  have z2:=v2.later b1
  have z3:=v3.later b1
  have x0:=Draw.Later.cell (z2.cell (i:=0) rfl)
  have x1:=Draw.Later.cell (z2.cell (i:=1) rfl)
  have g0:=Draw.Later.cell (z3.cell (i:=0) rfl)
  have g1:=Draw.Later.cell (z3.cell (i:=1) rfl)
  have g2:=Draw.Later.cell (z3.cell (i:=2) rfl)
  have g3:=Draw.Later.cell (z3.cell (i:=3) rfl)
  have g4:=Draw.Later.cell (z3.cell (i:=4) rfl)
  have g5:=Draw.Later.cell (z3.cell (i:=5) rfl)
  clear z2 z3
  by_cases hlt:((max z.g.ba (z.t.nx-(z.t.bs.size:Int)))+(i:Int))<(min z.t.nx (z.g.ba+(z.g.bs.size:Int)))
  case neg=>
   have HN:Hid (¬((max z.g.ba (z.t.nx-(z.t.bs.size:Int)))+(i:Int))<(min z.t.nx (z.g.ba+(z.g.bs.size:Int)))):=hlt
   go_wp2_with fail
   refine Draw.wp_region_later hmix (by kernel_rfl) ?_
   repeat (go_big_quiet_step (first|(go_at_call 36;exact Draw.later_of (HE.out _))|(go_at_call 38;exact Draw.later_of (HM.out _))|fail))
   refine wpQuiet_nil ?_
   intro wz hw'
   obtain⟨⟨wq,hq⟩,hw''⟩:=hw'
   subst hw''
   go_wp2_with fail
   go_ret
   refine⟨?_,B1.trans (hq.mono B1.size)⟩
   rw [alike_yes (fun j hj=>HA.out j (by have:=HN.out;omega))]
   rfl
  case pos=>
   go_wp2_with fail
   refine Draw.wp_region_later hmix (by kernel_rfl) ?_
   repeat (go_big_quiet_step (first|(go_at_call 36;exact Draw.later_of (HE.out _))|(go_at_call 38;exact Draw.later_of (HM.out _))|fail))
   refine wpQuiet_nil ?_
   intro wz hw'
   obtain⟨⟨wq,hq⟩,hw''⟩:=hw'
   subst hw''
   have b2:=b1.trans (hq.mono b1.size)
   have z2:=v2.later b2
   have z3:=v3.later b2
   clear x0 x1 g0 g1 g2 g3 g4 g5 HE HM
   have i0:0≤((max z.g.ba (z.t.nx-(z.t.bs.size:Int)))+(i:Int))-z.g.ba:=by omega
   have i1:((max z.g.ba (z.t.nx-(z.t.bs.size:Int)))+(i:Int))-z.g.ba<(z.g.bs.size:Int):=by omega
   have i4:z.g.ba≤((max z.g.ba (z.t.nx-(z.t.bs.size:Int)))+(i:Int)):=by omega
   have i2:0≤((max z.g.ba (z.t.nx-(z.t.bs.size:Int)))+(i:Int))-z.t.nx+(z.t.bs.size:Int):=by omega
   have i3:((max z.g.ba (z.t.nx-(z.t.bs.size:Int)))+(i:Int))-z.t.nx+(z.t.bs.size:Int)<(z.t.bs.size:Int):=by omega
   have w0:IntKind.i64.wrap (((max z.g.ba (z.t.nx-(z.t.bs.size:Int)))+(i:Int))-z.g.ba)=((max z.g.ba (z.t.nx-(z.t.bs.size:Int)))+(i:Int))-z.g.ba:=by rw [IntKind.wrap_i64];omega
   have w1:IntKind.i64.wrap (((max z.g.ba (z.t.nx-(z.t.bs.size:Int)))+(i:Int))-z.t.nx)=((max z.g.ba (z.t.nx-(z.t.bs.size:Int)))+(i:Int))-z.t.nx:=by rw [IntKind.wrap_i64];omega
   have w2:IntKind.i64.wrap (((max z.g.ba (z.t.nx-(z.t.bs.size:Int)))+(i:Int))-z.t.nx+(z.t.bs.size:Int))=((max z.g.ba (z.t.nx-(z.t.bs.size:Int)))+(i:Int))-z.t.nx+(z.t.bs.size:Int):=by rw [IntKind.wrap_i64];omega
   have w3: -9223372036854775808≤((max z.g.ba (z.t.nx-(z.t.bs.size:Int)))+(i:Int))+1∧((max z.g.ba (z.t.nx-(z.t.bs.size:Int)))+(i:Int))+1≤9223372036854775807:=by omega
   obtain⟨u,hu⟩: ∃u,((z.g.bs[(((max z.g.ba (z.t.nx-(z.t.bs.size:Int)))+(i:Int))-z.g.ba).toNat]'(by omega)).toNat:Int)=u:=⟨_,rfl⟩
   obtain⟨v,hv⟩: ∃v,((z.t.bs[(((max z.g.ba (z.t.nx-(z.t.bs.size:Int)))+(i:Int))-z.t.nx+(z.t.bs.size:Int)).toNat]'(by omega)).toNat:Int)=v:=⟨_,rfl⟩
   have HU:Hid (byteN z.g.bs (((max z.g.ba (z.t.nx-(z.t.bs.size:Int)))+(i:Int))-z.g.ba)=u):=by show _=_;rw [byteN,dif_pos (by omega)];exact hu
   have HW:Hid (byteN z.t.bs (((max z.g.ba (z.t.nx-(z.t.bs.size:Int)))+(i:Int))-(z.t.nx-z.t.bs.size))=v):=by show _=_;rw [show((max z.g.ba (z.t.nx-(z.t.bs.size:Int)))+(i:Int))-(z.t.nx-(z.t.bs.size:Int))=((max z.g.ba (z.t.nx-(z.t.bs.size:Int)))+(i:Int))-z.t.nx+(z.t.bs.size:Int) by omega,byteN,dif_pos (by omega)];exact hv
   have HL:Hid (((max z.g.ba (z.t.nx-(z.t.bs.size:Int)))+(i:Int))<(min z.t.nx (z.g.ba+(z.g.bs.size:Int)))):=hlt
   have keepW: ∀(q:Nat) (d:Nat→Bool) (w':World),(fun(d:Nat→Bool) (w':World)=>Var 44 w' (w.heap.size+1) [.int .i64 z.t.nx,.string z.t.bs,.slice aT z.t.l.length cT,.int .i64 z.t.cp,.int .i64 z.t.fi,.bool z.t.en]∧Var 41 w' (w.heap.size+1+1) [.int .i64 z.g.ba,.string z.g.bs,.int .i64 z.g.cp,.int .i64 z.g.lm,.bool z.g.en,.bool z.g.dn]∧Below wz.heap.size wz w') d w'→q≠100→(fun(d:Nat→Bool) (w':World)=>Var 44 w' (w.heap.size+1) [.int .i64 z.t.nx,.string z.t.bs,.slice aT z.t.l.length cT,.int .i64 z.t.cp,.int .i64 z.t.fi,.bool z.t.en]∧Var 41 w' (w.heap.size+1+1) [.int .i64 z.g.ba,.string z.g.bs,.int .i64 z.g.cp,.int .i64 z.g.lm,.bool z.g.en,.bool z.g.dn]∧Below wz.heap.size wz w') (fun j=>j==q||d j) w':=fun q d w' h _=>h
   clear hlt hw b1
   by_cases he:u=v
   case pos=>
    subst he
    go_wp2_with fail
    refine RegJ.wp_region_J (W:=(fun(d:Nat→Bool) (w':World)=>Var 44 w' (w.heap.size+1) [.int .i64 z.t.nx,.string z.t.bs,.slice aT z.t.l.length cT,.int .i64 z.t.cp,.int .i64 z.t.fi,.bool z.t.en]∧Var 41 w' (w.heap.size+1+1) [.int .i64 z.g.ba,.string z.g.bs,.int .i64 z.g.cp,.int .i64 z.g.lm,.bool z.g.en,.bool z.g.dn]∧Below wz.heap.size wz w')) (RegJ.Val [some (.pointer (some ⟨w.heap.size+1+1,1,none⟩)),some (.string z.g.bs),some (.int .i64 ((max z.g.ba (z.t.nx-(z.t.bs.size:Int)))+(i:Int))),some (.pointer (some ⟨w.heap.size+1+1,0,none⟩)),some (.int .i64 z.g.ba),some (.int .i64 (((max z.g.ba (z.t.nx-(z.t.bs.size:Int)))+(i:Int))-z.g.ba)),some (.int .u8 u),some (.pointer (some ⟨w.heap.size+1,1,none⟩)),some (.string z.t.bs),some (.int .i64 ((max z.g.ba (z.t.nx-(z.t.bs.size:Int)))+(i:Int))),some (.pointer (some ⟨w.heap.size+1,0,none⟩)),some (.int .i64 z.t.nx),some (.int .i64 (((max z.g.ba (z.t.nx-(z.t.bs.size:Int)))+(i:Int))-z.t.nx)),some (.pointer (some ⟨w.heap.size+1,1,none⟩)),some (.string z.t.bs),some (.int .i64 z.t.bs.size),some (.int .i64 (((max z.g.ba (z.t.nx-(z.t.bs.size:Int)))+(i:Int))-z.t.nx+(z.t.bs.size:Int))),some (.int .u8 u),some (.bool false)]) [some 28,some 29,some 30,some 31,some 32,some 33,some 34,some 35,some 36,some 37,some 38,some 39,some 40,some 41,some 42,some 43,some 44,some 45,some 46] (F:=?_) (is:=[0,1,2,3,4,5,6,7,8,9,10,11,12,13,14,15,16,17,18]) hmix (by kernel_rfl) (by kernel_rfl) (by kernel_rfl) (by kernel_rfl) (fun x=>?_) (⟨(v2.later b2).drew,(v3.later b2).drew,(Below.refl _ _).drew⟩) ?_ (fun dR xR wR hWR hdR hJR=>?_)
    rotate_left 1
    focus (simp only [RegJ.lay,Act.put,Nat.reduceAdd,Nat.zero_add,Draw.lays];rfl)
    focus
     iterate 19 (refine RegJ.Steps.cons (RegJ.StepAt.mk rfl (fun d x w1 hW1 hJ1 hx1 K hK=>?_)) ?_;simp only [Draw.lays]at hK;rotate_left 1)
     exact RegJ.Steps.nil
     ·go_simp;exact hK.out _ _ (keepW 0 d _ hW1 (by decide)) RegJ.Val.keep (RegJ.Val.this (Or.inl rfl))
     ·have j0:x 0=_:=(hJ1.out 0 (by kernel_rfl)).2 _ rfl;rw [j0]at hK;have e0:=hW1.2.1.cell (i:=1) rfl;go_simp;exact hK.out _ _ (keepW 1 d _ hW1 (by decide)) RegJ.Val.keep (RegJ.Val.this (Or.inl rfl))
     ·go_simp;exact hK.out _ _ (keepW 2 d _ hW1 (by decide)) RegJ.Val.keep (RegJ.Val.this (Or.inl rfl))
     ·go_simp;exact hK.out _ _ (keepW 3 d _ hW1 (by decide)) RegJ.Val.keep (RegJ.Val.this (Or.inl rfl))
     ·have j3:x 3=_:=(hJ1.out 3 (by kernel_rfl)).2 _ rfl;rw [j3]at hK;have e0:=hW1.2.1.cell (i:=0) rfl;go_simp;exact hK.out _ _ (keepW 4 d _ hW1 (by decide)) RegJ.Val.keep (RegJ.Val.this (Or.inl rfl))
     ·have j2:x 2=_:=(hJ1.out 2 (by kernel_rfl)).2 _ rfl;rw [j2]at hK;have j4:x 4=_:=(hJ1.out 4 (by kernel_rfl)).2 _ rfl;rw [j4]at hK;go_simp;exact hK.out _ _ (keepW 5 d _ hW1 (by decide)) RegJ.Val.keep (RegJ.Val.this (Or.inl rfl))
     ·have j1:x 1=_:=(hJ1.out 1 (by kernel_rfl)).2 _ rfl;rw [j1]at hK;have j5:x 5=_:=(hJ1.out 5 (by kernel_rfl)).2 _ rfl;rw [j5]at hK;go_simp;(try rw [hu]);exact hK.out _ _ (keepW 6 d _ hW1 (by decide)) RegJ.Val.keep (RegJ.Val.this (Or.inl rfl))
     ·go_simp;exact hK.out _ _ (keepW 7 d _ hW1 (by decide)) RegJ.Val.keep (RegJ.Val.this (Or.inl rfl))
     ·have j7:x 7=_:=(hJ1.out 7 (by kernel_rfl)).2 _ rfl;rw [j7]at hK;have e0:=hW1.1.cell (i:=1) rfl;go_simp;exact hK.out _ _ (keepW 8 d _ hW1 (by decide)) RegJ.Val.keep (RegJ.Val.this (Or.inl rfl))
     ·go_simp;exact hK.out _ _ (keepW 9 d _ hW1 (by decide)) RegJ.Val.keep (RegJ.Val.this (Or.inl rfl))
     ·go_simp;exact hK.out _ _ (keepW 10 d _ hW1 (by decide)) RegJ.Val.keep (RegJ.Val.this (Or.inl rfl))
     ·have j10:x 10=_:=(hJ1.out 10 (by kernel_rfl)).2 _ rfl;rw [j10]at hK;have e0:=hW1.1.cell (i:=0) rfl;go_simp;exact hK.out _ _ (keepW 11 d _ hW1 (by decide)) RegJ.Val.keep (RegJ.Val.this (Or.inl rfl))
     ·have j9:x 9=_:=(hJ1.out 9 (by kernel_rfl)).2 _ rfl;rw [j9]at hK;have j11:x 11=_:=(hJ1.out 11 (by kernel_rfl)).2 _ rfl;rw [j11]at hK;go_simp;exact hK.out _ _ (keepW 12 d _ hW1 (by decide)) RegJ.Val.keep (RegJ.Val.this (Or.inl rfl))
     ·go_simp;exact hK.out _ _ (keepW 13 d _ hW1 (by decide)) RegJ.Val.keep (RegJ.Val.this (Or.inl rfl))
     ·have j13:x 13=_:=(hJ1.out 13 (by kernel_rfl)).2 _ rfl;rw [j13]at hK;have e0:=hW1.1.cell (i:=1) rfl;go_simp;exact hK.out _ _ (keepW 14 d _ hW1 (by decide)) RegJ.Val.keep (RegJ.Val.this (Or.inl rfl))
     ·have j14:x 14=_:=(hJ1.out 14 (by kernel_rfl)).2 _ rfl;rw [j14]at hK;go_simp;exact hK.out _ _ (keepW 15 d _ hW1 (by decide)) RegJ.Val.keep (RegJ.Val.this (Or.inl rfl))
     ·have j12:x 12=_:=(hJ1.out 12 (by kernel_rfl)).2 _ rfl;rw [j12]at hK;have j15:x 15=_:=(hJ1.out 15 (by kernel_rfl)).2 _ rfl;rw [j15]at hK;go_simp;exact hK.out _ _ (keepW 16 d _ hW1 (by decide)) RegJ.Val.keep (RegJ.Val.this (Or.inl rfl))
     ·have j8:x 8=_:=(hJ1.out 8 (by kernel_rfl)).2 _ rfl;rw [j8]at hK;have j16:x 16=_:=(hJ1.out 16 (by kernel_rfl)).2 _ rfl;rw [j16]at hK;go_simp;(try rw [hv]);exact hK.out _ _ (keepW 17 d _ hW1 (by decide)) RegJ.Val.keep (RegJ.Val.this (Or.inl rfl))
     ·have j6:x 6=_:=(hJ1.out 6 (by kernel_rfl)).2 _ rfl;rw [j6]at hK;have j17:x 17=_:=(hJ1.out 17 (by kernel_rfl)).2 _ rfl;rw [j17]at hK;go_simp;exact hK.out _ _ (keepW 18 d _ hW1 (by decide)) RegJ.Val.keep (RegJ.Val.this (Or.inl rfl))
    have j18:xR 18=.bool false:=(hJR 18 (by simp)).2 _ rfl
    rw [j18]
    have b3:=b2.trans (hWR.2.2.mono b2.size)
    clear hWR hJR hdR keepW hu hv
    go_wp2_with fail
    go_roundw
    case rel=>exact⟨i+1,by go_num,fun j hj=>(by
     by_cases e:j=i
     ·subst e;rw [HU.out,HW.out]
     ·exact HA.out j (by omega)),b3⟩
    case measure=>simp [intOf];have:=HL.out;omega
   case neg=>
    have hne:(u==v)=false:=by simpa using he
    have hne2:(u !=v)=true:=by simpa using he
    go_wp2_with fail
    refine RegJ.wp_region_J (W:=(fun(d:Nat→Bool) (w':World)=>Var 44 w' (w.heap.size+1) [.int .i64 z.t.nx,.string z.t.bs,.slice aT z.t.l.length cT,.int .i64 z.t.cp,.int .i64 z.t.fi,.bool z.t.en]∧Var 41 w' (w.heap.size+1+1) [.int .i64 z.g.ba,.string z.g.bs,.int .i64 z.g.cp,.int .i64 z.g.lm,.bool z.g.en,.bool z.g.dn]∧Below wz.heap.size wz w')) (RegJ.Val [some (.pointer (some ⟨w.heap.size+1+1,1,none⟩)),some (.string z.g.bs),some (.int .i64 ((max z.g.ba (z.t.nx-(z.t.bs.size:Int)))+(i:Int))),some (.pointer (some ⟨w.heap.size+1+1,0,none⟩)),some (.int .i64 z.g.ba),some (.int .i64 (((max z.g.ba (z.t.nx-(z.t.bs.size:Int)))+(i:Int))-z.g.ba)),some (.int .u8 u),some (.pointer (some ⟨w.heap.size+1,1,none⟩)),some (.string z.t.bs),some (.int .i64 ((max z.g.ba (z.t.nx-(z.t.bs.size:Int)))+(i:Int))),some (.pointer (some ⟨w.heap.size+1,0,none⟩)),some (.int .i64 z.t.nx),some (.int .i64 (((max z.g.ba (z.t.nx-(z.t.bs.size:Int)))+(i:Int))-z.t.nx)),some (.pointer (some ⟨w.heap.size+1,1,none⟩)),some (.string z.t.bs),some (.int .i64 z.t.bs.size),some (.int .i64 (((max z.g.ba (z.t.nx-(z.t.bs.size:Int)))+(i:Int))-z.t.nx+(z.t.bs.size:Int))),some (.int .u8 v),some (.bool true)]) [some 28,some 29,some 30,some 31,some 32,some 33,some 34,some 35,some 36,some 37,some 38,some 39,some 40,some 41,some 42,some 43,some 44,some 45,some 46] (F:=?_) (is:=[0,1,2,3,4,5,6,7,8,9,10,11,12,13,14,15,16,17,18]) hmix (by kernel_rfl) (by kernel_rfl) (by kernel_rfl) (by kernel_rfl) (fun x=>?_) (⟨(v2.later b2).drew,(v3.later b2).drew,(Below.refl _ _).drew⟩) ?_ (fun dR xR wR hWR hdR hJR=>?_)
    rotate_left 1
    focus (simp only [RegJ.lay,Act.put,Nat.reduceAdd,Nat.zero_add,Draw.lays];rfl)
    focus
     iterate 19 (refine RegJ.Steps.cons (RegJ.StepAt.mk rfl (fun d x w1 hW1 hJ1 hx1 K hK=>?_)) ?_;simp only [Draw.lays]at hK;rotate_left 1)
     exact RegJ.Steps.nil
     ·go_simp;exact hK.out _ _ (keepW 0 d _ hW1 (by decide)) RegJ.Val.keep (RegJ.Val.this (Or.inl rfl))
     ·have j0:x 0=_:=(hJ1.out 0 (by kernel_rfl)).2 _ rfl;rw [j0]at hK;have e0:=hW1.2.1.cell (i:=1) rfl;go_simp;exact hK.out _ _ (keepW 1 d _ hW1 (by decide)) RegJ.Val.keep (RegJ.Val.this (Or.inl rfl))
     ·go_simp;exact hK.out _ _ (keepW 2 d _ hW1 (by decide)) RegJ.Val.keep (RegJ.Val.this (Or.inl rfl))
     ·go_simp;exact hK.out _ _ (keepW 3 d _ hW1 (by decide)) RegJ.Val.keep (RegJ.Val.this (Or.inl rfl))
     ·have j3:x 3=_:=(hJ1.out 3 (by kernel_rfl)).2 _ rfl;rw [j3]at hK;have e0:=hW1.2.1.cell (i:=0) rfl;go_simp;exact hK.out _ _ (keepW 4 d _ hW1 (by decide)) RegJ.Val.keep (RegJ.Val.this (Or.inl rfl))
     ·have j2:x 2=_:=(hJ1.out 2 (by kernel_rfl)).2 _ rfl;rw [j2]at hK;have j4:x 4=_:=(hJ1.out 4 (by kernel_rfl)).2 _ rfl;rw [j4]at hK;go_simp;exact hK.out _ _ (keepW 5 d _ hW1 (by decide)) RegJ.Val.keep (RegJ.Val.this (Or.inl rfl))
     ·have j1:x 1=_:=(hJ1.out 1 (by kernel_rfl)).2 _ rfl;rw [j1]at hK;have j5:x 5=_:=(hJ1.out 5 (by kernel_rfl)).2 _ rfl;rw [j5]at hK;go_simp;(try rw [hu]);exact hK.out _ _ (keepW 6 d _ hW1 (by decide)) RegJ.Val.keep (RegJ.Val.this (Or.inl rfl))
     ·go_simp;exact hK.out _ _ (keepW 7 d _ hW1 (by decide)) RegJ.Val.keep (RegJ.Val.this (Or.inl rfl))
     ·have j7:x 7=_:=(hJ1.out 7 (by kernel_rfl)).2 _ rfl;rw [j7]at hK;have e0:=hW1.1.cell (i:=1) rfl;go_simp;exact hK.out _ _ (keepW 8 d _ hW1 (by decide)) RegJ.Val.keep (RegJ.Val.this (Or.inl rfl))
     ·go_simp;exact hK.out _ _ (keepW 9 d _ hW1 (by decide)) RegJ.Val.keep (RegJ.Val.this (Or.inl rfl))
     ·go_simp;exact hK.out _ _ (keepW 10 d _ hW1 (by decide)) RegJ.Val.keep (RegJ.Val.this (Or.inl rfl))
     ·have j10:x 10=_:=(hJ1.out 10 (by kernel_rfl)).2 _ rfl;rw [j10]at hK;have e0:=hW1.1.cell (i:=0) rfl;go_simp;exact hK.out _ _ (keepW 11 d _ hW1 (by decide)) RegJ.Val.keep (RegJ.Val.this (Or.inl rfl))
     ·have j9:x 9=_:=(hJ1.out 9 (by kernel_rfl)).2 _ rfl;rw [j9]at hK;have j11:x 11=_:=(hJ1.out 11 (by kernel_rfl)).2 _ rfl;rw [j11]at hK;go_simp;exact hK.out _ _ (keepW 12 d _ hW1 (by decide)) RegJ.Val.keep (RegJ.Val.this (Or.inl rfl))
     ·go_simp;exact hK.out _ _ (keepW 13 d _ hW1 (by decide)) RegJ.Val.keep (RegJ.Val.this (Or.inl rfl))
     ·have j13:x 13=_:=(hJ1.out 13 (by kernel_rfl)).2 _ rfl;rw [j13]at hK;have e0:=hW1.1.cell (i:=1) rfl;go_simp;exact hK.out _ _ (keepW 14 d _ hW1 (by decide)) RegJ.Val.keep (RegJ.Val.this (Or.inl rfl))
     ·have j14:x 14=_:=(hJ1.out 14 (by kernel_rfl)).2 _ rfl;rw [j14]at hK;go_simp;exact hK.out _ _ (keepW 15 d _ hW1 (by decide)) RegJ.Val.keep (RegJ.Val.this (Or.inl rfl))
     ·have j12:x 12=_:=(hJ1.out 12 (by kernel_rfl)).2 _ rfl;rw [j12]at hK;have j15:x 15=_:=(hJ1.out 15 (by kernel_rfl)).2 _ rfl;rw [j15]at hK;go_simp;exact hK.out _ _ (keepW 16 d _ hW1 (by decide)) RegJ.Val.keep (RegJ.Val.this (Or.inl rfl))
     ·have j8:x 8=_:=(hJ1.out 8 (by kernel_rfl)).2 _ rfl;rw [j8]at hK;have j16:x 16=_:=(hJ1.out 16 (by kernel_rfl)).2 _ rfl;rw [j16]at hK;go_simp;(try rw [hv]);exact hK.out _ _ (keepW 17 d _ hW1 (by decide)) RegJ.Val.keep (RegJ.Val.this (Or.inl rfl))
     ·have j6:x 6=_:=(hJ1.out 6 (by kernel_rfl)).2 _ rfl;rw [j6]at hK;have j17:x 17=_:=(hJ1.out 17 (by kernel_rfl)).2 _ rfl;rw [j17]at hK;go_simp;exact hK.out _ _ (keepW 18 d _ hW1 (by decide)) RegJ.Val.keep (RegJ.Val.this (Or.inl rfl))
    have j18:xR 18=.bool true:=(hJR 18 (by simp)).2 _ rfl
    rw [j18]
    have b3:=b2.trans (hWR.2.2.mono b2.size)
    have HI:Hid (alikeB z.g.ba z.g.bs (z.t.nx-z.t.bs.size) z.t.bs=false):=alike_no (i:=i) (by have:=HL.out;omega) (by rw [HU.out,HW.out];exact he)
    clear hWR hJR hdR keepW hu hv hne hne2 he
    go_wp2_with fail
    go_ret
    exact⟨by rw [HI.out];rfl,b0.trans (b3.mono b0.size)⟩
def l17P (D:List (Int×ByteArray))(k:Nat):Bool:=pairB (2*k) (D.getD (2*k) zd) (D.getD (2*k+1) zd)&&(decide (2≤k)||pairB (2*k+1) (D.getD (2*k+1) zd) (D.getD (2*k+2) zd))
theorem linkP (D:List (Int×ByteArray)):linkD D=(l17P D 0&&(l17P D 1&&l17P D 2)):=by
 simp only [linkD,l17P,show List.range 5=[0,1,2,3,4]from rfl,List.all_cons,List.all_nil]
 generalize pairB 0 _ _=a
 simp [Bool.and_assoc]
theorem specLinked (aH aR:Option Addr)(n m cH cR:Nat)(xs:List Ha)(rs:List Roa.Rd)(w:World)(hn:n=xs.length)(hm:m=rs.length)(L:LL w aH xs)(R:Roa.E.Lies w aR rs)(hl:xs.length≤1000)(hr:rs.length≤1000)(hs: ∀x∈xs,x.h.Sm):
  Calls Tryz.prog 7 #[.agg #[.slice aH n cH,.slice aR m cR]] w fun e w'=>e=.returned (.bool (linkL (xs.map (·.h)) rs))∧Below w.heap.size w w':=by
 have hmix:=Roa.mix
 have hOk:=fun w' l' r'=>specLineOk aH aR n m cH cR xs rs w' hn hm l' r' hl hr hs
 have hSt:=fun w' l' hb=>l17Starts aH aR m cH cR xs rs w' l' hb
 have hEn:=fun w' l' hb=>l17Ends aH aR m cH cR xs rs w' l' hb
 have b0:=(Below.refl w.heap.size w).alloc (Nat.le_refl _) (.cells #[.slice aH n cH,.slice aR m cR] 27)
 have v0:Var 27 (w.alloc (.cells #[.slice aH n cH,.slice aR m cR] 27)) w.heap.size [.slice aH n cH,.slice aR m cR]:=Var.new w _
 have L0:=L.later b0
 have R0:=R.later b0
 have HN:Hid (n=xs.length):=hn
 have HLK:Hid (linkL (xs.map (·.h)) rs=(hopsB (xs.map (·.h)) rs&&linkD (deskL (xs.map (·.h))))):=rfl
 clear L R hr hl hs hm hn
 generalize linkL (xs.map (·.h)) rs=res at *
 go_enter Tryz.func7,Tryz.ntmps7
 go_upto_region 1 with(fail)
 generalize w.alloc (.cells #[.slice aH n cH,.slice aR m cR] 27)=V at *
 have e0:=v0.cell (i:=0) rfl
 have e1:=v0.cell (i:=1) rfl
 go_wp2_with fail
 refine(hOk _ L0 R0).mono ?_
 rintro e w1 ⟨rfl,b1⟩
 have L1:=L0.later b1
 replace v0:=v0.later b1
 replace b0:=b0.trans (b1.mono b0.size)
 clear e0 e1 b1 hOk L0 R0
 cases hb:hopsB (xs.map (·.h)) rs
 case false=>
  go_wp2_with fail
  go_ret
  exact⟨by rw [HLK.out,hb];rfl,b0⟩
 have HLD:Hid (res=linkD (deskL (xs.map (·.h)))):=by show _=_;rw [HLK.out,hb];rfl
 have HB:Hid (hopsB (xs.map (·.h)) rs=true):=hb
 have h3:xs.length=3:=by have:=(hops_iff.1 hb).1;rw [List.length_map]at this;exact this
 obtain rfl:n=3:=by have:=HN.out;omega
 have hSS:=fun w' l'=>hSt w' l' hb
 have hEE:=fun w' l'=>hEn w' l' hb
 have HEE:Hid _:=hEE
 have HL1:Hid (LL w1 aH xs):=L1
 have H3:Hid (xs.length=3):=h3
 clear hSt hEn hb h3 HN HLK hEE
 have e0:=v0.cell (i:=0) rfl
 have e1:=v0.cell (i:=1) rfl
 go_wp2_with fail
 refine(hSS _ L1).mono ?_
 rintro e w2 ⟨gS,cS,rfl,oS,b2⟩
 replace v0:=v0.later b2
 have L2:=L1.later b2
 clear e0 e1 hSS L1
 have e0:=v0.cell (i:=0) rfl
 have e1:=v0.cell (i:=1) rfl
 go_wp2_with fail
 refine(HEE.out _ L2).mono ?_
 rintro e w3 ⟨gE,cE,rfl,oE,b3⟩
 have b4:Below w1.heap.size w1 w3:=b2.trans (b3.mono b2.size)
 have B3:=b0.trans (b4.mono b0.size)
 have HV:Hid (Var 27 w3 w.heap.size [.slice aH 3 cH,.slice aR m cR]):=v0.later b3
 have HLS:Hid (Roa.EI.Lies w3 (some ⟨gS,0,none⟩) ((deskL (xs.map (·.h))).map Prod.fst)):=oS.lies.later b3
 have HLE:Hid (Roa.EI.Lies w3 (some ⟨gE,0,none⟩) ((deskL (xs.map (·.h))).map endK)):=oE.lies
 have HLL:Hid (LL w3 aH xs):=HL1.out.later b4
 clear e0 e1 v0 oS oE L2 b0 b2 b3 b4 HEE HL1
 obtain⟨x0,x1,x2,rfl⟩: ∃a b c,xs=[a,b,c]:=by
  match xs,H3.out with
  | [a,b,c],_=>exact⟨a,b,c,rfl⟩
 obtain⟨b,off,rfl⟩: ∃b off,aH=some ⟨b,off,none⟩:=by
  rcases HLL.out.row with q|⟨b,off,e,_⟩
  ·cases q
  ·exact⟨b,off,e⟩
 have HD:Hid (res=(l17P (deskL (List.map (·.h) [x0,x1,x2])) 0&&(l17P (deskL (List.map (·.h) [x0,x1,x2])) 1&&l17P (deskL (List.map (·.h) [x0,x1,x2])) 2))):=by show _=_;rw [HLD.out,linkP]
 clear H3 HLD
 go_wp2_with fail
 go_loopw [5] (fun iv wr=> ∃k:Nat,k≤3∧iv=.int .i64 k∧Hid (∀j,j<k→l17P (deskL (List.map (·.h) [x0,x1,x2])) j=true)∧Below w3.heap.size w3 wr) (fun iv _=>3-(intOf iv).toNat)
 case atStart=>exact⟨0,by omega,rfl,fun j hj=>by omega,Below.refl _ _⟩
 case round=>
  obtain⟨k,hk,rfl,HA,b5⟩:=hrel
  have B5:=B3.trans (b5.mono B3.size)
  by_cases hk3:k<3
  case neg=>
   have k0: ¬(k:Int)<3:=by omega
   go_wp2_with fail
   go_ret
   exact⟨by rw [HD.out,HA.out 0 (by omega),HA.out 1 (by omega),HA.out 2 (by omega)];rfl,B5⟩
  have z0:=HV.out.later b5
  have v0:=Draw.Later.cell (z0.cell (i:=0) rfl)
  have v1:=Draw.Later.cell (z0.cell (i:=1) rfl)
  have lS:=HLS.out.later b5
  have lE:=HLE.out.later b5
  have hL:=(HLL.out.later b5).row
  have HP:Hid (∀j,j<k→l17P (deskL (List.map (·.h) [x0,x1,x2])) j=true):=HA.out
  clear z0 HA
  rcases(show k=0∨k=1∨k=2 by omega)with rfl|rfl|rfl
  ·have c0:=Draw.Later.cell (show wr.cell? ⟨b,off,none⟩=some (.int .i64 x0.h.g.ba)from El.Lies.cells hL (i:=0) (x:=x0) rfl 0 _ rfl)
   have c1:=Draw.Later.cell (show wr.cell? ⟨b,off+1,none⟩=some (.string x0.h.g.bs)from El.Lies.cells hL (i:=0) (x:=x0) rfl 1 _ rfl)
   have c2:=Draw.Later.cell (show wr.cell? ⟨b,off+2,none⟩=some (.int .i64 x0.h.g.cp)from El.Lies.cells hL (i:=0) (x:=x0) rfl 2 _ rfl)
   have c3:=Draw.Later.cell (show wr.cell? ⟨b,off+3,none⟩=some (.int .i64 x0.h.g.lm)from El.Lies.cells hL (i:=0) (x:=x0) rfl 3 _ rfl)
   have c4:=Draw.Later.cell (show wr.cell? ⟨b,off+4,none⟩=some (.bool x0.h.g.en)from El.Lies.cells hL (i:=0) (x:=x0) rfl 4 _ rfl)
   have c5:=Draw.Later.cell (show wr.cell? ⟨b,off+5,none⟩=some (.bool x0.h.g.dn)from El.Lies.cells hL (i:=0) (x:=x0) rfl 5 _ rfl)
   have c6:=Draw.Later.cell (show wr.cell? ⟨b,off+6,none⟩=some (.int .i64 x0.h.t.nx)from El.Lies.cells hL (i:=0) (x:=x0) rfl 6 _ rfl)
   have c7:=Draw.Later.cell (show wr.cell? ⟨b,off+7,none⟩=some (.string x0.h.t.bs)from El.Lies.cells hL (i:=0) (x:=x0) rfl 7 _ rfl)
   have c8:=Draw.Later.cell (show wr.cell? ⟨b,off+8,none⟩=some (.slice x0.aT x0.h.t.l.length x0.cT)from El.Lies.cells hL (i:=0) (x:=x0) rfl 8 _ rfl)
   have c9:=Draw.Later.cell (show wr.cell? ⟨b,off+9,none⟩=some (.int .i64 x0.h.t.cp)from El.Lies.cells hL (i:=0) (x:=x0) rfl 9 _ rfl)
   have c10:=Draw.Later.cell (show wr.cell? ⟨b,off+10,none⟩=some (.int .i64 x0.h.t.fi)from El.Lies.cells hL (i:=0) (x:=x0) rfl 10 _ rfl)
   have c11:=Draw.Later.cell (show wr.cell? ⟨b,off+11,none⟩=some (.bool x0.h.t.en)from El.Lies.cells hL (i:=0) (x:=x0) rfl 11 _ rfl)
   have c12:=Draw.Later.cell (show wr.cell? ⟨b,off+12,none⟩=some (.slice x0.aW x0.h.ws.length x0.cW)from El.Lies.cells hL (i:=0) (x:=x0) rfl 12 _ rfl)
   have e1:=Draw.Later.cell (show wr.cell? ⟨gE,1,none⟩=some (.int .i64 (capAt ((deskL (List.map (·.h) [x0,x1,x2])).map endK) 1))from by have q:=capCell lE (k:=1) (by simp [deskL,deskH]);rw [Nat.zero_add]at q;exact q)
   have s0:=Draw.Later.cell (show wr.cell? ⟨gS,0,none⟩=some (.int .i64 (capAt ((deskL (List.map (·.h) [x0,x1,x2])).map Prod.fst) 0))from by have q:=capCell lS (k:=0) (by simp [deskL,deskH]);rw [Nat.zero_add]at q;exact q)
   have e0:=Draw.Later.cell (show wr.cell? ⟨gE,0,none⟩=some (.int .i64 (capAt ((deskL (List.map (·.h) [x0,x1,x2])).map endK) 0))from by have q:=capCell lE (k:=0) (by simp [deskL,deskH]);rw [Nat.zero_add]at q;exact q)
   have s1:=Draw.Later.cell (show wr.cell? ⟨gS,1,none⟩=some (.int .i64 (capAt ((deskL (List.map (·.h) [x0,x1,x2])).map Prod.fst) 1))from by have q:=capCell lS (k:=1) (by simp [deskL,deskH]);rw [Nat.zero_add]at q;exact q)
   have e2:=Draw.Later.cell (show wr.cell? ⟨gE,2,none⟩=some (.int .i64 (capAt ((deskL (List.map (·.h) [x0,x1,x2])).map endK) 2))from by have q:=capCell lE (k:=2) (by simp [deskL,deskH]);rw [Nat.zero_add]at q;exact q)
   have HPK:Hid (l17P (deskL (List.map (·.h) [x0,x1,x2])) 0=((decide ((capAt ((deskL (List.map (·.h) [x0,x1,x2])).map Prod.fst) 0)≤(capAt ((deskL (List.map (·.h) [x0,x1,x2])).map endK) 1))&&(decide ((capAt ((deskL (List.map (·.h) [x0,x1,x2])).map endK) 1)≤(capAt ((deskL (List.map (·.h) [x0,x1,x2])).map endK) 0))&&(alikeB x0.h.g.ba x0.h.g.bs (x0.h.t.nx-x0.h.t.bs.size) x0.h.t.bs)))&&((capAt ((deskL (List.map (·.h) [x0,x1,x2])).map Prod.fst) 1)==(capAt ((deskL (List.map (·.h) [x0,x1,x2])).map endK) 2)))):=by show _=_;simp [l17P,pairB,roadB,deskL,deskH,capAt,endK,zd]
   have HAL:Hid (∀p:Draw.Later wr,Calls Tryz.prog 19 #[.agg x0.c.toArray] p.1 fun e w''=>e=.returned (.bool (alikeB x0.h.g.ba x0.h.g.bs (x0.h.t.nx-x0.h.t.bs.size) x0.h.t.bs))∧Below p.1.heap.size p.1 w''):=fun p=>l17Alike x0.h x0.aT x0.cT x0.aW x0.cW p.1 (hop_at (k:=0) HB.out rfl)
   generalize (capAt ((deskL (List.map (·.h) [x0,x1,x2])).map endK) 1)=ev1 at *
   generalize (capAt ((deskL (List.map (·.h) [x0,x1,x2])).map Prod.fst) 0)=sv0 at *
   generalize (capAt ((deskL (List.map (·.h) [x0,x1,x2])).map endK) 0)=ev0 at *
   generalize (capAt ((deskL (List.map (·.h) [x0,x1,x2])).map Prod.fst) 1)=sv1 at *
   generalize (capAt ((deskL (List.map (·.h) [x0,x1,x2])).map endK) 2)=ev2 at *
   generalize (alikeB x0.h.g.ba x0.h.g.bs (x0.h.t.nx-x0.h.t.bs.size) x0.h.t.bs)=al at *
   clear lS lE hL HB HLL HLS HLE HV
   by_cases c1:ev1<sv0
   case pos=>
    have f1:decide (ev1<sv0)=true:=decide_eq_true c1
    have HPF:Hid (l17P (deskL (List.map (·.h) [x0,x1,x2])) 0=false):=by show _=_;rw [HPK.out,decide_eq_false (show ¬sv0≤ev1 by omega)];rfl
    go_wp2_with fail
    refine Draw.wp_region_later hmix (by kernel_rfl) ?_
    repeat (go_big_quiet_step (first|(go_at_call 19;exact Draw.later_of (HAL.out _))|fail))
    refine wpQuiet_nil ?_
    intro wz hw'
    obtain⟨⟨wq,hq⟩,hw''⟩:=hw'
    subst hw''
    go_wp2_with fail
    go_ret
    exact⟨by rw [HD.out,HPF.out];rfl,B5.trans (hq.mono B5.size)⟩
   have f1:decide (ev1<sv0)=false:=decide_eq_false c1
   by_cases c2:ev0<ev1
   case pos=>
    have f2:decide (ev0<ev1)=true:=decide_eq_true c2
    have HPF:Hid (l17P (deskL (List.map (·.h) [x0,x1,x2])) 0=false):=by show _=_;rw [HPK.out,decide_eq_false (show ¬ev1≤ev0 by omega)];simp
    go_wp2_with fail
    refine Draw.wp_region_later hmix (by kernel_rfl) ?_
    repeat (go_big_quiet_step (first|(go_at_call 19;exact Draw.later_of (HAL.out _))|fail))
    refine wpQuiet_nil ?_
    intro wz hw'
    obtain⟨⟨wq,hq⟩,hw''⟩:=hw'
    subst hw''
    go_wp2_with fail
    go_ret
    exact⟨by rw [HD.out,HPF.out];rfl,B5.trans (hq.mono B5.size)⟩
   have f2:decide (ev0<ev1)=false:=decide_eq_false c2
   cases al
   case false=>
    have HPF:Hid (l17P (deskL (List.map (·.h) [x0,x1,x2])) 0=false):=by show _=_;rw [HPK.out];simp
    go_wp2_with fail
    refine Draw.wp_region_later hmix (by kernel_rfl) ?_
    repeat (go_big_quiet_step (first|(go_at_call 19;exact Draw.later_of (HAL.out _))|fail))
    refine wpQuiet_nil ?_
    intro wz hw'
    obtain⟨⟨wq,hq⟩,hw''⟩:=hw'
    subst hw''
    go_wp2_with fail
    go_ret
    exact⟨by rw [HD.out,HPF.out];rfl,B5.trans (hq.mono B5.size)⟩
   by_cases c4:sv1=ev2
   case neg=>
    have f4:(sv1==ev2)=false:=by simpa using c4
    have f5:(sv1 !=ev2)=true:=by simpa using c4
    have HPF:Hid (l17P (deskL (List.map (·.h) [x0,x1,x2])) 0=false):=by show _=_;rw [HPK.out,f4];simp
    go_wp2_with fail
    refine Draw.wp_region_later hmix (by kernel_rfl) ?_
    repeat (go_big_quiet_step (first|(go_at_call 19;exact Draw.later_of (HAL.out _))|fail))
    refine wpQuiet_nil ?_
    intro wz hw'
    obtain⟨⟨wq,hq⟩,hw''⟩:=hw'
    subst hw''
    go_wp2_with fail
    go_ret
    exact⟨by rw [HD.out,HPF.out];rfl,B5.trans (hq.mono B5.size)⟩
   have f4:(sv1==ev2)=true:=by simpa using c4
   have HPT:Hid (l17P (deskL (List.map (·.h) [x0,x1,x2])) 0=true):=by show _=_;rw [HPK.out,f4,decide_eq_true (show sv0≤ev1 by omega),decide_eq_true (show ev1≤ev0 by omega)];rfl
   have f5:(sv1 !=ev2)=false:=by simpa using c4
   clear c4
   go_wp2_with fail
   refine Draw.wp_region_later hmix (by kernel_rfl) ?_
   repeat (go_big_quiet_step (first|(go_at_call 19;exact Draw.later_of (HAL.out _))|fail))
   refine wpQuiet_nil ?_
   intro wz hw'
   obtain⟨⟨wq,hq⟩,hw''⟩:=hw'
   subst hw''
   go_wp2_with fail
   go_roundw
   case rel=>exact⟨1,by omega,by go_num,fun j hj=>(by
    by_cases e:j=0
    ·subst e;exact HPT.out
    ·exact HP.out j (by omega)),b5.trans (hq.mono b5.size)⟩
   case measure=>simp [intOf]
  ·have c0:=Draw.Later.cell (show wr.cell? ⟨b,off+13,none⟩=some (.int .i64 x1.h.g.ba)from El.Lies.cells hL (i:=1) (x:=x1) rfl 0 _ rfl)
   have c1:=Draw.Later.cell (show wr.cell? ⟨b,off+13+1,none⟩=some (.string x1.h.g.bs)from El.Lies.cells hL (i:=1) (x:=x1) rfl 1 _ rfl)
   have c2:=Draw.Later.cell (show wr.cell? ⟨b,off+13+2,none⟩=some (.int .i64 x1.h.g.cp)from El.Lies.cells hL (i:=1) (x:=x1) rfl 2 _ rfl)
   have c3:=Draw.Later.cell (show wr.cell? ⟨b,off+13+3,none⟩=some (.int .i64 x1.h.g.lm)from El.Lies.cells hL (i:=1) (x:=x1) rfl 3 _ rfl)
   have c4:=Draw.Later.cell (show wr.cell? ⟨b,off+13+4,none⟩=some (.bool x1.h.g.en)from El.Lies.cells hL (i:=1) (x:=x1) rfl 4 _ rfl)
   have c5:=Draw.Later.cell (show wr.cell? ⟨b,off+13+5,none⟩=some (.bool x1.h.g.dn)from El.Lies.cells hL (i:=1) (x:=x1) rfl 5 _ rfl)
   have c6:=Draw.Later.cell (show wr.cell? ⟨b,off+13+6,none⟩=some (.int .i64 x1.h.t.nx)from El.Lies.cells hL (i:=1) (x:=x1) rfl 6 _ rfl)
   have c7:=Draw.Later.cell (show wr.cell? ⟨b,off+13+7,none⟩=some (.string x1.h.t.bs)from El.Lies.cells hL (i:=1) (x:=x1) rfl 7 _ rfl)
   have c8:=Draw.Later.cell (show wr.cell? ⟨b,off+13+8,none⟩=some (.slice x1.aT x1.h.t.l.length x1.cT)from El.Lies.cells hL (i:=1) (x:=x1) rfl 8 _ rfl)
   have c9:=Draw.Later.cell (show wr.cell? ⟨b,off+13+9,none⟩=some (.int .i64 x1.h.t.cp)from El.Lies.cells hL (i:=1) (x:=x1) rfl 9 _ rfl)
   have c10:=Draw.Later.cell (show wr.cell? ⟨b,off+13+10,none⟩=some (.int .i64 x1.h.t.fi)from El.Lies.cells hL (i:=1) (x:=x1) rfl 10 _ rfl)
   have c11:=Draw.Later.cell (show wr.cell? ⟨b,off+13+11,none⟩=some (.bool x1.h.t.en)from El.Lies.cells hL (i:=1) (x:=x1) rfl 11 _ rfl)
   have c12:=Draw.Later.cell (show wr.cell? ⟨b,off+13+12,none⟩=some (.slice x1.aW x1.h.ws.length x1.cW)from El.Lies.cells hL (i:=1) (x:=x1) rfl 12 _ rfl)
   have e3:=Draw.Later.cell (show wr.cell? ⟨gE,3,none⟩=some (.int .i64 (capAt ((deskL (List.map (·.h) [x0,x1,x2])).map endK) 3))from by have q:=capCell lE (k:=3) (by simp [deskL,deskH]);rw [Nat.zero_add]at q;exact q)
   have s2:=Draw.Later.cell (show wr.cell? ⟨gS,2,none⟩=some (.int .i64 (capAt ((deskL (List.map (·.h) [x0,x1,x2])).map Prod.fst) 2))from by have q:=capCell lS (k:=2) (by simp [deskL,deskH]);rw [Nat.zero_add]at q;exact q)
   have e2:=Draw.Later.cell (show wr.cell? ⟨gE,2,none⟩=some (.int .i64 (capAt ((deskL (List.map (·.h) [x0,x1,x2])).map endK) 2))from by have q:=capCell lE (k:=2) (by simp [deskL,deskH]);rw [Nat.zero_add]at q;exact q)
   have s3:=Draw.Later.cell (show wr.cell? ⟨gS,3,none⟩=some (.int .i64 (capAt ((deskL (List.map (·.h) [x0,x1,x2])).map Prod.fst) 3))from by have q:=capCell lS (k:=3) (by simp [deskL,deskH]);rw [Nat.zero_add]at q;exact q)
   have e4:=Draw.Later.cell (show wr.cell? ⟨gE,4,none⟩=some (.int .i64 (capAt ((deskL (List.map (·.h) [x0,x1,x2])).map endK) 4))from by have q:=capCell lE (k:=4) (by simp [deskL,deskH]);rw [Nat.zero_add]at q;exact q)
   have HPK:Hid (l17P (deskL (List.map (·.h) [x0,x1,x2])) 1=((decide ((capAt ((deskL (List.map (·.h) [x0,x1,x2])).map Prod.fst) 2)≤(capAt ((deskL (List.map (·.h) [x0,x1,x2])).map endK) 3))&&(decide ((capAt ((deskL (List.map (·.h) [x0,x1,x2])).map endK) 3)≤(capAt ((deskL (List.map (·.h) [x0,x1,x2])).map endK) 2))&&(alikeB x1.h.g.ba x1.h.g.bs (x1.h.t.nx-x1.h.t.bs.size) x1.h.t.bs)))&&((capAt ((deskL (List.map (·.h) [x0,x1,x2])).map Prod.fst) 3)==(capAt ((deskL (List.map (·.h) [x0,x1,x2])).map endK) 4)))):=by show _=_;simp [l17P,pairB,roadB,deskL,deskH,capAt,endK,zd]
   have HAL:Hid (∀p:Draw.Later wr,Calls Tryz.prog 19 #[.agg x1.c.toArray] p.1 fun e w''=>e=.returned (.bool (alikeB x1.h.g.ba x1.h.g.bs (x1.h.t.nx-x1.h.t.bs.size) x1.h.t.bs))∧Below p.1.heap.size p.1 w''):=fun p=>l17Alike x1.h x1.aT x1.cT x1.aW x1.cW p.1 (hop_at (k:=1) HB.out rfl)
   generalize (capAt ((deskL (List.map (·.h) [x0,x1,x2])).map endK) 3)=ev3 at *
   generalize (capAt ((deskL (List.map (·.h) [x0,x1,x2])).map Prod.fst) 2)=sv2 at *
   generalize (capAt ((deskL (List.map (·.h) [x0,x1,x2])).map endK) 2)=ev2 at *
   generalize (capAt ((deskL (List.map (·.h) [x0,x1,x2])).map Prod.fst) 3)=sv3 at *
   generalize (capAt ((deskL (List.map (·.h) [x0,x1,x2])).map endK) 4)=ev4 at *
   generalize (alikeB x1.h.g.ba x1.h.g.bs (x1.h.t.nx-x1.h.t.bs.size) x1.h.t.bs)=al at *
   clear lS lE hL HB HLL HLS HLE HV
   by_cases c1:ev3<sv2
   case pos=>
    have f1:decide (ev3<sv2)=true:=decide_eq_true c1
    have HPF:Hid (l17P (deskL (List.map (·.h) [x0,x1,x2])) 1=false):=by show _=_;rw [HPK.out,decide_eq_false (show ¬sv2≤ev3 by omega)];rfl
    go_wp2_with fail
    refine Draw.wp_region_later hmix (by kernel_rfl) ?_
    repeat (go_big_quiet_step (first|(go_at_call 19;exact Draw.later_of (HAL.out _))|fail))
    refine wpQuiet_nil ?_
    intro wz hw'
    obtain⟨⟨wq,hq⟩,hw''⟩:=hw'
    subst hw''
    go_wp2_with fail
    go_ret
    exact⟨by rw [HD.out,HP.out 0 (by decide),HPF.out];rfl,B5.trans (hq.mono B5.size)⟩
   have f1:decide (ev3<sv2)=false:=decide_eq_false c1
   by_cases c2:ev2<ev3
   case pos=>
    have f2:decide (ev2<ev3)=true:=decide_eq_true c2
    have HPF:Hid (l17P (deskL (List.map (·.h) [x0,x1,x2])) 1=false):=by show _=_;rw [HPK.out,decide_eq_false (show ¬ev3≤ev2 by omega)];simp
    go_wp2_with fail
    refine Draw.wp_region_later hmix (by kernel_rfl) ?_
    repeat (go_big_quiet_step (first|(go_at_call 19;exact Draw.later_of (HAL.out _))|fail))
    refine wpQuiet_nil ?_
    intro wz hw'
    obtain⟨⟨wq,hq⟩,hw''⟩:=hw'
    subst hw''
    go_wp2_with fail
    go_ret
    exact⟨by rw [HD.out,HP.out 0 (by decide),HPF.out];rfl,B5.trans (hq.mono B5.size)⟩
   have f2:decide (ev2<ev3)=false:=decide_eq_false c2
   cases al
   case false=>
    have HPF:Hid (l17P (deskL (List.map (·.h) [x0,x1,x2])) 1=false):=by show _=_;rw [HPK.out];simp
    go_wp2_with fail
    refine Draw.wp_region_later hmix (by kernel_rfl) ?_
    repeat (go_big_quiet_step (first|(go_at_call 19;exact Draw.later_of (HAL.out _))|fail))
    refine wpQuiet_nil ?_
    intro wz hw'
    obtain⟨⟨wq,hq⟩,hw''⟩:=hw'
    subst hw''
    go_wp2_with fail
    go_ret
    exact⟨by rw [HD.out,HP.out 0 (by decide),HPF.out];rfl,B5.trans (hq.mono B5.size)⟩
   by_cases c4:sv3=ev4
   case neg=>
    have f4:(sv3==ev4)=false:=by simpa using c4
    have f5:(sv3 !=ev4)=true:=by simpa using c4
    have HPF:Hid (l17P (deskL (List.map (·.h) [x0,x1,x2])) 1=false):=by show _=_;rw [HPK.out,f4];simp
    go_wp2_with fail
    refine Draw.wp_region_later hmix (by kernel_rfl) ?_
    repeat (go_big_quiet_step (first|(go_at_call 19;exact Draw.later_of (HAL.out _))|fail))
    refine wpQuiet_nil ?_
    intro wz hw'
    obtain⟨⟨wq,hq⟩,hw''⟩:=hw'
    subst hw''
    go_wp2_with fail
    go_ret
    exact⟨by rw [HD.out,HP.out 0 (by decide),HPF.out];rfl,B5.trans (hq.mono B5.size)⟩
   have f4:(sv3==ev4)=true:=by simpa using c4
   have HPT:Hid (l17P (deskL (List.map (·.h) [x0,x1,x2])) 1=true):=by show _=_;rw [HPK.out,f4,decide_eq_true (show sv2≤ev3 by omega),decide_eq_true (show ev3≤ev2 by omega)];rfl
   have f5:(sv3 !=ev4)=false:=by simpa using c4
   clear c4
   go_wp2_with fail
   refine Draw.wp_region_later hmix (by kernel_rfl) ?_
   repeat (go_big_quiet_step (first|(go_at_call 19;exact Draw.later_of (HAL.out _))|fail))
   refine wpQuiet_nil ?_
   intro wz hw'
   obtain⟨⟨wq,hq⟩,hw''⟩:=hw'
   subst hw''
   go_wp2_with fail
   go_roundw
   case rel=>exact⟨2,by omega,by go_num,fun j hj=>(by
    by_cases e:j=1
    ·subst e;exact HPT.out
    ·exact HP.out j (by omega)),b5.trans (hq.mono b5.size)⟩
   case measure=>simp [intOf]
  ·have c0:=Draw.Later.cell (show wr.cell? ⟨b,off+26,none⟩=some (.int .i64 x2.h.g.ba)from El.Lies.cells hL (i:=2) (x:=x2) rfl 0 _ rfl)
   have c1:=Draw.Later.cell (show wr.cell? ⟨b,off+26+1,none⟩=some (.string x2.h.g.bs)from El.Lies.cells hL (i:=2) (x:=x2) rfl 1 _ rfl)
   have c2:=Draw.Later.cell (show wr.cell? ⟨b,off+26+2,none⟩=some (.int .i64 x2.h.g.cp)from El.Lies.cells hL (i:=2) (x:=x2) rfl 2 _ rfl)
   have c3:=Draw.Later.cell (show wr.cell? ⟨b,off+26+3,none⟩=some (.int .i64 x2.h.g.lm)from El.Lies.cells hL (i:=2) (x:=x2) rfl 3 _ rfl)
   have c4:=Draw.Later.cell (show wr.cell? ⟨b,off+26+4,none⟩=some (.bool x2.h.g.en)from El.Lies.cells hL (i:=2) (x:=x2) rfl 4 _ rfl)
   have c5:=Draw.Later.cell (show wr.cell? ⟨b,off+26+5,none⟩=some (.bool x2.h.g.dn)from El.Lies.cells hL (i:=2) (x:=x2) rfl 5 _ rfl)
   have c6:=Draw.Later.cell (show wr.cell? ⟨b,off+26+6,none⟩=some (.int .i64 x2.h.t.nx)from El.Lies.cells hL (i:=2) (x:=x2) rfl 6 _ rfl)
   have c7:=Draw.Later.cell (show wr.cell? ⟨b,off+26+7,none⟩=some (.string x2.h.t.bs)from El.Lies.cells hL (i:=2) (x:=x2) rfl 7 _ rfl)
   have c8:=Draw.Later.cell (show wr.cell? ⟨b,off+26+8,none⟩=some (.slice x2.aT x2.h.t.l.length x2.cT)from El.Lies.cells hL (i:=2) (x:=x2) rfl 8 _ rfl)
   have c9:=Draw.Later.cell (show wr.cell? ⟨b,off+26+9,none⟩=some (.int .i64 x2.h.t.cp)from El.Lies.cells hL (i:=2) (x:=x2) rfl 9 _ rfl)
   have c10:=Draw.Later.cell (show wr.cell? ⟨b,off+26+10,none⟩=some (.int .i64 x2.h.t.fi)from El.Lies.cells hL (i:=2) (x:=x2) rfl 10 _ rfl)
   have c11:=Draw.Later.cell (show wr.cell? ⟨b,off+26+11,none⟩=some (.bool x2.h.t.en)from El.Lies.cells hL (i:=2) (x:=x2) rfl 11 _ rfl)
   have c12:=Draw.Later.cell (show wr.cell? ⟨b,off+26+12,none⟩=some (.slice x2.aW x2.h.ws.length x2.cW)from El.Lies.cells hL (i:=2) (x:=x2) rfl 12 _ rfl)
   have e5:=Draw.Later.cell (show wr.cell? ⟨gE,5,none⟩=some (.int .i64 (capAt ((deskL (List.map (·.h) [x0,x1,x2])).map endK) 5))from by have q:=capCell lE (k:=5) (by simp [deskL,deskH]);rw [Nat.zero_add]at q;exact q)
   have s4:=Draw.Later.cell (show wr.cell? ⟨gS,4,none⟩=some (.int .i64 (capAt ((deskL (List.map (·.h) [x0,x1,x2])).map Prod.fst) 4))from by have q:=capCell lS (k:=4) (by simp [deskL,deskH]);rw [Nat.zero_add]at q;exact q)
   have e4:=Draw.Later.cell (show wr.cell? ⟨gE,4,none⟩=some (.int .i64 (capAt ((deskL (List.map (·.h) [x0,x1,x2])).map endK) 4))from by have q:=capCell lE (k:=4) (by simp [deskL,deskH]);rw [Nat.zero_add]at q;exact q)
   have HPK:Hid (l17P (deskL (List.map (·.h) [x0,x1,x2])) 2=((decide ((capAt ((deskL (List.map (·.h) [x0,x1,x2])).map Prod.fst) 4)≤(capAt ((deskL (List.map (·.h) [x0,x1,x2])).map endK) 5))&&(decide ((capAt ((deskL (List.map (·.h) [x0,x1,x2])).map endK) 5)≤(capAt ((deskL (List.map (·.h) [x0,x1,x2])).map endK) 4))&&(alikeB x2.h.g.ba x2.h.g.bs (x2.h.t.nx-x2.h.t.bs.size) x2.h.t.bs)))&&true)):=by show _=_;simp [l17P,pairB,roadB,deskL,deskH,capAt,endK,zd]
   have HAL:Hid (∀p:Draw.Later wr,Calls Tryz.prog 19 #[.agg x2.c.toArray] p.1 fun e w''=>e=.returned (.bool (alikeB x2.h.g.ba x2.h.g.bs (x2.h.t.nx-x2.h.t.bs.size) x2.h.t.bs))∧Below p.1.heap.size p.1 w''):=fun p=>l17Alike x2.h x2.aT x2.cT x2.aW x2.cW p.1 (hop_at (k:=2) HB.out rfl)
   generalize (capAt ((deskL (List.map (·.h) [x0,x1,x2])).map endK) 5)=ev5 at *
   generalize (capAt ((deskL (List.map (·.h) [x0,x1,x2])).map Prod.fst) 4)=sv4 at *
   generalize (capAt ((deskL (List.map (·.h) [x0,x1,x2])).map endK) 4)=ev4 at *
   generalize (alikeB x2.h.g.ba x2.h.g.bs (x2.h.t.nx-x2.h.t.bs.size) x2.h.t.bs)=al at *
   clear lS lE hL HB HLL HLS HLE HV
   by_cases c1:ev5<sv4
   case pos=>
    have f1:decide (ev5<sv4)=true:=decide_eq_true c1
    have HPF:Hid (l17P (deskL (List.map (·.h) [x0,x1,x2])) 2=false):=by show _=_;rw [HPK.out,decide_eq_false (show ¬sv4≤ev5 by omega)];rfl
    go_wp2_with fail
    refine Draw.wp_region_later hmix (by kernel_rfl) ?_
    repeat (go_big_quiet_step (first|(go_at_call 19;exact Draw.later_of (HAL.out _))|fail))
    refine wpQuiet_nil ?_
    intro wz hw'
    obtain⟨⟨wq,hq⟩,hw''⟩:=hw'
    subst hw''
    go_wp2_with fail
    go_ret
    exact⟨by rw [HD.out,HP.out 0 (by decide),HP.out 1 (by decide),HPF.out];rfl,B5.trans (hq.mono B5.size)⟩
   have f1:decide (ev5<sv4)=false:=decide_eq_false c1
   by_cases c2:ev4<ev5
   case pos=>
    have f2:decide (ev4<ev5)=true:=decide_eq_true c2
    have HPF:Hid (l17P (deskL (List.map (·.h) [x0,x1,x2])) 2=false):=by show _=_;rw [HPK.out,decide_eq_false (show ¬ev5≤ev4 by omega)];simp
    go_wp2_with fail
    refine Draw.wp_region_later hmix (by kernel_rfl) ?_
    repeat (go_big_quiet_step (first|(go_at_call 19;exact Draw.later_of (HAL.out _))|fail))
    refine wpQuiet_nil ?_
    intro wz hw'
    obtain⟨⟨wq,hq⟩,hw''⟩:=hw'
    subst hw''
    go_wp2_with fail
    go_ret
    exact⟨by rw [HD.out,HP.out 0 (by decide),HP.out 1 (by decide),HPF.out];rfl,B5.trans (hq.mono B5.size)⟩
   have f2:decide (ev4<ev5)=false:=decide_eq_false c2
   cases al
   case false=>
    have HPF:Hid (l17P (deskL (List.map (·.h) [x0,x1,x2])) 2=false):=by show _=_;rw [HPK.out];simp
    go_wp2_with fail
    refine Draw.wp_region_later hmix (by kernel_rfl) ?_
    repeat (go_big_quiet_step (first|(go_at_call 19;exact Draw.later_of (HAL.out _))|fail))
    refine wpQuiet_nil ?_
    intro wz hw'
    obtain⟨⟨wq,hq⟩,hw''⟩:=hw'
    subst hw''
    go_wp2_with fail
    go_ret
    exact⟨by rw [HD.out,HP.out 0 (by decide),HP.out 1 (by decide),HPF.out];rfl,B5.trans (hq.mono B5.size)⟩
   have HPT:Hid (l17P (deskL (List.map (·.h) [x0,x1,x2])) 2=true):=by show _=_;rw [HPK.out,decide_eq_true (show sv4≤ev5 by omega),decide_eq_true (show ev5≤ev4 by omega)];rfl
   go_wp2_with fail
   refine Draw.wp_region_later hmix (by kernel_rfl) ?_
   repeat (go_big_quiet_step (first|(go_at_call 19;exact Draw.later_of (HAL.out _))|fail))
   refine wpQuiet_nil ?_
   intro wz hw'
   obtain⟨⟨wq,hq⟩,hw''⟩:=hw'
   subst hw''
   go_wp2_with fail
   go_roundw
   case rel=>exact⟨3,by omega,by go_num,fun j hj=>(by
    by_cases e:j=2
    ·subst e;exact HPT.out
    ·exact HP.out j (by omega)),b5.trans (hq.mono b5.size)⟩
   case measure=>simp [intOf]
end Go.Proofs.YtfejobjgbadfjaaGreat.Cou
