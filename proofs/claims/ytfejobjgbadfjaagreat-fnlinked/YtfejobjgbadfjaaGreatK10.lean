/- Contracts of this seat's functions, and their mathematics (HopF HopG HopI). -/
import Derived.Test.YtfejobjgbadfjaaGreatK9
import Derived.Test.YtfejobjgbadfjaaGreatK7
set_option linter.unusedVariables false
set_option linter.unusedSimpArgs false
set_option maxRecDepth 10000
set_option maxHeartbeats 8000000
namespace Go.Proofs.YtfejobjgbadfjaaGreat.Hop
open Go.RowKit RowG
theorem res_one {fn:Func}{p:Tmp}{ty:TypeId}(h:fn.results= #[.cell p ty])(tmps:Array Value)(P:Program)(w:World):
  (results fn tmps).run P w=((asAddr (tmps.getD p undef)).run P w).andThen fun a w₁=>(loadVar ty a).run P w₁:=by
 simp only [results,h]
 simp [Sem.run_bind,Result.andThen]
theorem l7Copy (h:Hp)(aT:Option Addr)(cT:Nat)(aW:Option Addr)(cW:Nat)(w:World)(hT:Tak.partE.Lies w aT h.t.l)(hW:letE.Lies w aW h.ws)(hnT:aT=none→cT=0)(hnW:aW=none→cW=0)(hlT:h.t.l.length≤524288)(hlW:h.ws.length≤524288):
  Calls Tryz.prog 71 #[h.v aT cT aW cW] w fun e w'=> ∃aT' cT' aW' cW',e=.returned (h.v aT' cT' aW' cW')∧Tak.partE.Own 123 w' w.heap.size aT' cT' h.t.l∧letE.Own 75 w' w.heap.size aW' cW' h.ws∧Below w.heap.size w w':=by
 have v1:Var 47 ((w.alloc (.cells #[.int .i64 h.g.ba,.string h.g.bs,.int .i64 h.g.cp,.int .i64 h.g.lm,.bool h.g.en,.bool h.g.dn,.int .i64 h.t.nx,.string h.t.bs,.slice aT h.t.l.length cT,.int .i64 h.t.cp,.int .i64 h.t.fi,.bool h.t.en,.slice aW h.ws.length cW] 47)).alloc (.cells #[.int .i64 0,.string ⟨#[]⟩,.int .i64 0,.int .i64 0,.bool false,.bool false,.int .i64 0,.string ⟨#[]⟩,.slice none 0 0,.int .i64 0,.int .i64 0,.bool false,.slice none 0 0] 47)) w.heap.size [.int .i64 h.g.ba,.string h.g.bs,.int .i64 h.g.cp,.int .i64 h.g.lm,.bool h.g.en,.bool h.g.dn,.int .i64 h.t.nx,.string h.t.bs,.slice aT h.t.l.length cT,.int .i64 h.t.cp,.int .i64 h.t.fi,.bool h.t.en,.slice aW h.ws.length cW]:=(Var.new w [.int .i64 h.g.ba,.string h.g.bs,.int .i64 h.g.cp,.int .i64 h.g.lm,.bool h.g.en,.bool h.g.dn,.int .i64 h.t.nx,.string h.t.bs,.slice aT h.t.l.length cT,.int .i64 h.t.cp,.int .i64 h.t.fi,.bool h.t.en,.slice aW h.ws.length cW]).alloc _
 have v2:Var 47 ((w.alloc (.cells #[.int .i64 h.g.ba,.string h.g.bs,.int .i64 h.g.cp,.int .i64 h.g.lm,.bool h.g.en,.bool h.g.dn,.int .i64 h.t.nx,.string h.t.bs,.slice aT h.t.l.length cT,.int .i64 h.t.cp,.int .i64 h.t.fi,.bool h.t.en,.slice aW h.ws.length cW] 47)).alloc (.cells #[.int .i64 0,.string ⟨#[]⟩,.int .i64 0,.int .i64 0,.bool false,.bool false,.int .i64 0,.string ⟨#[]⟩,.slice none 0 0,.int .i64 0,.int .i64 0,.bool false,.slice none 0 0] 47)) (w.heap.size+1) [.int .i64 0,.string ⟨#[]⟩,.int .i64 0,.int .i64 0,.bool false,.bool false,.int .i64 0,.string ⟨#[]⟩,.slice none 0 0,.int .i64 0,.int .i64 0,.bool false,.slice none 0 0]:=by
  have q:=Var.new (T:=47) (w.alloc (.cells #[.int .i64 h.g.ba,.string h.g.bs,.int .i64 h.g.cp,.int .i64 h.g.lm,.bool h.g.en,.bool h.g.dn,.int .i64 h.t.nx,.string h.t.bs,.slice aT h.t.l.length cT,.int .i64 h.t.cp,.int .i64 h.t.fi,.bool h.t.en,.slice aW h.ws.length cW] 47)) [.int .i64 0,.string ⟨#[]⟩,.int .i64 0,.int .i64 0,.bool false,.bool false,.int .i64 0,.string ⟨#[]⟩,.slice none 0 0,.int .i64 0,.int .i64 0,.bool false,.slice none 0 0]
  simpa using q
 have b0:Below w.heap.size w ((w.alloc (.cells #[.int .i64 h.g.ba,.string h.g.bs,.int .i64 h.g.cp,.int .i64 h.g.lm,.bool h.g.en,.bool h.g.dn,.int .i64 h.t.nx,.string h.t.bs,.slice aT h.t.l.length cT,.int .i64 h.t.cp,.int .i64 h.t.fi,.bool h.t.en,.slice aW h.ws.length cW] 47)).alloc (.cells #[.int .i64 0,.string ⟨#[]⟩,.int .i64 0,.int .i64 0,.bool false,.bool false,.int .i64 0,.string ⟨#[]⟩,.slice none 0 0,.int .i64 0,.int .i64 0,.bool false,.slice none 0 0] 47)):=((Below.refl _ _).alloc (Nat.le_refl _) _).alloc (by simp) _
 have lT:=hT.later b0
 have lW:=hW.later b0
 have hC:=fun w' l'=>Tak.l5Copy h.t.nx h.t.bs aT h.t.l.length cT h.t.cp h.t.fi h.t.en h.t.l w' rfl l' (by omega) hnT
 have HC:Hid _:=hC
 clear hC
 go_enter Tryz.func71,Tryz.ntmps71
 go_upto_region 1 with(fail)
 generalize (w.alloc (.cells #[.int .i64 h.g.ba,.string h.g.bs,.int .i64 h.g.cp,.int .i64 h.g.lm,.bool h.g.en,.bool h.g.dn,.int .i64 h.t.nx,.string h.t.bs,.slice aT h.t.l.length cT,.int .i64 h.t.cp,.int .i64 h.t.fi,.bool h.t.en,.slice aW h.ws.length cW] 47)).alloc (.cells #[.int .i64 0,.string ⟨#[]⟩,.int .i64 0,.int .i64 0,.bool false,.bool false,.int .i64 0,.string ⟨#[]⟩,.slice none 0 0,.int .i64 0,.int .i64 0,.bool false,.slice none 0 0] 47)=V at *
 obtain⟨e0,e1,e2,e3,e4,e5,e6,e7,e8,e9,e10,e11,e12⟩:=v1.c13
 have hV1:w.heap.size<V.heap.size:=v1.lt
 have hV2:w.heap.size+1<V.heap.size:=v2.lt
 go_wp2_with fail
 refine(HC.out _ lT).mono ?_
 rintro e w1 ⟨a2,c2,rfl,oT,b1⟩
 replace v1:=v1.later b1
 replace v2:=v2.later b1
 replace lW:=lW.later b1
 have B1:=b0.trans (b1.mono b0.size)
 clear HC b1 b0 lT e0 e1 e2 e3 e4 e5 e6 e7 e8 e9 e10 e11 e12
 obtain⟨e0,e1,e2,e3,e4,e5,e6,e7,e8,e9,e10,e11,e12⟩:=v1.c13
 have y6:=v1.free 6
 have y7:=v1.free 7
 have y8:=v1.free 8
 have y9:=v1.free 9
 have y10:=v1.free 10
 have y11:=v1.free 11
 go_upto_region 2 with(fail)
 obtain⟨W1,hW1⟩: ∃z,Hid (z=(((((w1.setCell ⟨w.heap.size,6,none⟩ (.int .i64 h.t.nx)).setCell ⟨w.heap.size,7,none⟩ (.string h.t.bs)).setCell ⟨w.heap.size,8,none⟩ (.slice a2 h.t.l.length c2)).setCell ⟨w.heap.size,9,none⟩ (.int .i64 h.t.cp)).setCell ⟨w.heap.size,10,none⟩ (.int .i64 h.t.fi)).setCell ⟨w.heap.size,11,none⟩ (.bool h.t.en)):=⟨_,rfl⟩
 have x1:Var 47 (W1) w.heap.size [.int .i64 h.g.ba,.string h.g.bs,.int .i64 h.g.cp,.int .i64 h.g.lm,.bool h.g.en,.bool h.g.dn,.int .i64 h.t.nx,.string h.t.bs,.slice a2 h.t.l.length c2,.int .i64 h.t.cp,.int .i64 h.t.fi,.bool h.t.en,.slice aW h.ws.length cW]:=by rw [hW1.out];exact((((((v1.set 6 _).set 7 _).set 8 _).set 9 _).set 10 _).set 11 _)
 have x2:Var 47 (W1) (w.heap.size+1) [.int .i64 0,.string ⟨#[]⟩,.int .i64 0,.int .i64 0,.bool false,.bool false,.int .i64 0,.string ⟨#[]⟩,.slice none 0 0,.int .i64 0,.int .i64 0,.bool false,.slice none 0 0]:=by
  rw [hW1.out]
  iterate 6 (refine Var.other ?_ (by simp) _)
  exact v2
 have xT:Tak.partE.Own 123 (W1) w.heap.size a2 c2 h.t.l:=by
  rw [hW1.out]
  iterate 6 (refine El.Own.setCell ?_ (fun x hx=>by have:=(oT.lt x hx).1;dsimp only;omega) _)
  exact oT.mono (by omega)
 have xB:Below w.heap.size w (W1):=by
  rw [hW1.out]
  iterate 6 (refine Below.setCell ?_ (by dsimp only;omega) _)
  exact B1
 have xs1:w.heap.size<(W1).heap.size:=x1.lt
 have xs2:w.heap.size+1<(W1).heap.size:=x2.lt
 have hW1o:=hW1.out
 clear hW1
 subst hW1o
 generalize ((((((w1.setCell ⟨w.heap.size,6,none⟩ (.int .i64 h.t.nx)).setCell ⟨w.heap.size,7,none⟩ (.string h.t.bs)).setCell ⟨w.heap.size,8,none⟩ (.slice a2 h.t.l.length c2)).setCell ⟨w.heap.size,9,none⟩ (.int .i64 h.t.cp)).setCell ⟨w.heap.size,10,none⟩ (.int .i64 h.t.fi)).setCell ⟨w.heap.size,11,none⟩ (.bool h.t.en))=W1 at *
 clear v1 v2 oT lW B1 e0 e1 e2 e3 e4 e5 e6 e7 e8 e9 e10 e11 e12 y6 y7 y8 y9 y10 y11
 have bA:Below w.heap.size w (W1.alloc (.cells #[] 75)):=xB.alloc xB.size _
 have z1:=x1.alloc (.cells #[] 75)
 have z2:=x2.alloc (.cells #[] 75)
 have zT:=xT.alloc (.cells #[] 75)
 have zW:=hW.later bA
 have oA:=El.Own.made (E:=letE) (T:=75) W1
 have hz:([]:List Lt).length+h.ws.length≤4194304:=by simp;omega
 have hBA:W1.heap.size≤(W1.alloc (.cells #[] 75)).heap.size:=by simp
 have c12:=z1.cell (i:=12) rfl
 go_wp2_with (at_builtin;refine wpList_app typ (by decide) (by rfl) _ _ (by rfl) W1.heap.size (some ⟨W1.heap.size,0,none⟩) 0 0 [] h.ws rfl (by rfl) oA hBA aW h.ws.length cW rfl (by rfl) zW hnW hz ?_;intro a4 c4 w4 o4 g4;refine Tak.stand ?_)
 rw [List.nil_append]at o4
 have p1:=z1.grown g4 (by intro g hg;simp [blk]at hg;omega)
 have p2:=z2.grown g4 (by intro g hg;simp [blk]at hg;omega)
 have pT:=zT.grown g4 (by intro x hx;have:=(xT.lt x hx).2;simp [blk];omega)
 have pB:=grown_below bA (Nat.le_refl _) (by intro g hg;simp [blk]at hg;omega) g4
 clear bA z1 z2 zT zW oA hz hBA c12 g4
 show wpList _ _ _ _ _ _
 have c12:=p1.cell (i:=12) rfl
 have f12:=p1.free 12
 (try rw [Nat.zero_add])
 go_upto_region 3 with(fail)
 have q1:Var 47 ((w4.setCell ⟨w.heap.size,12,none⟩ (.slice a4 h.ws.length c4))) w.heap.size [.int .i64 h.g.ba,.string h.g.bs,.int .i64 h.g.cp,.int .i64 h.g.lm,.bool h.g.en,.bool h.g.dn,.int .i64 h.t.nx,.string h.t.bs,.slice a2 h.t.l.length c2,.int .i64 h.t.cp,.int .i64 h.t.fi,.bool h.t.en,.slice a4 h.ws.length c4]:=(p1.set 12 _)
 have q2:Var 47 ((w4.setCell ⟨w.heap.size,12,none⟩ (.slice a4 h.ws.length c4))) (w.heap.size+1) [.int .i64 0,.string ⟨#[]⟩,.int .i64 0,.int .i64 0,.bool false,.bool false,.int .i64 0,.string ⟨#[]⟩,.slice none 0 0,.int .i64 0,.int .i64 0,.bool false,.slice none 0 0]:=p2.other (by simp) _
 have qT:Tak.partE.Own 123 ((w4.setCell ⟨w.heap.size,12,none⟩ (.slice a4 h.ws.length c4))) w.heap.size a2 c2 h.t.l:=pT.setCell (fun x hx=>by have:=(own_win (by decide) pT p1.win x hx);exact this) _
 have qW:letE.Own 75 ((w4.setCell ⟨w.heap.size,12,none⟩ (.slice a4 h.ws.length c4))) w.heap.size a4 c4 h.ws:=(o4.mono (by omega)).setCell (fun x hx=>by have:=(o4.lt x hx).1;dsimp only;omega) _
 have qB:Below w.heap.size w ((w4.setCell ⟨w.heap.size,12,none⟩ (.slice a4 h.ws.length c4))):=pB.setCell (by dsimp only;omega) _
 generalize (w4.setCell ⟨w.heap.size,12,none⟩ (.slice a4 h.ws.length c4))=W3 at *
 clear p1 p2 pT pB o4 c12 f12 x1 x2 xT xB
 obtain⟨e0,e1,e2,e3,e4,e5,e6,e7,e8,e9,e10,e11,e12⟩:=q1.c13
 obtain⟨f0,f1,f2,f3,f4,f5,f6,f7,f8,f9,f10,f11,f12⟩:=q2.c13
 obtain⟨y0,y1,y2,y3,y4,y5,y6,y7,y8,y9,y10,y11,y12⟩:=q2.f13
 go_wp2_with fail
 obtain⟨W4,hW4⟩: ∃z,Hid (z=((((((((((((W3.setCell ⟨(w.heap.size+1),0,none⟩ (.int .i64 h.g.ba)).setCell ⟨(w.heap.size+1),1,none⟩ (.string h.g.bs)).setCell ⟨(w.heap.size+1),2,none⟩ (.int .i64 h.g.cp)).setCell ⟨(w.heap.size+1),3,none⟩ (.int .i64 h.g.lm)).setCell ⟨(w.heap.size+1),4,none⟩ (.bool h.g.en)).setCell ⟨(w.heap.size+1),5,none⟩ (.bool h.g.dn)).setCell ⟨(w.heap.size+1),6,none⟩ (.int .i64 h.t.nx)).setCell ⟨(w.heap.size+1),7,none⟩ (.string h.t.bs)).setCell ⟨(w.heap.size+1),8,none⟩ (.slice a2 h.t.l.length c2)).setCell ⟨(w.heap.size+1),9,none⟩ (.int .i64 h.t.cp)).setCell ⟨(w.heap.size+1),10,none⟩ (.int .i64 h.t.fi)).setCell ⟨(w.heap.size+1),11,none⟩ (.bool h.t.en)).setCell ⟨(w.heap.size+1),12,none⟩ (.slice a4 h.ws.length c4)):=⟨_,rfl⟩
 have r2:Var 47 (W4) (w.heap.size+1) [.int .i64 h.g.ba,.string h.g.bs,.int .i64 h.g.cp,.int .i64 h.g.lm,.bool h.g.en,.bool h.g.dn,.int .i64 h.t.nx,.string h.t.bs,.slice a2 h.t.l.length c2,.int .i64 h.t.cp,.int .i64 h.t.fi,.bool h.t.en,.slice a4 h.ws.length c4]:=by rw [hW4.out];exact(((((((((((((q2.set 0 _).set 1 _).set 2 _).set 3 _).set 4 _).set 5 _).set 6 _).set 7 _).set 8 _).set 9 _).set 10 _).set 11 _).set 12 _)
 have rT:Tak.partE.Own 123 (W4) w.heap.size a2 c2 h.t.l:=by
  rw [hW4.out]
  iterate 13 (refine El.Own.setCell ?_ (fun x hx=>by have:=(own_win (by decide) qT q2.win x hx);exact this) _)
  exact qT
 have rW:letE.Own 75 (W4) w.heap.size a4 c4 h.ws:=by
  rw [hW4.out]
  iterate 13 (refine El.Own.setCell ?_ (fun x hx=>by have:=(own_win (by decide) qW q2.win x hx);exact this) _)
  exact qW
 have rB:Below w.heap.size w (W4):=by
  rw [hW4.out]
  iterate 13 (refine Below.setCell ?_ (by dsimp only;omega) _)
  exact qB
 have hW4o:=hW4.out
 clear hW4
 subst hW4o
 generalize (((((((((((((W3.setCell ⟨(w.heap.size+1),0,none⟩ (.int .i64 h.g.ba)).setCell ⟨(w.heap.size+1),1,none⟩ (.string h.g.bs)).setCell ⟨(w.heap.size+1),2,none⟩ (.int .i64 h.g.cp)).setCell ⟨(w.heap.size+1),3,none⟩ (.int .i64 h.g.lm)).setCell ⟨(w.heap.size+1),4,none⟩ (.bool h.g.en)).setCell ⟨(w.heap.size+1),5,none⟩ (.bool h.g.dn)).setCell ⟨(w.heap.size+1),6,none⟩ (.int .i64 h.t.nx)).setCell ⟨(w.heap.size+1),7,none⟩ (.string h.t.bs)).setCell ⟨(w.heap.size+1),8,none⟩ (.slice a2 h.t.l.length c2)).setCell ⟨(w.heap.size+1),9,none⟩ (.int .i64 h.t.cp)).setCell ⟨(w.heap.size+1),10,none⟩ (.int .i64 h.t.fi)).setCell ⟨(w.heap.size+1),11,none⟩ (.bool h.t.en)).setCell ⟨(w.heap.size+1),12,none⟩ (.slice a4 h.ws.length c4))=W4 at *
 obtain⟨s0,s1,s2,s3,s4,s5,s6,s7,s8,s9,s10,s11,s12⟩:=r2.c13
 refine bodyPost_ret (v:=h.v a2 c2 a4 c4) (by rw [res_one rfl];clear q1 q2 qT qW qB r2 rT rW rB e0 f0 y0 e1 f1 y1 e2 f2 y2 e3 f3 y3 e4 f4 y4 e5 f5 y5 e6 f6 y6 e7 f7 y7 e8 f8 y8 e9 f9 y9 e10 f10 y10 e11 f11 y11 e12 f12 y12;go_simp;done) rfl ⟨a2,c2,a4,c4,rfl,rT,rW,rB⟩
end Go.Proofs.YtfejobjgbadfjaaGreat.Hop
namespace Go.Proofs.YtfejobjgbadfjaaGreat.Hop
open Go.RowKit RowG
def zeroH:Hp:=⟨Giv.zeroG,Tak.zeroK,[]⟩
def Lay (T:TypeId)(pre post:List Value)(ow:Nat)(w:World)(B k:Nat)(h:Hp):Prop:=
 ∃aT cT aW cW,Win T pre post ow w k (h.c aT cT aW cW)∧Tak.partE.Own 123 w B aT cT h.t.l∧letE.Own 75 w B aW cW h.ws
structure KB (B k:Nat)(w w':World):Prop where
 os:w'.os=w.os
 tape:w'.tape=w.tape
 output:w'.output=w.output
 size:w.heap.size≤w'.heap.size
 block: ∀i,i<B→i≠k→w'.heap[i]? =w.heap[i]?
theorem KB.refl (B k:Nat)(w:World):KB B k w w:=⟨rfl,rfl,rfl,Nat.le_refl _,fun _ _ _=>rfl⟩
theorem KB.trans {B k:Nat}{a b d:World}(h:KB B k a b)(h':KB B k b d):KB B k a d:=⟨h'.os.trans h.os,h'.tape.trans h.tape,h'.output.trans h.output,Nat.le_trans h.size h'.size,fun i hi hk=>(h'.block i hi hk).trans (h.block i hi hk)⟩
theorem KB.ofKept {B k:Nat}{w w':World}(h:Draw.Kept k w w')(hB:B≤w.heap.size):KB B k w w':=⟨h.os,h.tape,h.output,h.size,fun i hi hk=>h.block i (by omega) hk⟩
theorem KB.ofKeep {B k:Nat}{r:Option Nat}{w w':World}(h:Keep k r w w')(hB:B≤w.heap.size)(hr: ∀i,r=some i→B≤i):KB B k w w':=⟨h.os,h.tape,h.output,h.size,fun i hi hk=>h.block i (by omega) hk (fun e=>by have:=hr i e.symm;omega)⟩
theorem KB.ofBelow {B k:Nat}{w w':World}(h:Below w.heap.size w w')(hB:B≤w.heap.size):KB B k w w':=⟨h.os,h.tape,h.output,h.size,fun i hi hk=>h.block i (by omega)⟩
theorem KB.below {B B' k:Nat}{w w':World}(h:KB B k w w')(h1:B'≤B)(h2:B'≤k):Below B' w w':=⟨h.os,h.tape,h.output,h.size,fun i hi=>h.block i (by omega) (by omega)⟩
theorem KB.var {B k i:Nat}{T:TypeId}{vs:List Value}{w w':World}(h:KB B k w w')(v:Var T w i vs)(h1:i<B)(h2:i≠k):Var T w' i vs:=v.same (h.block i h1 h2)
theorem blk_ge {α:Type}{E:El α}{T:TypeId}{w:World}{B:Nat}{a:Option Addr}{c:Nat}{l:List α}(o:E.Own T w B a c l): ∀i,blk a=some i→B≤i:=by
 intro i hi
 cases a with
 | none=>simp [blk]at hi
 | some x=>
  simp [blk]at hi
  have:=(o.lt x rfl).1
  omega
theorem Lay.later {T:TypeId}{pre post:List Value}{ow:Nat}{w w':World}{B k:Nat}{h:Hp}(l:Lay T pre post ow w B k h)(b:Below w.heap.size w w'):Lay T pre post ow w' B k h:=by
 obtain⟨aT,cT,aW,cW,v,o1,o2⟩:=l
 exact⟨aT,cT,aW,cW,v.later b,o1.later b,o2.later b⟩
theorem Lay.kept {T:TypeId}{pre post:List Value}{ow:Nat}{w w':World}{B k c:Nat}{h:Hp}(l:Lay T pre post ow w B k h)(b:Draw.Kept c w w')(h1:c<B)(h2:c≠k):Lay T pre post ow w' B k h:=by
 obtain⟨aT,cT,aW,cW,v,o1,o2⟩:=l
 exact⟨aT,cT,aW,cW,v.kept b (Ne.symm h2),o1.kept b (fun x hx=>by have:=(o1.lt x hx).1;omega),o2.kept b (fun x hx=>by have:=(o2.lt x hx).1;omega)⟩
theorem Lay.drew {T:TypeId}{pre post:List Value}{ow:Nat}{w:World}{B k:Nat}{h:Hp}(l:Lay T pre post ow w B k h):Lay T pre post ow w.drew B k h:=by
 obtain⟨aT,cT,aW,cW,v,o1,o2⟩:=l
 exact⟨aT,cT,aW,cW,v.drew,o1.drew,o2.drew⟩
theorem sendLay {T:TypeId}{pre post:List Value}{ow:Nat}(hT:T≠75)(hT2:T≠123)(k B:Nat)(h:Hp)(road p n:Int)(w:World)(hl:Lay T pre post ow w B k h)(hB:B≤w.heap.size)(hn:h.ws.length≤524288)(hg:h.g.ok=true):
  Calls Tryz.prog 86 #[.pointer (some ⟨k,ow,none⟩),.int .i64 road,.int .i64 p,.int .i64 n] w fun e w'=>e=.returned (.bool (sendH h road p n).2)∧Lay T pre post ow w' B k (sendH h road p n).1∧KB B k w w':=by
 obtain⟨aT,cT,aW,cW,v,o1,o2⟩:=hl
 refine(l7Send hT k B h aT cT aW cW road p n w v o2 hB hn hg).mono ?_
 rintro e w' ⟨a',c',rfl,v',o',k'⟩
 refine⟨rfl,⟨aT,cT,a',c',v',?_,o'⟩,KB.ofKeep k' hB (blk_ge o2)⟩
 have:(sendH h road p n).1.t=h.t:=by unfold sendH;split <;>simp [postH] <;>split <;>rfl
 rw [this]
 exact o1.keep k' (own_win hT2 o1 v) (own_two (by decide) o1 o2)
theorem tellLay {T:TypeId}{pre post:List Value}{ow:Nat}(hT:T≠75)(hT2:T≠123)(hT3:T≠44)(k B:Nat)(h:Hp)(road:Int)(done:Bool)(w:World)(hl:Lay T pre post ow w B k h)(hB:B≤w.heap.size)(hn:h.ws.length≤524288)(ht:h.t.ok=true):
  Calls Tryz.prog 87 #[.pointer (some ⟨k,ow,none⟩),.int .i64 road,.bool done] w fun e w'=>e=.returned (.bool (tellH h road done).2)∧Lay T pre post ow w' B k (tellH h road done).1∧KB B k w w':=by
 obtain⟨aT,cT,aW,cW,v,o1,o2⟩:=hl
 have hin:Tak.inT h.t.nx h.t.bs h.t.l h.t.cp:=by
  unfold Tak.Tk.ok Tak.takerB at ht
  simp only [Bool.and_eq_true,decide_eq_true_eq]at ht
  exact ht.1
 unfold Tak.inT at hin
 refine(l7Tell hT hT3 k B h aT cT aW cW road done w v o2 hB hn ⟨by omega,by omega⟩ (by omega) ⟨by omega,by omega⟩).mono ?_
 rintro e w' ⟨a',c',rfl,v',o',k'⟩
 refine⟨rfl,⟨aT,cT,a',c',v',?_,o'⟩,KB.ofKeep k' hB (blk_ge o2)⟩
 have:(tellH h road done).1.t=h.t:=by unfold tellH;simp [postH];split <;>rfl
 rw [this]
 exact o1.keep k' (own_win hT2 o1 v) (own_two (by decide) o1 o2)
end Go.Proofs.YtfejobjgbadfjaaGreat.Hop
namespace Go.Proofs.YtfejobjgbadfjaaGreat.Hop
open Go.RowKit RowG
def zeroL:Lt:=⟨false,0,0,⟨#[]⟩,false,0,false⟩
def outH (h:Hp)(k:Int):Hp×Lt×Bool:=if 0≤k then(match h.ws[k.toNat]? with
 | some x=>(⟨h.g,h.t,h.ws.take k.toNat++h.ws.drop (k.toNat+1)⟩,x,true)
 | none=>(h,zeroL,false))else(h,zeroL,false)
theorem outH_none {h:Hp}{k:Int}(hk:k<0∨(h.ws.length:Int)≤k):outH h k=(h,zeroL,false):=by
 unfold outH
 split
 ·rw [List.getElem?_eq_none (by omega)]
 ·rfl
theorem outH_some {h:Hp}{k:Nat}{x:Lt}(hx:h.ws[k]? =some x):outH h k=(⟨h.g,h.t,h.ws.take k++h.ws.drop (k+1)⟩,x,true):=by
 unfold outH
 rw [if_pos (by omega),Int.toNat_natCast,hx]
theorem l7OutL {T:TypeId}{pre post:List Value}{ow:Nat}(hT:T≠75)(k B:Nat)(h:Hp)(aT:Option Addr)(cT:Nat)(aW:Option Addr)(cW:Nat)(n:Int)(w:World)
  (hv:Win T pre post ow w k (h.c aT cT aW cW)) (ho:letE.Own 75 w B aW cW h.ws) (hB:B≤w.heap.size) (hl:h.ws.length≤524288):
  Calls Tryz.prog 90 #[.pointer (some ⟨k,ow,none⟩),.int .i64 n] w fun e w'=> ∃aW' cW',e=.returned (.tuple #[(outH h n).2.1.v,.bool (outH h n).2.2])∧Win T pre post ow w' k ((outH h n).1.c aT cT aW' cW')∧letE.Own 75 w' B aW' cW' (outH h n).1.ws∧Draw.Kept k w w'∧Locd w.heap.size aW aW':=by
 have hmix:=mix
 have v4:Var 75 (w.alloc (.cells #[.bool false,.int .i64 0,.int .i64 0,.string ⟨#[]⟩,.bool false,.int .i64 0,.bool false] 75)) w.heap.size [.bool false,.int .i64 0,.int .i64 0,.string ⟨#[]⟩,.bool false,.int .i64 0,.bool false]:=Var.new w _
 have b0:Below w.heap.size w (w.alloc (.cells #[.bool false,.int .i64 0,.int .i64 0,.string ⟨#[]⟩,.bool false,.int .i64 0,.bool false] 75)):=(Below.refl _ _).alloc (Nat.le_refl _) _
 have v0:=hv.later b0
 have o0:=ho.later b0
 have HK:Hid (k<w.heap.size):=hv.lt
 have hnone:(n<0∨(h.ws.length:Int)≤n)∨ ∃(j:Nat) (x:Lt),n=j∧h.ws[j]? =some x∧j<h.ws.length:=by
  by_cases q:n<0∨(h.ws.length:Int)≤n
  ·exact .inl q
  ·refine .inr ⟨n.toNat,h.ws[n.toNat]'(by omega),by omega,List.getElem?_eq_getElem _,by omega⟩
 rcases hnone with hno|⟨j,x,rfl,hx,hj⟩
 focus
  rw [outH_none hno]
  go_enter Tryz.func90,Tryz.ntmps90
  go_upto_region 1 with(fail)
  generalize w.alloc (.cells #[.bool false,.int .i64 0,.int .i64 0,.string ⟨#[]⟩,.bool false,.int .i64 0,.bool false] 75)=V at *
  have e12:=v0.cell (i:=12) rfl
  obtain⟨f0,f1,f2,f3,f4,f5,f6⟩:=v4.c7
  obtain⟨y0,y1,y2,y3,y4,y5,y6⟩:=v4.f7
  have r2:Var 75 ((((((((V.setCell ⟨w.heap.size,0,none⟩ (.bool false)).setCell ⟨w.heap.size,1,none⟩ (.int .i64 0)).setCell ⟨w.heap.size,2,none⟩ (.int .i64 0)).setCell ⟨w.heap.size,3,none⟩ (.string ⟨#[]⟩)).setCell ⟨w.heap.size,4,none⟩ (.bool false)).setCell ⟨w.heap.size,5,none⟩ (.int .i64 0)).setCell ⟨w.heap.size,6,none⟩ (.bool false))) w.heap.size [.bool false,.int .i64 0,.int .i64 0,.string ⟨#[]⟩,.bool false,.int .i64 0,.bool false]:=(((((((v4.set 0 _).set 1 _).set 2 _).set 3 _).set 4 _).set 5 _).set 6 _)
  have rv:Win T pre post ow ((((((((V.setCell ⟨w.heap.size,0,none⟩ (.bool false)).setCell ⟨w.heap.size,1,none⟩ (.int .i64 0)).setCell ⟨w.heap.size,2,none⟩ (.int .i64 0)).setCell ⟨w.heap.size,3,none⟩ (.string ⟨#[]⟩)).setCell ⟨w.heap.size,4,none⟩ (.bool false)).setCell ⟨w.heap.size,5,none⟩ (.int .i64 0)).setCell ⟨w.heap.size,6,none⟩ (.bool false))) k (h.c aT cT aW cW):=by
   iterate 7 (refine Win.other ?_ (by have:=HK.out;dsimp only;omega) _)
   exact v0
  have ro:letE.Own 75 ((((((((V.setCell ⟨w.heap.size,0,none⟩ (.bool false)).setCell ⟨w.heap.size,1,none⟩ (.int .i64 0)).setCell ⟨w.heap.size,2,none⟩ (.int .i64 0)).setCell ⟨w.heap.size,3,none⟩ (.string ⟨#[]⟩)).setCell ⟨w.heap.size,4,none⟩ (.bool false)).setCell ⟨w.heap.size,5,none⟩ (.int .i64 0)).setCell ⟨w.heap.size,6,none⟩ (.bool false))) B aW cW h.ws:=by
   iterate 7 (refine El.Own.setCell ?_ (fun y hy=>by have:=(ho.lt y hy).2;dsimp only;omega) _)
   exact o0
  have rB:Below w.heap.size w ((((((((V.setCell ⟨w.heap.size,0,none⟩ (.bool false)).setCell ⟨w.heap.size,1,none⟩ (.int .i64 0)).setCell ⟨w.heap.size,2,none⟩ (.int .i64 0)).setCell ⟨w.heap.size,3,none⟩ (.string ⟨#[]⟩)).setCell ⟨w.heap.size,4,none⟩ (.bool false)).setCell ⟨w.heap.size,5,none⟩ (.int .i64 0)).setCell ⟨w.heap.size,6,none⟩ (.bool false))):=by
   iterate 7 (refine Below.setCell ?_ (by dsimp only;omega) _)
   exact b0
  rcases hno with hno|hno
  all_goals
   first|(have hnl: ¬n<0:=by omega)|skip
   go_wp2_with fail
   generalize (((((((V.setCell ⟨w.heap.size,0,none⟩ (.bool false)).setCell ⟨w.heap.size,1,none⟩ (.int .i64 0)).setCell ⟨w.heap.size,2,none⟩ (.int .i64 0)).setCell ⟨w.heap.size,3,none⟩ (.string ⟨#[]⟩)).setCell ⟨w.heap.size,4,none⟩ (.bool false)).setCell ⟨w.heap.size,5,none⟩ (.int .i64 0)).setCell ⟨w.heap.size,6,none⟩ (.bool false))=W4 at *
   obtain⟨s0,s1,s2,s3,s4,s5,s6⟩:=r2.c7
   refine bodyPost_ret (v:=.tuple #[.agg #[.bool false,.int .i64 0,.int .i64 0,.string ⟨#[]⟩,.bool false,.int .i64 0,.bool false],.bool false]) (by rw [Tak.res_cell_tmp rfl];clear r2 rv ro rB v4 v0 f0 y0 f1 y1 f2 y2 f3 y3 f4 y4 f5 y5 f6 y6;go_simp;done) rfl ?_
   first|exact⟨aW,cW,rfl,rv,ro,Draw.Kept.ofBelow rB (Nat.le_refl _),Locd.refl _ _⟩|exact⟨rfl,aW,cW,rv,ro,Draw.Kept.ofBelow rB (Nat.le_refl _),Locd.refl _ _⟩
 focus
  rw [outH_some hx]
  dsimp only
  go_enter Tryz.func90,Tryz.ntmps90
  go_upto_region 1 with(fail)
  generalize w.alloc (.cells #[.bool false,.int .i64 0,.int .i64 0,.string ⟨#[]⟩,.bool false,.int .i64 0,.bool false] 75)=V at *
  have e12:=v0.cell (i:=12) rfl
  have j0: ¬(j:Int)<0:=by omega
  have j0n:(0:Int)≤(j:Int):=by omega
  have j1: ¬(h.ws.length:Int)≤(j:Int):=by omega
  have j1n:(j:Int)<(h.ws.length:Int):=by omega
  have hL:=o0.lies
  rcases hL with hL1|⟨b,off,ha',hL1⟩
  ·simp [hL1]at hj
  have c0:V.cell? ⟨b,off+j*7,none⟩=some (.bool x.bk):=El.Lies.cell hL1 hx (j:=0) rfl
  have c1:V.cell? ⟨b,off+j*7+1,none⟩=some (.int .i64 x.rd):=El.Lies.cell hL1 hx (j:=1) rfl
  have c2:V.cell? ⟨b,off+j*7+2,none⟩=some (.int .i64 x.pl):=El.Lies.cell hL1 hx (j:=2) rfl
  have c3:V.cell? ⟨b,off+j*7+3,none⟩=some (.string x.bs):=El.Lies.cell hL1 hx (j:=3) rfl
  have c4:V.cell? ⟨b,off+j*7+4,none⟩=some (.bool x.en):=El.Lies.cell hL1 hx (j:=4) rfl
  have c5:V.cell? ⟨b,off+j*7+5,none⟩=some (.int .i64 x.lm):=El.Lies.cell hL1 hx (j:=5) rfl
  have c6:V.cell? ⟨b,off+j*7+6,none⟩=some (.bool x.dn):=El.Lies.cell hL1 hx (j:=6) rfl
  have HA:Hid (aW=some ⟨b,off,none⟩):=ha'
  subst ha'
  obtain⟨V2,hV2⟩: ∃z,Hid (z=V.alloc (.cells #[.bool x.bk,.int .i64 x.rd,.int .i64 x.pl,.string x.bs,.bool x.en,.int .i64 x.lm,.bool x.dn] 75)):=⟨_,rfl⟩
  have v6:Var 75 V2 V.heap.size [.bool x.bk,.int .i64 x.rd,.int .i64 x.pl,.string x.bs,.bool x.en,.int .i64 x.lm,.bool x.dn]:=by rw [hV2.out];exact Var.new V _
  have bA:Below V.heap.size V V2:=by rw [hV2.out];exact(Below.refl _ _).alloc (Nat.le_refl _) _
  have hk6k:V.heap.size≠k:=by have:=v0.lt;omega
  have v7:=v0.later bA
  have o7:=o0.later bA
  have hkw: ∀y,some (⟨b,off,none⟩:Addr)=some y→y.block≠k:=own_win hT o7 v7
  have v4b:=v4.later bA
  have B7:=b0.trans (bA.mono b0.size)
  clear bA
  go_upto_region 4 with(fail)
  rw [←hV2.out]
  clear hV2
  generalize V.heap.size=k6 at *
  clear c0 c1 c2 c3 c4 c5 c6 e12 hL1
  have e12:=v7.cell (i:=12) rfl
  have hcap:=o7.cap
  have j2:(j:Int)≤(cW:Int):=by omega
  have j3:(j:Int)+1≤(h.ws.length:Int):=by omega
  have j4:(0:Int)≤(j:Int)+1:=by omega
  have j5:(h.ws.length:Int)≤(cW:Int):=by omega
  have ew:IntKind.i64.wrap ((j:Int)+1)=(j:Int)+1:=by rw [IntKind.wrap_i64];omega
  clear v0 o0 v4 b0
  have lW:=o7.lies
  have l1:letE.Lies (V2.drew.alloc (.cells #[] 75)) (some ⟨b,off,none⟩) (h.ws.take j):=(lW.drew.alloc (.cells #[] 75)).take j
  have l2:letE.Lies V2 (if cW=j+1 then some ⟨b,off,none⟩else some ⟨b,off+(j+1)*7,none⟩) (h.ws.drop (j+1)):=by
   have q:=lW.slice (j+1) h.ws.length cW (by omega) (Nat.le_refl _) hcap
   rw [List.take_of_length_le (by simp)]at q
   exact q
  have hbl:b<V2.heap.size:=(o7.lt _ rfl).2
  have oA:=El.Own.made (E:=letE) (T:=75) V2.drew
  have hzA:([]:List Lt).length+(h.ws.take j).length≤4194304:=by simp;omega
  have hzB:(h.ws.take j).length+(h.ws.drop (j+1)).length≤4194304:=by simp;omega
  have HT1:Hid (j=(h.ws.take j).length):=by show _=_;simp;omega
  have HT2:Hid (h.ws.length-(j+1)=(h.ws.drop (j+1)).length):=by show _=_;simp
  have HBA:Hid (V2.heap.size≤(V2.drew.alloc (.cells #[] 75)).heap.size):=by show _≤_;simp
  have HSB:Hid (∀y,(if cW=j+1 then some (⟨b,off,none⟩:Addr)else some ⟨b,off+(j+1)*7,none⟩)=some y→y.block=b):=by
   intro y hy
   split at hy <;>cases hy <;>rfl
  have hkl:k<V2.heap.size:=v7.lt
  have vA:=v7.drew.alloc (.cells #[] 75)
  have v4A:=v4b.drew.alloc (.cells #[] 75)
  have v6A:=v6.drew.alloc (.cells #[] 75)
  have l2A:=l2.drew.alloc (.cells #[] 75)
  have K0:Draw.Kept k w (V2.drew.alloc (.cells #[] 75)):=(Draw.Kept.ofBelow B7 (Nat.le_refl _)).drew.alloc _
  have hk6:k6<V2.heap.size:=v6.lt
  have hk4:w.heap.size<V2.heap.size:=v4b.lt
  clear lW
  go_wp2_with fail
  refine Draw.wp_region_Y (S:=(fun w'=>w'.cell? ⟨k,ow+12,none⟩=some (.slice (some ⟨b,off,none⟩) h.ws.length cW))) 19 (by kernel_rfl) ?_ (fun hHeld=>?_)
  focus ((try dsimp only) <;>(first|with_reducible exact hHeld|with_reducible exact hS2|exact e12|exact alloc_cell hHeld _))
  refine Draw.wpAnyY_takeT (i:=0) (v:=?_) rfl (by kernel_rfl) (by kernel_rfl) (by kernel_rfl) (fun _ _ _ h=>h) (Or.inl ⟨by rfl,?_⟩) ?_
  rotate_left 1
  focus (intro s h;(try dsimp only at h);go_simp;(try apply And.intro) <;>with_reducible rfl)
  (try simp only [Act.put,Draw.lays])
  refine Draw.wpAnyY_takeT (i:=2) (v:=?_) rfl (by kernel_rfl) (by kernel_rfl) (by kernel_rfl) (fun _ _ _ h=>h) (Or.inl ⟨by rfl,?_⟩) ?_
  rotate_left 1
  focus (intro s h;(try dsimp only at h);go_simp;(try apply And.intro) <;>with_reducible rfl)
  (try simp only [Act.put,Draw.lays])
  refine Draw.wpAnyY_takeT (i:=3) (v:=?_) rfl (by kernel_rfl) (by kernel_rfl) (by kernel_rfl) (fun _ _ _ h=>h) (Or.inl ⟨by rfl,?_⟩) ?_
  rotate_left 1
  focus (intro s h;(try dsimp only at h);go_simp;(try apply And.intro) <;>with_reducible rfl)
  (try simp only [Act.put,Draw.lays])
  refine Draw.wpAnyY_takeT (i:=4) (v:=?_) rfl (by kernel_rfl) (by kernel_rfl) (by kernel_rfl) (fun _ _ _ h=>h) (Or.inl ⟨by rfl,?_⟩) ?_
  rotate_left 1
  focus (intro s h;(try dsimp only at h);go_simp;(try apply And.intro) <;>with_reducible rfl)
  (try simp only [Act.put,Draw.lays])
  refine Draw.wpAnyY_takeP (ps:=[16,8,7]) (i:=5) (v:=?_) rfl (by kernel_rfl) (by kernel_rfl) (by kernel_rfl) (by kernel_rfl) (by kernel_rfl) (fun _ _ _ h=>h) (Or.inl ⟨by rfl,?_⟩) (by assumption) ?_
  rotate_left 1
  focus (intro s h;(try dsimp only at h);go_simp;(try apply And.intro) <;>with_reducible rfl)
  (try simp only [Act.put,Draw.lays])
  refine Draw.wpAnyY_takeT (i:=6) (v:=?_) rfl (by kernel_rfl) (by kernel_rfl) (by kernel_rfl) (fun _ _ _ h=>h) (Or.inl ⟨by rfl,?_⟩) ?_
  rotate_left 1
  focus (intro s h;(try dsimp only at h);go_simp;(try apply And.intro) <;>with_reducible rfl)
  (try simp only [Act.put,Draw.lays])
  refine Draw.wpAnyY_takeT (i:=7) (v:=?_) rfl (by kernel_rfl) (by kernel_rfl) (by kernel_rfl) (fun _ _ _ h=>h) (Or.inl ⟨by rfl,?_⟩) ?_
  rotate_left 1
  focus (intro s h;(try dsimp only at h);go_simp;(try apply And.intro) <;>with_reducible rfl)
  (try simp only [Act.put,Draw.lays])
  refine Draw.wpAnyY_takeT (i:=9) (v:=?_) rfl (by kernel_rfl) (by kernel_rfl) (by kernel_rfl) (fun _ _ _ h=>h) (Or.inl ⟨by rfl,?_⟩) ?_
  rotate_left 1
  focus (intro s h;(try dsimp only at h);go_simp;(try apply And.intro) <;>with_reducible rfl)
  (try simp only [Act.put,Draw.lays])
  refine Draw.wpAnyY_takeT (i:=10) (v:=?_) rfl (by kernel_rfl) (by kernel_rfl) (by kernel_rfl) (fun _ _ _ h=>h) (Or.inl ⟨by rfl,?_⟩) ?_
  rotate_left 1
  focus (intro s h;(try dsimp only at h);go_simp;(try apply And.intro) <;>with_reducible rfl)
  (try simp only [Act.put,Draw.lays])
  refine Draw.wpAnyY_takeT (i:=11) (v:=?_) rfl (by kernel_rfl) (by kernel_rfl) (by kernel_rfl) (fun _ _ _ h=>h) (Or.inl ⟨by rfl,?_⟩) ?_
  rotate_left 1
  focus (intro s h;(try dsimp only at h);go_simp;(try apply And.intro) <;>with_reducible rfl)
  (try simp only [Act.put,Draw.lays])
  refine Draw.wpAnyY_takeP (ps:=[16,15]) (i:=12) (v:=?_) rfl (by kernel_rfl) (by kernel_rfl) (by kernel_rfl) (by kernel_rfl) (by kernel_rfl) (fun _ _ _ h=>h) (Or.inl ⟨by rfl,?_⟩) (by assumption) ?_
  rotate_left 1
  focus (intro s h;(try dsimp only at h);go_simp;(try apply And.intro) <;>with_reducible rfl)
  (try simp only [Act.put,Draw.lays])
  refine Draw.wpAnyY_takeT (i:=13) (v:=?_) rfl (by kernel_rfl) (by kernel_rfl) (by kernel_rfl) (fun _ _ _ h=>h) (Or.inl ⟨by rfl,?_⟩) ?_
  rotate_left 1
  focus (intro s h;(try dsimp only at h);go_simp;(try apply And.intro) <;>with_reducible rfl)
  (try simp only [Act.put,Draw.lays])
  refine Draw.wpAnyY_takeT (i:=14) (v:=?_) rfl (by kernel_rfl) (by kernel_rfl) (by kernel_rfl) (fun _ _ _ h=>h) (Or.inl ⟨by rfl,?_⟩) ?_
  rotate_left 1
  focus (intro s h;(try dsimp only at h);go_simp;(try apply And.intro) <;>with_reducible rfl)
  (try simp only [Act.put,Draw.lays])
  refine Draw.wpAnyY_takeT (i:=15) (v:=?_) rfl (by kernel_rfl) (by kernel_rfl) (by kernel_rfl) (fun _ _ _ h=>h) (Or.inl ⟨by rfl,?_⟩) ?_
  rotate_left 1
  focus (intro s h;(try dsimp only at h);go_simp;(try apply And.intro) <;>with_reducible rfl)
  (try simp only [Act.put,Draw.lays])
  refine Draw.wpAnyY_ready (rs:=[1]) (by kernel_rfl) (by simp) ?_
  refine Draw.AllReadyY.cons rfl (fun K hK=>?_) Draw.AllReadyY.nil
  go_simp
  refine hK.out _ _ ?_ (fun hHeld2=>?_)
  focus (intro _ _;(try dsimp only) <;>(first|with_reducible exact hHeld|with_reducible exact hS2|exact e12|exact alloc_cell hHeld _))
  clear hK K
  replace hHeld:=hHeld2 (by decide) hHeld
  clear hHeld2
  (try simp only [Act.put,Draw.lays])
  refine Draw.wpAnyY_ready (rs:=[8]) (by kernel_rfl) (by simp) ?_
  refine Draw.AllReadyY.cons rfl (fun K hK=>?_) Draw.AllReadyY.nil
  (refine step_app typ (by decide) (by rfl) _ _ (by rfl) V2.heap.size (some ⟨V2.heap.size,0,none⟩) 0 0 [] (h.ws.take j) rfl (by rfl) oA HBA.out (some ⟨b,off,none⟩) _ _ HT1.out (by rfl) l1 (by simp) hzA ?_;intro a2 c2 w2 o2 g2;rw [List.nil_append]at o2;rw [Nat.zero_add];have hS2:=grown_cell g2 hHeld (by simp [blk];omega);have v2:=vA.grown g2 (by intro g hg;simp [blk]at hg;omega);have v42:=v4A.grown g2 (by intro g hg;simp [blk]at hg;omega);have v62:=v6A.grown g2 (by intro g hg;simp [blk]at hg;omega);have l22:=l2A.grown g2 (by intro y hy;rw [HSB.out y hy];simp [blk];omega);have K2:=kept_grown K0 g2 (by intro g hg;simp [blk]at hg;have:=B7.size;omega);have z2:V2.heap.size≤w2.heap.size:=Nat.le_trans HBA.out g2.size)
  refine hK.out _ _ ?_ (fun hHeld2=>?_)
  focus (intro _ _;(try dsimp only) <;>(first|with_reducible exact hHeld|with_reducible exact hS2|exact e12|exact alloc_cell hHeld _))
  clear hK K
  replace hHeld:=hHeld2 (by decide) hHeld
  clear hHeld2
  (try simp only [Act.put,Draw.lays])
  refine Draw.wpAnyY_ready (rs:=[16]) (by kernel_rfl) (by simp) ?_
  refine Draw.AllReadyY.cons rfl (fun K hK=>?_) Draw.AllReadyY.nil
  (refine step_app typ (by decide) (by rfl) _ _ (by rfl) V2.heap.size a2 c2 j (h.ws.take j) (h.ws.drop (j+1)) HT1.out (by rfl) o2 z2 _ _ _ HT2.out (by rfl) l22 (by intro q;split at q <;>cases q) hzB ?_;intro a3 c3 w3 o3 g3;have hS2:=grown_cell g3 hHeld (o2.blk_ne hkl);have v3:=v2.grown g3 (by intro g hg e;exact o2.blk_ne hkl (by rw [e,hg]));have v43:=v42.grown g3 (by intro g hg e;exact o2.blk_ne hk4 (by rw [e,hg]));have v63:=v62.grown g3 (by intro g hg e;exact o2.blk_ne hk6 (by rw [e,hg]));have K3:=kept_grown K2 g3 (by intro g hg;exact .inl (Nat.le_trans B7.size (o2.blk_le hg)));have z12:=v3.cell (i:=12) rfl;have y12:=v3.free 12)
  refine hK.out _ _ ?_ (fun hHeld2=>?_)
  focus (intro _ _;(try dsimp only) <;>(first|with_reducible exact hHeld|with_reducible exact hS2|exact e12|exact alloc_cell hHeld _))
  clear hK K
  replace hHeld:=hHeld2 (by decide) hHeld
  clear hHeld2
  (try simp only [Act.put,Draw.lays])
  refine Draw.wpAnyY_takeT (i:=17) (v:=?_) rfl (by kernel_rfl) (by kernel_rfl) (by kernel_rfl) (fun _ _ _ h=>h) (Or.inl ⟨by rfl,?_⟩) ?_
  rotate_left 1
  focus (intro s h;(try dsimp only at h);go_simp;(try apply And.intro) <;>with_reducible rfl)
  (try simp only [Act.put,Draw.lays])
  refine Draw.wpAnyY_takeT (i:=18) (v:=?_) rfl (by kernel_rfl) (by kernel_rfl) (by kernel_rfl) (fun _ _ _ h=>h) (Or.inl ⟨by rfl,?_⟩) ?_
  rotate_left 1
  focus (intro s h;(try dsimp only at h);go_simp;(try apply And.intro) <;>with_reducible rfl)
  (try simp only [Act.put,Draw.lays])
  refine Draw.wpAnyY_ready (rs:=[19]) (by kernel_rfl) (by simp) ?_
  refine Draw.AllReadyY.cons rfl (fun K hK=>?_) Draw.AllReadyY.nil
  go_simp
  refine hK.out _ _ (fun h=>absurd rfl h) (fun hHeld2=>?_)
  clear hK K hHeld hHeld2
  (try simp only [Act.put,Draw.lays])
  refine Draw.wpAnyY_done (by kernel_rfl) ?_ _
  generalize (if cW=j+1 then some (⟨b,off,none⟩:Addr)else some ⟨b,off+(j+1)*7,none⟩)=sp
  have v8:=v3.set 12 (.slice a3 (j+(h.ws.length-(j+1))) c3)
  have K8:=K3.setCell (p:=⟨k,ow+12,none⟩) (.inl rfl) (.slice a3 (j+(h.ws.length-(j+1))) c3)
  have v68:=v63.other (p:=⟨k,ow+12,none⟩) (by dsimp only;exact hk6k) (.slice a3 (j+(h.ws.length-(j+1))) c3)
  have v48:=v43.other (p:=⟨k,ow+12,none⟩) (by have:=HK.out;dsimp only;omega) (.slice a3 (j+(h.ws.length-(j+1))) c3)
  have o8:=(o3.mono (B:=B) (by have:=B7.size;omega)).setCell (p:=⟨k,ow+12,none⟩) (fun y e=>own_win hT o3 v3 y e) (.slice a3 (j+(h.ws.length-(j+1))) c3)
  have hkb: ∀y,a3=some y→V2.heap.size≤y.block:=fun y e=>(o3.lt y e).1
  clear v3 K3 v63 v43 o3 z12 y12 v2 v42 v62 l22 K2 o2
  generalize w3.setCell ⟨k,ow+12,none⟩ (.slice a3 (j+(h.ws.length-(j+1))) c3)=W5 at *
  obtain⟨d0,d1,d2,d3,d4,d5,d6⟩:=v68.c7
  obtain⟨f0,f1,f2,f3,f4,f5,f6⟩:=v48.c7
  obtain⟨y0,y1,y2,y3,y4,y5,y6⟩:=v48.f7
  clear l1 l2 l2A vA v4A v6A K0 oA hzA hzB o7 hkw v4b e12 v7 v6 hx
  go_wp2_with fail
  obtain⟨W6,hW6⟩: ∃z,Hid (z=((((((W5.setCell ⟨w.heap.size,0,none⟩ (.bool x.bk)).setCell ⟨w.heap.size,1,none⟩ (.int .i64 x.rd)).setCell ⟨w.heap.size,2,none⟩ (.int .i64 x.pl)).setCell ⟨w.heap.size,3,none⟩ (.string x.bs)).setCell ⟨w.heap.size,4,none⟩ (.bool x.en)).setCell ⟨w.heap.size,5,none⟩ (.int .i64 x.lm)).setCell ⟨w.heap.size,6,none⟩ (.bool x.dn)):=⟨_,rfl⟩
  have r4:Var 75 (W6) w.heap.size [.bool x.bk,.int .i64 x.rd,.int .i64 x.pl,.string x.bs,.bool x.en,.int .i64 x.lm,.bool x.dn]:=by rw [hW6.out];exact(((((((v48.set 0 _).set 1 _).set 2 _).set 3 _).set 4 _).set 5 _).set 6 _)
  have rv:Win T pre post ow (W6) k [.int .i64 h.g.ba,.string h.g.bs,.int .i64 h.g.cp,.int .i64 h.g.lm,.bool h.g.en,.bool h.g.dn,.int .i64 h.t.nx,.string h.t.bs,.slice aT h.t.l.length cT,.int .i64 h.t.cp,.int .i64 h.t.fi,.bool h.t.en,.slice a3 (j+(h.ws.length-(j+1))) c3]:=by
   rw [hW6.out]
   iterate 7 (refine Win.other ?_ (by have:=HK.out;dsimp only;omega) _)
   exact v8
  have ro:letE.Own 75 (W6) B a3 c3 (h.ws.take j++h.ws.drop (j+1)):=by
   rw [hW6.out]
   iterate 7 (refine El.Own.setCell ?_ (fun y hy=>by have:=hkb y hy;dsimp only;omega) _)
   exact o8
  have rK:Draw.Kept k w (W6):=by
   rw [hW6.out]
   iterate 7 (refine Draw.Kept.setCell ?_ (.inr (Nat.le_refl _)) _)
   exact K8
  have hW6o:=hW6.out
  clear hW6
  subst hW6o
  generalize (((((((W5.setCell ⟨w.heap.size,0,none⟩ (.bool x.bk)).setCell ⟨w.heap.size,1,none⟩ (.int .i64 x.rd)).setCell ⟨w.heap.size,2,none⟩ (.int .i64 x.pl)).setCell ⟨w.heap.size,3,none⟩ (.string x.bs)).setCell ⟨w.heap.size,4,none⟩ (.bool x.en)).setCell ⟨w.heap.size,5,none⟩ (.int .i64 x.lm)).setCell ⟨w.heap.size,6,none⟩ (.bool x.dn))=W6 at *
  obtain⟨s0,s1,s2,s3,s4,s5,s6⟩:=r4.c7
  have hlen:(h.ws.take j++h.ws.drop (j+1)).length=j+(h.ws.length-(j+1)):=by simp;omega
  refine bodyPost_ret (v:=.tuple #[.agg #[.bool x.bk,.int .i64 x.rd,.int .i64 x.pl,.string x.bs,.bool x.en,.int .i64 x.lm,.bool x.dn],.bool true]) (by rw [Tak.res_cell_tmp rfl];clear r4 rv ro rK v48 v68 v8 o8 d0 f0 y0 d1 f1 y1 d2 f2 y2 d3 f3 y3 d4 f4 y4 d5 f5 y5 d6 f6 y6;go_simp;done) rfl ?_
  first|exact⟨a3,c3,rfl,(by simp only [Hp.c,hlen];exact rv),ro,rK,Locd.new (fun y hy=>by have:=hkb y hy;omega)⟩|exact⟨rfl,a3,c3,(by simp only [Hp.c,hlen];exact rv),ro,rK,Locd.new (fun y hy=>by have:=hkb y hy;omega)⟩
theorem l7Out {T:TypeId}{pre post:List Value}{ow:Nat}(hT:T≠75)(k B:Nat)(h:Hp)(aT:Option Addr)(cT:Nat)(aW:Option Addr)(cW:Nat)(n:Int)(w:World)
  (hv:Win T pre post ow w k (h.c aT cT aW cW)) (ho:letE.Own 75 w B aW cW h.ws) (hB:B≤w.heap.size) (hl:h.ws.length≤524288):
  Calls Tryz.prog 90 #[.pointer (some ⟨k,ow,none⟩),.int .i64 n] w fun e w'=> ∃aW' cW',e=.returned (.tuple #[(outH h n).2.1.v,.bool (outH h n).2.2])∧Win T pre post ow w' k ((outH h n).1.c aT cT aW' cW')∧letE.Own 75 w' B aW' cW' (outH h n).1.ws∧Draw.Kept k w w':=
 (l7OutL hT k B h aT cT aW cW n w hv ho hB hl).mono fun e w' ⟨a,c,h1,h2,h3,h4,_⟩=>⟨a,c,h1,h2,h3,h4⟩
end Go.Proofs.YtfejobjgbadfjaaGreat.Hop
