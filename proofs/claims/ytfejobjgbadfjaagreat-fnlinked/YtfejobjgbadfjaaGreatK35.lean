/- Contracts of this seat's functions, and their mathematics (DrawQ). -/
import Derived.Test.YtfejobjgbadfjaaGreatK13
import Derived.Test.YtfejobjgbadfjaaGreatK29
import Derived.Test.YtfejobjgbadfjaaGreatK8
import Derived.Test.YtfejobjgbadfjaaGreatK30
set_option linter.unusedVariables false
set_option linter.unusedSimpArgs false
set_option maxRecDepth 10000
set_option maxHeartbeats 16000000
namespace Go.Proofs.YtfejobjgbadfjaaGreat.Hop
open Go.RowKit RowG
structure St (c k3:Nat)(w wr:World)(h:Hp):Prop where
 ok:hopB h=true
 lay:Lay 47 [] [] 0 wr (k3+1) k3 h
 v2:Var 47 wr w.heap.size [.int .i64 0,.string ⟨#[]⟩,.int .i64 0,.int .i64 0,.bool false,.bool false,.int .i64 0,.string ⟨#[]⟩,.slice none 0 0,.int .i64 0,.int .i64 0,.bool false,.slice none 0 0]
 cu:Draw.Cur wr c
 K:Draw.Kept c w wr
 h1:c<w.heap.size
 h2:w.heap.size<k3
theorem Lay.lt {T:TypeId}{pre post:List Value}{ow:Nat}{w:World}{B k:Nat}{h:Hp}(l:Lay T pre post ow w B k h):k<w.heap.size:=by
 obtain⟨_,_,_,_,v,_⟩:=l
 exact v.lt
theorem St.drawn {c k3:Nat}{w wr wa:World}{h:Hp}(s:St c k3 w wr h)(cua:Draw.Cur wa c)(ka:Draw.Kept c wr wa):St c k3 w wa h:=
 ⟨s.ok,s.lay.kept ka (by have:=s.h1;have:=s.h2;omega) (by have:=s.h1;have:=s.h2;omega),s.v2.kept ka (by have:=s.h1;omega),cua,s.K.trans ka,s.h1,s.h2⟩
theorem St.later {c k3:Nat}{w wr wa:World}{h:Hp}(s:St c k3 w wr h)(b:Below wr.heap.size wr wa):St c k3 w wa h:=
 ⟨s.ok,s.lay.later b,s.v2.later b,s.cu.below b (Nat.le_refl _),s.K.trans (Draw.Kept.ofBelow b (Nat.le_refl _)),s.h1,s.h2⟩
theorem St.drew {c k3:Nat}{w wr:World}{h:Hp}(s:St c k3 w wr h):St c k3 w wr.drew h:=⟨s.ok,s.lay.drew,s.v2.drew,s.cu.drew,s.K.drew,s.h1,s.h2⟩
theorem St.done {c k3:Nat}{w wr wa:World}{h h':Hp}(s:St c k3 w wr h)(ok:hopB h'=true)(l:Lay 47 [] [] 0 wa (k3+1) k3 h')(kb:KB (k3+1) k3 wr wa):St c k3 w wa h':=
 ⟨ok,l,kb.var s.v2 (by have:=s.h2;omega) (by have:=s.h2;omega),s.cu.upto (fun i hi=>kb.block i (by have:=s.h1;have:=s.h2;omega) (by have:=s.h1;have:=s.h2;omega)),
  ⟨kb.os.trans s.K.os,kb.tape.trans s.K.tape,kb.output.trans s.K.output,Nat.le_trans s.K.size kb.size,fun i hi hc=>(kb.block i (by have:=s.h2;omega) (by have:=s.h2;omega)).trans (s.K.block i hi hc)⟩,s.h1,s.h2⟩
theorem St.giver {c k3:Nat}{w wr wa:World}{h:Hp}{g:Giv.Gv}{aT aW:Option Addr}{cT cW:Nat}(s:St c k3 w wr h)(hv:Win 47 [] [] 0 wr k3 (h.c aT cT aW cW))(o1:Tak.partE.Own 123 wr (k3+1) aT cT h.t.l)(o2:letE.Own 75 wr (k3+1) aW cW h.ws)(hg:g.ok=true)(k:Draw.Kept k3 wr wa)
  (v:Win 47 [] [] 0 wa k3 (Hp.c ⟨g,h.t,h.ws⟩ aT cT aW cW)):St c k3 w wa ⟨g,h.t,h.ws⟩:=
 s.done (giver_ok s.ok hg) ⟨aT,cT,aW,cW,v,o1.kept k (own_win (by decide) o1 hv),o2.kept k (own_win (by decide) o2 hv)⟩ (KB.ofKept k (by have:=s.lay.lt;omega))
theorem St.giverW {c k3:Nat}{w wr wa:World}{h:Hp}{g:Giv.Gv}{aT aW:Option Addr}{cT cW:Nat}(s:St c k3 w wr h)(hv:Win 47 [] [] 0 wr k3 (h.c aT cT aW cW))(o1:Tak.partE.Own 123 wr (k3+1) aT cT h.t.l)(o2:letE.Own 75 wr (k3+1) aW cW h.ws)(hg:g.ok=true)(k:Draw.Kept k3 wr wa)
  (v:Win 47 [] ([.int .i64 h.t.nx,.string h.t.bs,.slice aT h.t.l.length cT,.int .i64 h.t.cp,.int .i64 h.t.fi,.bool h.t.en,.slice aW h.ws.length cW]++[]) 0 wa k3 g.c):St c k3 w wa ⟨g,h.t,h.ws⟩:=
 s.giver hv o1 o2 hg k (Win.unfst (b:=g.c) (c:=[.int .i64 h.t.nx,.string h.t.bs,.slice aT h.t.l.length cT,.int .i64 h.t.cp,.int .i64 h.t.fi,.bool h.t.en,.slice aW h.ws.length cW]) v)
theorem l7Draw (c:Nat)(w:World)(hc:Draw.Cur w c):
  Calls Tryz.prog 72 #[.pointer (some ⟨c,0,none⟩)] w fun e w'=> ∃(h:Hp) (aT:Option Addr) (cT:Nat) (aW:Option Addr) (cW:Nat),hopB h=true∧e=.returned (h.v aT cT aW cW)∧Tak.partE.Own 123 w' w.heap.size aT cT h.t.l∧letE.Own 75 w' w.heap.size aW cW h.ws∧Draw.Cur w' c∧Draw.Kept c w w':=by
 have hmix:=mix
 have hcl:=hc.lt
 have v2:Var 47 (w.alloc (.cells #[.int .i64 0,.string ⟨#[]⟩,.int .i64 0,.int .i64 0,.bool false,.bool false,.int .i64 0,.string ⟨#[]⟩,.slice none 0 0,.int .i64 0,.int .i64 0,.bool false,.slice none 0 0] 47)) w.heap.size [.int .i64 0,.string ⟨#[]⟩,.int .i64 0,.int .i64 0,.bool false,.bool false,.int .i64 0,.string ⟨#[]⟩,.slice none 0 0,.int .i64 0,.int .i64 0,.bool false,.slice none 0 0]:=Var.new w _
 have K0:Draw.Kept c w (w.alloc (.cells #[.int .i64 0,.string ⟨#[]⟩,.int .i64 0,.int .i64 0,.bool false,.bool false,.int .i64 0,.string ⟨#[]⟩,.slice none 0 0,.int .i64 0,.int .i64 0,.bool false,.slice none 0 0] 47)):=(Draw.Kept.refl _ _).alloc _
 have cu0:=hc.alloc (.cells #[.int .i64 0,.string ⟨#[]⟩,.int .i64 0,.int .i64 0,.bool false,.bool false,.int .i64 0,.string ⟨#[]⟩,.slice none 0 0,.int .i64 0,.int .i64 0,.bool false,.slice none 0 0] 47)
 go_enter Tryz.func72,Tryz.ntmps72
 go_upto_region 1 with(fail)
 generalize w.alloc (.cells #[.int .i64 0,.string ⟨#[]⟩,.int .i64 0,.int .i64 0,.bool false,.bool false,.int .i64 0,.string ⟨#[]⟩,.slice none 0 0,.int .i64 0,.int .i64 0,.bool false,.slice none 0 0] 47)=V at *
 have hVl:w.heap.size<V.heap.size:=v2.lt
 refine RegJ.wp_region_J (W:=fun d wr=>Var 47 wr w.heap.size [.int .i64 0,.string ⟨#[]⟩,.int .i64 0,.int .i64 0,.bool false,.bool false,.int .i64 0,.string ⟨#[]⟩,.slice none 0 0,.int .i64 0,.int .i64 0,.bool false,.slice none 0 0]∧Draw.Cur wr c∧Draw.Kept c w wr∧w.heap.size<wr.heap.size) (RegJ.Tell (w.heap.size) [.row 2 ([6,20,40].map (Value.int .i64)),.eq (.pointer (some ⟨c,0,none⟩)),.int 0 2,.elem 2 ([6,20,40].map (Value.int .i64)),.sat (fun v=> ∃y:Int,v=.int .i64 y∧Tak.capB y=true),.row 2 ([5,12,40].map (Value.int .i64)),.eq (.pointer (some ⟨c,0,none⟩)),.int 0 2,.elem 2 ([5,12,40].map (Value.int .i64)),.sat (fun v=> ∃y:Int,v=.int .i64 y∧Tak.capB y=true),.sat (fun v=> ∃a b:Int,Tak.capB a=true∧Tak.capB b=true∧v=.tuple #[hopV a b (-1),.bool true]),.sat (fun v=> ∃a b:Int,Tak.capB a=true∧Tak.capB b=true∧v=.tuple #[hopV a b (-1),.bool true]),.sat (fun v=> ∃a b:Int,Tak.capB a=true∧Tak.capB b=true∧v=hopV a b (-1)),.eq (.bool true),.made 15 47 [.int .i64 0,.string ⟨#[]⟩,.int .i64 0,.int .i64 0,.bool false,.bool false,.int .i64 0,.string ⟨#[]⟩,.slice none 0 0,.int .i64 0,.int .i64 0,.bool false,.slice none 0 0] (fun vs=> ∃a b:Int,Tak.capB a=true∧Tak.capB b=true∧vs=hopC a b (-1)),.any,.eq (.bool true)]) [some 8,some 9,some 10,some 11,some 12,some 13,some 14,some 15,some 16,some 17,some 18,some 7,some 19,some 20,some 3,none,some 4] (F:=?_) (is:=[0,1,2,3,4,5,6,7,8,9,10,11,12,13,14,15,16]) hmix (by kernel_rfl) (by kernel_rfl) (by kernel_rfl) (by kernel_rfl) (fun x=>?_) (⟨v2.drew,cu0.drew,K0.drew,hVl⟩) ?_ (fun d x wR hWR hdR hJR=>?_)
 rotate_left 1
 focus (simp only [RegJ.lay,Act.put,Nat.reduceAdd,Nat.zero_add,Draw.lays];rfl)
 focus
  iterate 17 (refine RegJ.Steps.cons (RegJ.StepAt.mk rfl (fun d x w1 hW1 hJ1 hx1 K hK=>?_)) ?_;simp only [Draw.lays]at hK;rotate_left 1)
  exact RegJ.Steps.nil
  ·obtain⟨v1,cu1,K1,hl1⟩:=id hW1;go_simp;exact hK.out _ _ ⟨v1.alloc _,cu1.alloc _,K1.alloc _,by simp;omega⟩ (RegJ.Tell.keepLe ((Draw.Kept.refl c _).alloc _) (by omega)) ⟨w1.heap.size,hl1,rfl,Var.new _ _⟩
  ·go_simp;exact hK.out _ _ hW1 RegJ.Tell.same rfl
  ·obtain⟨v1,cu1,K1,hl1⟩:=id hW1;have j1:x 1=_:=(hJ1.out 1 (by kernel_rfl));rw [j1]at hK;go_simp;refine(Draw.l1Below _ _ _ cu1).mono ?_;rintro e wa ⟨y,y0,y1,rfl,cua,ka⟩;go_simp;exact hK.out _ _ ⟨v1.kept ka (by omega),cua,K1.trans ka,by have:=ka.size;omega⟩ (RegJ.Tell.keepLe ka (by omega)) ⟨y,y0,by omega,rfl⟩
  ·obtain⟨b,hb,j0,vb⟩:=(hJ1.out 0 (by kernel_rfl));obtain⟨y,y0,y1,j2⟩:=(hJ1.out 2 (by kernel_rfl));rw [j0,j2]at hK;have hy:y<3:=(by omega);go_simp;exact hK.out (.pointer (some ⟨b,y.toNat,none⟩)) _ hW1 RegJ.Tell.same ⟨b,y.toNat,hb,(by simp;omega),rfl,vb⟩
  ·obtain⟨b,i,hb,hi,j3,vb⟩:=(hJ1.out 3 (by kernel_rfl));rw [j3]at hK;obtain⟨n,hn,hc⟩:=RegJ.int_sat (ns:=[6,20,40]) vb hi;go_simp;exact hK.out (.int .i64 n) _ hW1 RegJ.Tell.same ⟨n,rfl,(by simp at hn;rcases hn with rfl|rfl|rfl <;>decide)⟩
  ·obtain⟨v1,cu1,K1,hl1⟩:=id hW1;go_simp;exact hK.out _ _ ⟨v1.alloc _,cu1.alloc _,K1.alloc _,by simp;omega⟩ (RegJ.Tell.keepLe ((Draw.Kept.refl c _).alloc _) (by omega)) ⟨w1.heap.size,hl1,rfl,Var.new _ _⟩
  ·go_simp;exact hK.out _ _ hW1 RegJ.Tell.same rfl
  ·obtain⟨v1,cu1,K1,hl1⟩:=id hW1;have j6:x 6=_:=(hJ1.out 6 (by kernel_rfl));rw [j6]at hK;go_simp;refine(Draw.l1Below _ _ _ cu1).mono ?_;rintro e wa ⟨y,y0,y1,rfl,cua,ka⟩;go_simp;exact hK.out _ _ ⟨v1.kept ka (by omega),cua,K1.trans ka,by have:=ka.size;omega⟩ (RegJ.Tell.keepLe ka (by omega)) ⟨y,y0,by omega,rfl⟩
  ·obtain⟨b,hb,j5,vb⟩:=(hJ1.out 5 (by kernel_rfl));obtain⟨y,y0,y1,j7⟩:=(hJ1.out 7 (by kernel_rfl));rw [j5,j7]at hK;have hy:y<3:=(by omega);go_simp;exact hK.out (.pointer (some ⟨b,y.toNat,none⟩)) _ hW1 RegJ.Tell.same ⟨b,y.toNat,hb,(by simp;omega),rfl,vb⟩
  ·obtain⟨b,i,hb,hi,j8,vb⟩:=(hJ1.out 8 (by kernel_rfl));rw [j8]at hK;obtain⟨n,hn,hc⟩:=RegJ.int_sat (ns:=[5,12,40]) vb hi;go_simp;exact hK.out (.int .i64 n) _ hW1 RegJ.Tell.same ⟨n,rfl,(by simp at hn;rcases hn with rfl|rfl|rfl <;>decide)⟩
  ·obtain⟨v1,cu1,K1,hl1⟩:=id hW1;obtain⟨a,j4,ha⟩:=(hJ1.out 4 (by kernel_rfl));obtain⟨b,j9,hb⟩:=(hJ1.out 9 (by kernel_rfl));rw [j4,j9]at hK;have hn:newH a b=(a,b,-1,true):=(by simp [newH,ha,hb]);go_simp;refine(specNewHop a b _).mono ?_;rw [hn];rintro e wa ⟨rfl,ba⟩;have ka:Draw.Kept c w1 wa:=Draw.Kept.ofBelow ba (Nat.le_refl _);go_simp;exact hK.out _ _ ⟨v1.later ba,cu1.below ba (Nat.le_refl _),K1.trans ka,by have:=ba.size;omega⟩ (RegJ.Tell.keepLe ka (by omega)) ⟨a,b,ha,hb,rfl⟩
  ·obtain⟨a,b,ha,hb,j10⟩:=(hJ1.out 10 (by kernel_rfl));rw [j10]at hK;go_simp;exact hK.out _ _ hW1 RegJ.Tell.same ⟨a,b,ha,hb,rfl⟩
  ·obtain⟨a,b,ha,hb,j11⟩:=(hJ1.out 11 (by kernel_rfl));rw [j11]at hK;go_simp;exact hK.out _ _ hW1 RegJ.Tell.same ⟨a,b,ha,hb,rfl⟩
  ·obtain⟨a,b,ha,hb,j11⟩:=(hJ1.out 11 (by kernel_rfl));rw [j11]at hK;go_simp;exact hK.out _ _ hW1 RegJ.Tell.same rfl
  ·obtain⟨v1,cu1,K1,hl1⟩:=id hW1;go_simp;exact hK.out _ _ ⟨v1.alloc _,cu1.alloc _,K1.alloc _,by simp;omega⟩ (RegJ.Tell.keepLe ((Draw.Kept.refl c _).alloc _) (by omega)) ⟨w1.heap.size,hl1,rfl,fun _=>Var.new _ _,fun hd=>absurd hd (by simp [(hx1.out 15 (.inr (by kernel_rfl))).1])⟩
  ·obtain⟨v1,cu1,K1,hl1⟩:=id hW1;obtain⟨m,hm,j14,h0,-⟩:=(hJ1.out 14 (by kernel_rfl));obtain⟨a,b,ha,hb,j12⟩:=(hJ1.out 12 (by kernel_rfl));rw [j14,j12]at hK;have vm:=h0 (hx1.out 15 (.inl rfl)).1;have q0:=vm.cell (i:=0) rfl;have y0:=vm.free 0;have q1:=vm.cell (i:=1) rfl;have y1:=vm.free 1;have q2:=vm.cell (i:=2) rfl;have y2:=vm.free 2;have q3:=vm.cell (i:=3) rfl;have y3:=vm.free 3;have q4:=vm.cell (i:=4) rfl;have y4:=vm.free 4;have q5:=vm.cell (i:=5) rfl;have y5:=vm.free 5;have q6:=vm.cell (i:=6) rfl;have y6:=vm.free 6;have q7:=vm.cell (i:=7) rfl;have y7:=vm.free 7;have q8:=vm.cell (i:=8) rfl;have y8:=vm.free 8;have q9:=vm.cell (i:=9) rfl;have y9:=vm.free 9;have q10:=vm.cell (i:=10) rfl;have y10:=vm.free 10;have q11:=vm.cell (i:=11) rfl;have y11:=vm.free 11;have q12:=vm.cell (i:=12) rfl;have y12:=vm.free 12;go_simp;clear q0 y0 q1 y1 q2 y2 q3 y3 q4 y4 q5 y5 q6 y6 q7 y7 q8 y8 q9 y9 q10 y10 q11 y11 q12 y12;have zf:Var 47 ((((((((((((((w1.setCell ⟨m,0,none⟩ (.int .i64 0)).setCell ⟨m,1,none⟩ (.string ⟨#[]⟩)).setCell ⟨m,2,none⟩ (.int .i64 a)).setCell ⟨m,3,none⟩ (.int .i64 0)).setCell ⟨m,4,none⟩ (.bool false)).setCell ⟨m,5,none⟩ (.bool false)).setCell ⟨m,6,none⟩ (.int .i64 0)).setCell ⟨m,7,none⟩ (.string ⟨#[]⟩)).setCell ⟨m,8,none⟩ (.slice none 0 0)).setCell ⟨m,9,none⟩ (.int .i64 b)).setCell ⟨m,10,none⟩ (.int .i64 (-1))).setCell ⟨m,11,none⟩ (.bool false)).setCell ⟨m,12,none⟩ (.slice none 0 0))) m (hopC a b (-1)):=(((((((((((((vm.set 0 _).set 1 _).set 2 _).set 3 _).set 4 _).set 5 _).set 6 _).set 7 _).set 8 _).set 9 _).set 10 _).set 11 _).set 12 _);have km:Draw.Kept m w1 ((((((((((((((w1.setCell ⟨m,0,none⟩ (.int .i64 0)).setCell ⟨m,1,none⟩ (.string ⟨#[]⟩)).setCell ⟨m,2,none⟩ (.int .i64 a)).setCell ⟨m,3,none⟩ (.int .i64 0)).setCell ⟨m,4,none⟩ (.bool false)).setCell ⟨m,5,none⟩ (.bool false)).setCell ⟨m,6,none⟩ (.int .i64 0)).setCell ⟨m,7,none⟩ (.string ⟨#[]⟩)).setCell ⟨m,8,none⟩ (.slice none 0 0)).setCell ⟨m,9,none⟩ (.int .i64 b)).setCell ⟨m,10,none⟩ (.int .i64 (-1))).setCell ⟨m,11,none⟩ (.bool false)).setCell ⟨m,12,none⟩ (.slice none 0 0))):=(Draw.Kept.setCell (Draw.Kept.setCell (Draw.Kept.setCell (Draw.Kept.setCell (Draw.Kept.setCell (Draw.Kept.setCell (Draw.Kept.setCell (Draw.Kept.setCell (Draw.Kept.setCell (Draw.Kept.setCell (Draw.Kept.setCell (Draw.Kept.setCell (Draw.Kept.setCell (Draw.Kept.refl m w1) (p:=⟨m,0,none⟩) (.inl rfl) _) (p:=⟨m,1,none⟩) (.inl rfl) _) (p:=⟨m,2,none⟩) (.inl rfl) _) (p:=⟨m,3,none⟩) (.inl rfl) _) (p:=⟨m,4,none⟩) (.inl rfl) _) (p:=⟨m,5,none⟩) (.inl rfl) _) (p:=⟨m,6,none⟩) (.inl rfl) _) (p:=⟨m,7,none⟩) (.inl rfl) _) (p:=⟨m,8,none⟩) (.inl rfl) _) (p:=⟨m,9,none⟩) (.inl rfl) _) (p:=⟨m,10,none⟩) (.inl rfl) _) (p:=⟨m,11,none⟩) (.inl rfl) _) (p:=⟨m,12,none⟩) (.inl rfl) _);have K15:Draw.Kept c w ((((((((((((((w1.setCell ⟨m,0,none⟩ (.int .i64 0)).setCell ⟨m,1,none⟩ (.string ⟨#[]⟩)).setCell ⟨m,2,none⟩ (.int .i64 a)).setCell ⟨m,3,none⟩ (.int .i64 0)).setCell ⟨m,4,none⟩ (.bool false)).setCell ⟨m,5,none⟩ (.bool false)).setCell ⟨m,6,none⟩ (.int .i64 0)).setCell ⟨m,7,none⟩ (.string ⟨#[]⟩)).setCell ⟨m,8,none⟩ (.slice none 0 0)).setCell ⟨m,9,none⟩ (.int .i64 b)).setCell ⟨m,10,none⟩ (.int .i64 (-1))).setCell ⟨m,11,none⟩ (.bool false)).setCell ⟨m,12,none⟩ (.slice none 0 0))):=(Draw.Kept.setCell (Draw.Kept.setCell (Draw.Kept.setCell (Draw.Kept.setCell (Draw.Kept.setCell (Draw.Kept.setCell (Draw.Kept.setCell (Draw.Kept.setCell (Draw.Kept.setCell (Draw.Kept.setCell (Draw.Kept.setCell (Draw.Kept.setCell (Draw.Kept.setCell K1 (p:=⟨m,0,none⟩) (.inr (Nat.le_of_lt hm)) _) (p:=⟨m,1,none⟩) (.inr (Nat.le_of_lt hm)) _) (p:=⟨m,2,none⟩) (.inr (Nat.le_of_lt hm)) _) (p:=⟨m,3,none⟩) (.inr (Nat.le_of_lt hm)) _) (p:=⟨m,4,none⟩) (.inr (Nat.le_of_lt hm)) _) (p:=⟨m,5,none⟩) (.inr (Nat.le_of_lt hm)) _) (p:=⟨m,6,none⟩) (.inr (Nat.le_of_lt hm)) _) (p:=⟨m,7,none⟩) (.inr (Nat.le_of_lt hm)) _) (p:=⟨m,8,none⟩) (.inr (Nat.le_of_lt hm)) _) (p:=⟨m,9,none⟩) (.inr (Nat.le_of_lt hm)) _) (p:=⟨m,10,none⟩) (.inr (Nat.le_of_lt hm)) _) (p:=⟨m,11,none⟩) (.inr (Nat.le_of_lt hm)) _) (p:=⟨m,12,none⟩) (.inr (Nat.le_of_lt hm)) _);have cu15:Draw.Cur ((((((((((((((w1.setCell ⟨m,0,none⟩ (.int .i64 0)).setCell ⟨m,1,none⟩ (.string ⟨#[]⟩)).setCell ⟨m,2,none⟩ (.int .i64 a)).setCell ⟨m,3,none⟩ (.int .i64 0)).setCell ⟨m,4,none⟩ (.bool false)).setCell ⟨m,5,none⟩ (.bool false)).setCell ⟨m,6,none⟩ (.int .i64 0)).setCell ⟨m,7,none⟩ (.string ⟨#[]⟩)).setCell ⟨m,8,none⟩ (.slice none 0 0)).setCell ⟨m,9,none⟩ (.int .i64 b)).setCell ⟨m,10,none⟩ (.int .i64 (-1))).setCell ⟨m,11,none⟩ (.bool false)).setCell ⟨m,12,none⟩ (.slice none 0 0))) c:=cu1.upto (fun i hi=>km.block i (by have:=cu1.lt;omega) (by omega));exact hK.out undef _ ⟨v1.kept km (by omega),cu15,K15,Nat.lt_of_lt_of_le hl1 km.size⟩ (RegJ.Tell.gave 14 rfl (by kernel_rfl) km j14 vm zf ⟨a,b,ha,hb,rfl⟩ hm) trivial
  ·have j13:x 13=_:=(hJ1.out 13 (by kernel_rfl));rw [j13]at hK;go_simp;exact hK.out _ _ hW1 RegJ.Tell.same rfl
 clear v2 K0 cu0 hVl
 obtain⟨v2,cu2,K2,hl2⟩:=hWR
 obtain⟨k3,hk3,j14,-,h1⟩:=hJR 14 (by simp)
 obtain⟨vs,⟨a,b,ha,hb,rfl⟩,v3⟩:=h1 (hdR 15 (by simp))
 have L2:Lay 47 [] [] 0 wR (k3+1) k3 ⟨⟨0,⟨#[]⟩,a,0,false,false⟩,⟨0,⟨#[]⟩,[],b,-1,false⟩,[]⟩:=⟨none,0,none,0,v3.win,El.Own.none _ _,El.Own.none _ _⟩
 have hb2:=newH_ok ha hb
 have hk3l:k3<wR.heap.size:=v3.lt
 rw [j14]
 clear hJR hdR h1 v3 hc
 generalize (⟨⟨0,⟨#[]⟩,a,0,false,false⟩,⟨0,⟨#[]⟩,[],b,-1,false⟩,[]⟩:Hp)=h at *
 have ST:St c k3 w wR h:=⟨hb2,L2,v2,cu2,K2,hcl,hk3⟩
 clear hb2 L2 v2 cu2 K2 hl2
 go_wp2_with fail
 refine(Draw.l1Below _ 24 _ ST.cu).mono ?_
 rintro e w4 ⟨n0,hn0,hn1,rfl,cu4,k4⟩
 replace ST:=ST.drawn cu4 k4
 obtain⟨n,rfl⟩: ∃n:Nat,n0=n:=⟨n0.toNat,by omega⟩
 have hn24:n≤24:=by omega
 clear cu4 k4 hn0 hn1 hk3l
 go_wp2_with fail
 go_loopw [5,6] (fun nv kv wr=> ∃(n:Nat) (h:Hp),nv=.int .i64 n∧n≤24∧St c k3 w wr h) (fun nv _ _=>(intOf nv).toNat)
 case atStart=>exact⟨n,h,rfl,hn24,ST⟩
 case round=>
  clear ST hn24
  obtain⟨n,h,rfl,hn,ST⟩:=hrel
  by_cases hz:n=0
  case pos=>
   subst hz
   obtain⟨aT,cT,aW,cW,vw,o1,o2⟩:=ST.lay
   have vh:=vw.whole
   have vz:=ST.v2
   have hST1:=ST.h1
   have hST2:=ST.h2
   obtain⟨e0,e1,e2,e3,e4,e5,e6,e7,e8,e9,e10,e11,e12⟩:=vh.c13
   obtain⟨f0,f1,f2,f3,f4,f5,f6,f7,f8,f9,f10,f11,f12⟩:=vz.c13
   obtain⟨y0,y1,y2,y3,y4,y5,y6,y7,y8,y9,y10,y11,y12⟩:=vz.f13
   go_wp2_with fail
   obtain⟨W4,hW4⟩: ∃z,Hid (z=((((((((((((wr.setCell ⟨w.heap.size,0,none⟩ (.int .i64 h.g.ba)).setCell ⟨w.heap.size,1,none⟩ (.string h.g.bs)).setCell ⟨w.heap.size,2,none⟩ (.int .i64 h.g.cp)).setCell ⟨w.heap.size,3,none⟩ (.int .i64 h.g.lm)).setCell ⟨w.heap.size,4,none⟩ (.bool h.g.en)).setCell ⟨w.heap.size,5,none⟩ (.bool h.g.dn)).setCell ⟨w.heap.size,6,none⟩ (.int .i64 h.t.nx)).setCell ⟨w.heap.size,7,none⟩ (.string h.t.bs)).setCell ⟨w.heap.size,8,none⟩ (.slice aT h.t.l.length cT)).setCell ⟨w.heap.size,9,none⟩ (.int .i64 h.t.cp)).setCell ⟨w.heap.size,10,none⟩ (.int .i64 h.t.fi)).setCell ⟨w.heap.size,11,none⟩ (.bool h.t.en)).setCell ⟨w.heap.size,12,none⟩ (.slice aW h.ws.length cW)):=⟨_,rfl⟩
   have r2:Var 47 (W4) w.heap.size [.int .i64 h.g.ba,.string h.g.bs,.int .i64 h.g.cp,.int .i64 h.g.lm,.bool h.g.en,.bool h.g.dn,.int .i64 h.t.nx,.string h.t.bs,.slice aT h.t.l.length cT,.int .i64 h.t.cp,.int .i64 h.t.fi,.bool h.t.en,.slice aW h.ws.length cW]:=by rw [hW4.out];exact(((((((((((((vz.set 0 _).set 1 _).set 2 _).set 3 _).set 4 _).set 5 _).set 6 _).set 7 _).set 8 _).set 9 _).set 10 _).set 11 _).set 12 _)
   have rT:Tak.partE.Own 123 (W4) w.heap.size aT cT h.t.l:=by
    rw [hW4.out]
    iterate 13 (refine El.Own.setCell ?_ (fun x hx=>by have:=(own_win (by decide) o1 vz.win x hx);exact this) _)
    exact o1.mono (by omega)
   have rW:letE.Own 75 (W4) w.heap.size aW cW h.ws:=by
    rw [hW4.out]
    iterate 13 (refine El.Own.setCell ?_ (fun x hx=>by have:=(own_win (by decide) o2 vz.win x hx);exact this) _)
    exact o2.mono (by omega)
   have rK:Draw.Kept c w (W4):=by rw [hW4.out];exact(Draw.Kept.setCell (Draw.Kept.setCell (Draw.Kept.setCell (Draw.Kept.setCell (Draw.Kept.setCell (Draw.Kept.setCell (Draw.Kept.setCell (Draw.Kept.setCell (Draw.Kept.setCell (Draw.Kept.setCell (Draw.Kept.setCell (Draw.Kept.setCell (Draw.Kept.setCell ST.K (p:=⟨w.heap.size,0,none⟩) (.inr (Nat.le_refl _)) _) (p:=⟨w.heap.size,1,none⟩) (.inr (Nat.le_refl _)) _) (p:=⟨w.heap.size,2,none⟩) (.inr (Nat.le_refl _)) _) (p:=⟨w.heap.size,3,none⟩) (.inr (Nat.le_refl _)) _) (p:=⟨w.heap.size,4,none⟩) (.inr (Nat.le_refl _)) _) (p:=⟨w.heap.size,5,none⟩) (.inr (Nat.le_refl _)) _) (p:=⟨w.heap.size,6,none⟩) (.inr (Nat.le_refl _)) _) (p:=⟨w.heap.size,7,none⟩) (.inr (Nat.le_refl _)) _) (p:=⟨w.heap.size,8,none⟩) (.inr (Nat.le_refl _)) _) (p:=⟨w.heap.size,9,none⟩) (.inr (Nat.le_refl _)) _) (p:=⟨w.heap.size,10,none⟩) (.inr (Nat.le_refl _)) _) (p:=⟨w.heap.size,11,none⟩) (.inr (Nat.le_refl _)) _) (p:=⟨w.heap.size,12,none⟩) (.inr (Nat.le_refl _)) _)
   have rk2:Draw.Kept w.heap.size wr (W4):=by rw [hW4.out];exact(Draw.Kept.setCell (Draw.Kept.setCell (Draw.Kept.setCell (Draw.Kept.setCell (Draw.Kept.setCell (Draw.Kept.setCell (Draw.Kept.setCell (Draw.Kept.setCell (Draw.Kept.setCell (Draw.Kept.setCell (Draw.Kept.setCell (Draw.Kept.setCell (Draw.Kept.setCell (Draw.Kept.refl w.heap.size wr) (p:=⟨w.heap.size,0,none⟩) (.inl rfl) _) (p:=⟨w.heap.size,1,none⟩) (.inl rfl) _) (p:=⟨w.heap.size,2,none⟩) (.inl rfl) _) (p:=⟨w.heap.size,3,none⟩) (.inl rfl) _) (p:=⟨w.heap.size,4,none⟩) (.inl rfl) _) (p:=⟨w.heap.size,5,none⟩) (.inl rfl) _) (p:=⟨w.heap.size,6,none⟩) (.inl rfl) _) (p:=⟨w.heap.size,7,none⟩) (.inl rfl) _) (p:=⟨w.heap.size,8,none⟩) (.inl rfl) _) (p:=⟨w.heap.size,9,none⟩) (.inl rfl) _) (p:=⟨w.heap.size,10,none⟩) (.inl rfl) _) (p:=⟨w.heap.size,11,none⟩) (.inl rfl) _) (p:=⟨w.heap.size,12,none⟩) (.inl rfl) _)
   have rC:Draw.Cur (W4) c:=ST.cu.upto (fun i hi=>rk2.block i (by have:=ST.cu.lt;omega) (by omega))
   rw [←hW4.out]
   clear hW4
   obtain⟨s0,s1,s2,s3,s4,s5,s6,s7,s8,s9,s10,s11,s12⟩:=r2.c13
   refine bodyPost_ret (v:=h.v aT cT aW cW) (by rw [res_one rfl];clear r2 rT rW rK rk2 rC vh vz vw o1 o2 e0 f0 y0 e1 f1 y1 e2 f2 y2 e3 f3 y3 e4 f4 y4 e5 f5 y5 e6 f6 y6 e7 f7 y7 e8 f8 y8 e9 f9 y9 e10 f10 y10 e11 f11 y11 e12 f12 y12;go_simp;done) rfl ⟨h,aT,cT,aW,cW,ST.ok,rfl,rT,rW,rC,rK⟩
  case neg=>
   obtain⟨m,rfl⟩: ∃m,n=m+1:=⟨n-1,by omega⟩
   have hm0:(0:Int)<((m+1:Nat):Int):=by omega
   clear hz
   obtain⟨aT,cT,aW,cW,vw,o1,o2⟩:=ST.lay
   have vh:=vw.whole
   obtain⟨e0,e1,e2,e3,e4,e5,e6,e7,e8,e9,e10,e11,e12⟩:=vh.c13
   go_wp2_with fail
   refine(Draw.l1Below _ _ _ ST.cu).mono ?_
   rintro e wa ⟨kk,kk0,kk1,rfl,cua,ka⟩
   replace ST:=ST.drawn cua ka
   clear cua ka e0 e1 e2 e3 e4 e5 e6 e7 e8 e9 e10 e11 e12 vh vw o1 o2
   go_wp2_with fail
   refine(Draw.l1Below _ 9 _ ST.cu).mono ?_
   rintro e wa ⟨y,y0,y1,rfl,cua,ka⟩
   replace ST:=ST.drawn cua ka
   clear cua ka
   have hy:(y=0∨y=1)∨(y=2∨y=3)∨y=4∨(y=5∨y=6)∨y=7∨y=8:=by omega
   clear y0 y1
   rcases hy with hy|hy|rfl|hy|rfl|rfl
   focus
    rcases hy with rfl|rfl
    all_goals
     have hgo:=(hop_ok ST.ok).2.1
     have hgi:=Giv.ok_iff.1 hgo
     have hE:=fun w'=>Giv.l6End h.g w' ⟨⟨by omega,by omega⟩,by omega⟩
     dsimp only [Giv.Gv.v]at hE
     have HGO:Hid (h.g.ok=true):=hgo
     clear hgo
     obtain⟨aT,cT,aW,cW,vw,o1,o2⟩:=ST.lay
     have vh:=vw.whole
     obtain⟨e0,e1,e2,e3,e4,e5,e6,e7,e8,e9,e10,e11,e12⟩:=vh.c13
     go_wp2_with fail
     refine(hE _).mono ?_
     rintro e wa ⟨rfl,ba⟩
     replace ST:=ST.later ba
     clear ba hE vh vw o1 o2 e0 e1 e2 e3 e4 e5 e6 e7 e8 e9 e10 e11 e12
     go_wp2_with fail
     refine(Draw.l1Below _ 9 _ ST.cu).mono ?_
     rintro e wa ⟨r,r0,r1,rfl,cua,ka⟩
     replace ST:=ST.drawn cua ka
     have r2:r≤8:=by omega
     clear cua ka r1
     go_wp2_with fail
     refine(Draw.l5Text (h.g.ba+h.g.bs.size) r _ (by omega) (by omega) (by omega) (by omega)).mono ?_
     rintro e wb ⟨sx,hsx,rfl,bb⟩
     replace ST:=ST.later bb
     clear bb
     obtain⟨aT,cT,aW,cW,vw,o1,o2⟩:=ST.lay
     go_wp2_with fail
     refine(Giv.l6WriteW k3 h.g sx _ (Win.fst (b:=h.g.c) (c:=[.int .i64 h.t.nx,.string h.t.bs,.slice aT h.t.l.length cT,.int .i64 h.t.cp,.int .i64 h.t.fi,.bool h.t.en,.slice aW h.ws.length cW]) vw) HGO.out (by omega)).mono ?_
     rintro e wd ⟨rfl,vd,kd⟩
     replace ST:=ST.giverW vw o1 o2 (Giv.write_ok HGO.out sx) kd vd
     clear vd kd vw o1 o2 hgi
     go_wp2_with fail
     go_roundw
     case rel=>exact⟨m,_,by go_num,by omega,ST⟩
     case measure=>simp [intOf]
   focus
    rcases hy with rfl|rfl
    all_goals
     go_wp2_with fail
     have keepW: ∀(i:Nat) (d:Nat→Bool) (w1:World),(fun d wr=>(d 15=false→St c k3 w wr h)∧(d 15=true→ ∃h',St c k3 w wr h')) d w1→i≠15→(fun d wr=>(d 15=false→St c k3 w wr h)∧(d 15=true→ ∃h',St c k3 w wr h')) (fun j=>j==i||d j) w1:=fun i d w1 hW hi=>⟨fun hd=>hW.1 (by simpa using hd:(15:Nat)≠i∧d 15=false).2,fun hd=>hW.2 (by rcases(by simpa using hd:(15:Nat)=i∨d 15=true)with q|q;exact absurd q.symm hi;exact q)⟩
     refine RegJ.wp_region_J (W:=fun d wr=>(d 15=false→St c k3 w wr h)∧(d 15=true→ ∃h',St c k3 w wr h')) (RegJ.Tell (c) [.eq (.pointer (some ⟨c,0,none⟩)),.num,.eq (.pointer (some ⟨k3,0,none⟩)),.eq (.pointer (some ⟨k3,0,none⟩)),.eq (.int .i64 h.g.ba),.eq (.pointer (some ⟨c,0,none⟩)),.eq (.pointer (some ⟨k3,0,none⟩)),.eq (.pointer (some ⟨k3,1,none⟩)),.eq (.string h.g.bs),.eq (.int .i64 h.g.bs.size),.num,.num,.num,.eq (.pointer (some ⟨c,0,none⟩)),.num,.flag]) [some 49,some 50,some 51,some 52,some 53,some 54,some 55,some 56,some 57,some 58,some 59,some 60,some 61,some 62,some 63,some 64] (F:=?_) (is:=[0,1,2,3,4,5,6,7,8,9,10,11,12,13,14,15]) hmix (by kernel_rfl) (by kernel_rfl) (by kernel_rfl) (by kernel_rfl) (fun x=>?_) (⟨fun _=>ST.drew,fun hd=>(by cases hd)⟩) ?_ (fun d x wR hWR hdR hJR=>?_)
     rotate_left 1
     focus (simp only [RegJ.lay,Act.put,Nat.reduceAdd,Nat.zero_add,Draw.lays];rfl)
     focus
      iterate 16 (refine RegJ.Steps.cons (RegJ.StepAt.mk rfl (fun d x w1 hW1 hJ1 hx1 K hK=>?_)) ?_;simp only [Draw.lays]at hK;rotate_left 1)
      exact RegJ.Steps.nil
      ·go_simp;exact hK.out _ _ (keepW _ _ _ hW1 (by decide)) RegJ.Tell.same rfl
      ·have S1:=hW1.1 (hx1.out 15 (.inr (by kernel_rfl))).1;have j0:x 0=_:=(hJ1.out 0 (by kernel_rfl));rw [j0]at hK;go_simp;refine(Draw.l1Below _ _ _ S1.cu).mono ?_;rintro e wa ⟨y,y0,y1,rfl,cua,ka⟩;go_simp;exact hK.out _ _ ⟨fun _=>S1.drawn cua ka,fun hd=>absurd hd (by simp [(hx1.out 15 (.inr (by kernel_rfl))).1])⟩ (RegJ.Tell.pure (by kernel_rfl)) ⟨y,rfl⟩
      ·go_simp;exact hK.out _ _ (keepW _ _ _ hW1 (by decide)) RegJ.Tell.same rfl
      ·have j2:x 2=_:=(hJ1.out 2 (by kernel_rfl));rw [j2]at hK;go_simp;exact hK.out _ _ (keepW _ _ _ hW1 (by decide)) RegJ.Tell.same rfl
      ·have j3:x 3=_:=(hJ1.out 3 (by kernel_rfl));rw [j3]at hK;obtain⟨aT,cT,aW,cW,vw,o1,o2⟩:=(hW1.1 (hx1.out 15 (.inr (by kernel_rfl))).1).lay;have vh:=vw.whole;have e0:=vh.cell (i:=0) rfl;have e1:=vh.cell (i:=1) rfl;go_simp;exact hK.out _ _ (keepW _ _ _ hW1 (by decide)) RegJ.Tell.same rfl
      ·go_simp;exact hK.out _ _ (keepW _ _ _ hW1 (by decide)) RegJ.Tell.same rfl
      ·go_simp;exact hK.out _ _ (keepW _ _ _ hW1 (by decide)) RegJ.Tell.same rfl
      ·have j6:x 6=_:=(hJ1.out 6 (by kernel_rfl));rw [j6]at hK;go_simp;exact hK.out _ _ (keepW _ _ _ hW1 (by decide)) RegJ.Tell.same rfl
      ·have j7:x 7=_:=(hJ1.out 7 (by kernel_rfl));rw [j7]at hK;obtain⟨aT,cT,aW,cW,vw,o1,o2⟩:=(hW1.1 (hx1.out 15 (.inr (by kernel_rfl))).1).lay;have vh:=vw.whole;have e0:=vh.cell (i:=0) rfl;have e1:=vh.cell (i:=1) rfl;go_simp;exact hK.out _ _ (keepW _ _ _ hW1 (by decide)) RegJ.Tell.same rfl
      ·have j8:x 8=_:=(hJ1.out 8 (by kernel_rfl));rw [j8]at hK;go_simp;exact hK.out _ _ (keepW _ _ _ hW1 (by decide)) RegJ.Tell.same rfl
      ·have j9:x 9=_:=(hJ1.out 9 (by kernel_rfl));rw [j9]at hK;go_simp;exact hK.out _ _ (keepW _ _ _ hW1 (by decide)) RegJ.Tell.same ⟨_,rfl⟩
      ·obtain⟨z,j10⟩:=(hJ1.out 10 (by kernel_rfl));rw [j10]at hK;have S1:=hW1.1 (hx1.out 15 (.inr (by kernel_rfl))).1;have j5:x 5=_:=(hJ1.out 5 (by kernel_rfl));rw [j5]at hK;go_simp;refine(Draw.l1Below _ _ _ S1.cu).mono ?_;rintro e wa ⟨y,y0,y1,rfl,cua,ka⟩;go_simp;exact hK.out _ _ ⟨fun _=>S1.drawn cua ka,fun hd=>absurd hd (by simp [(hx1.out 15 (.inr (by kernel_rfl))).1])⟩ (RegJ.Tell.pure (by kernel_rfl)) ⟨y,rfl⟩
      ·have j4:x 4=_:=(hJ1.out 4 (by kernel_rfl));rw [j4]at hK;obtain⟨z,j11⟩:=(hJ1.out 11 (by kernel_rfl));rw [j11]at hK;go_simp;exact hK.out _ _ (keepW _ _ _ hW1 (by decide)) RegJ.Tell.same ⟨_,rfl⟩
      ·go_simp;exact hK.out _ _ (keepW _ _ _ hW1 (by decide)) RegJ.Tell.same rfl
      ·have S1:=hW1.1 (hx1.out 15 (.inr (by kernel_rfl))).1;have j13:x 13=_:=(hJ1.out 13 (by kernel_rfl));rw [j13]at hK;go_simp;refine(Draw.l1Below _ _ _ S1.cu).mono ?_;rintro e wa ⟨y,y0,y1,rfl,cua,ka⟩;go_simp;exact hK.out _ _ ⟨fun _=>S1.drawn cua ka,fun hd=>absurd hd (by simp [(hx1.out 15 (.inr (by kernel_rfl))).1])⟩ (RegJ.Tell.pure (by kernel_rfl)) ⟨y,rfl⟩
      ·obtain⟨r,j1⟩:=(hJ1.out 1 (by kernel_rfl));obtain⟨p,j12⟩:=(hJ1.out 12 (by kernel_rfl));obtain⟨q,j14⟩:=(hJ1.out 14 (by kernel_rfl));rw [j1,j12,j14]at hK;have S1:=hW1.1 (hx1.out 15 (.inl rfl)).1;go_simp;refine(sendLay (by decide) (by decide) k3 (k3+1) h r p q _ S1.lay (by have:=S1.lay.lt;omega) (by have:=(hop_ok S1.ok).1;omega) (hop_ok S1.ok).2.1).mono ?_;rintro e wa ⟨rfl,la,kba⟩;go_simp;exact hK.out _ _ ⟨fun hd=>absurd hd (by simp),fun _=>⟨_,S1.done (send_ok S1.ok r p q) la kba⟩⟩ (RegJ.Tell.pure (by kernel_rfl)) ⟨_,rfl⟩
     obtain⟨h',ST'⟩:=hWR.2 (hdR 15 (by simp))
     clear hJR hdR hWR keepW ST
     go_wp2_with fail
     go_roundw
     case rel=>exact⟨m,_,by go_num,by omega,ST'⟩
     case measure=>simp [intOf]
   focus
    go_wp2_with fail
    refine(Draw.l1Below _ _ _ ST.cu).mono ?_
    rintro e wa ⟨r,r0,r1,rfl,cua,ka⟩
    replace ST:=ST.drawn cua ka
    clear cua ka
    go_wp2_with fail
    refine(Draw.l1Once _ _ _ ST.cu).mono ?_
    rintro e wa ⟨dn,rfl,cua,ka⟩
    replace ST:=ST.drawn cua ka
    clear cua ka
    go_wp2_with fail
    refine(tellLay (by decide) (by decide) (by decide) k3 (k3+1) h r dn _ ST.lay (by have:=ST.lay.lt;omega) (by have:=(hop_ok ST.ok).1;omega) (hop_ok ST.ok).2.2.1).mono ?_
    rintro e wa ⟨rfl,la,kba⟩
    replace ST:=ST.done (tell_ok ST.ok r dn) la kba
    clear la kba
    go_wp2_with fail
    go_roundw
    case rel=>exact⟨m,_,by go_num,by omega,ST⟩
    case measure=>simp [intOf]
   focus
    rcases hy with rfl|rfl
    all_goals
     go_wp2_with fail
     refine(comeLay (by decide) (by decide) k3 (k3+1) h kk _ ST.lay (by have:=ST.lay.lt;omega) ST.ok).mono ?_
     rintro e wa ⟨rfl,la,kba⟩
     replace ST:=ST.done (come_ok ST.ok kk) la kba
     clear la kba
     go_wp2_with fail
     go_roundw
     case rel=>exact⟨m,_,by go_num,by omega,ST⟩
     case measure=>simp [intOf]
   focus
    obtain⟨aT,cT,aW,cW,vw,o1,o2⟩:=ST.lay
    have vh:=vw.whole
    have e6:=vh.cell (i:=6) rfl
    have e7:=vh.cell (i:=7) rfl
    have e8:=vh.cell (i:=8) rfl
    have e9:=vh.cell (i:=9) rfl
    have e10:=vh.cell (i:=10) rfl
    have e11:=vh.cell (i:=11) rfl
    have hto:=(hop_ok ST.ok).2.2.1
    obtain⟨hbd,htot⟩:=Tak.ok_small hto
    have hsm:=sm_ok ST.ok
    have HAW:Hid _:=fun r w' l'=>Tak.specTakenAway h.t.nx h.t.bs aT h.t.l.length cT h.t.cp h.t.fi h.t.en h.t.l r w' rfl l' (by have:=hsm.tl;omega) hsm.tb hbd o1.none_cap
    have hST1:=ST.h1
    have hST2:=ST.h2
    go_wp2_with fail
    refine Draw.wp_region_Y (S:=(fun w'=>w'.cell? ⟨k3,6,none⟩=some (.int .i64 h.t.nx)∧w'.cell? ⟨k3,7,none⟩=some (.string h.t.bs)∧w'.cell? ⟨k3,8,none⟩=some (.slice aT h.t.l.length cT)∧w'.cell? ⟨k3,9,none⟩=some (.int .i64 h.t.cp)∧w'.cell? ⟨k3,10,none⟩=some (.int .i64 h.t.fi)∧w'.cell? ⟨k3,11,none⟩=some (.bool h.t.en))) 14 (by kernel_rfl) ?_ (fun hHeld=>?_)
    focus ((try dsimp only) <;>(first|with_reducible exact hHeld|with_reducible exact hS2|exact⟨e6,e7,e8,e9,e10,e11⟩))
    refine Draw.wpAnyY_takeT (i:=0) (v:=?_) rfl (by kernel_rfl) (by kernel_rfl) (by kernel_rfl) (fun _ _ _ h=>h) (Or.inl ⟨by rfl,?_⟩) ?_
    rotate_left 1
    focus (intro s h;(try dsimp only at h);go_simp;(try apply And.intro) <;>with_reducible rfl)
    (try simp only [Act.put,Draw.lays])
    refine Draw.wpAnyY_takeP (ps:=[11,10,9]) (i:=1) (v:=?_) rfl (by kernel_rfl) (by kernel_rfl) (by kernel_rfl) (by kernel_rfl) (by kernel_rfl) (fun _ _ _ h=>h) (Or.inl ⟨by rfl,?_⟩) (by assumption) ?_
    rotate_left 1
    focus (intro s h;(try dsimp only at h);go_simp;(try apply And.intro) <;>with_reducible rfl)
    (try simp only [Act.put,Draw.lays])
    refine Draw.wpAnyY_takeT (i:=2) (v:=?_) rfl (by kernel_rfl) (by kernel_rfl) (by kernel_rfl) (fun _ _ _ h=>h) (Or.inl ⟨by rfl,?_⟩) ?_
    rotate_left 1
    focus (intro s h;(try dsimp only at h);go_simp;(try apply And.intro) <;>with_reducible rfl)
    (try simp only [Act.put,Draw.lays])
    refine Draw.wpAnyY_takeT (i:=3) (v:=?_) rfl (by kernel_rfl) (by kernel_rfl) (by kernel_rfl) (fun _ _ _ h=>h) (Or.inl ⟨by rfl,?_⟩) ?_
    rotate_left 1
    focus (intro s h;(try dsimp only at h);go_simp;(try apply And.intro) <;>with_reducible rfl)
    (try simp only [Act.put,Draw.lays])
    refine Draw.wpAnyY_takeT (i:=4) (v:=?_) rfl (by kernel_rfl) (by kernel_rfl) (by kernel_rfl) (fun _ _ _ h=>h) (Or.inl ⟨by rfl,?_⟩) ?_
    rotate_left 1
    focus (intro s h;(try dsimp only at h);go_simp;(try apply And.intro) <;>with_reducible rfl)
    (try simp only [Act.put,Draw.lays])
    refine Draw.wpAnyY_takeP (ps:=[11,10,9,8,7,6]) (i:=5) (v:=?_) rfl (by kernel_rfl) (by kernel_rfl) (by kernel_rfl) (by kernel_rfl) (by kernel_rfl) (fun _ _ _ h=>h) (Or.inl ⟨by rfl,?_⟩) (by assumption) ?_
    rotate_left 1
    focus (intro s h;(try dsimp only at h);go_simp;(try apply And.intro) <;>with_reducible rfl)
    (try simp only [Act.put,Draw.lays])
    refine Draw.wpAnyY_takeT (i:=6) (v:=?_) rfl (by kernel_rfl) (by kernel_rfl) (by kernel_rfl) (fun _ _ _ h=>h) (Or.inl ⟨by rfl,?_⟩) ?_
    rotate_left 1
    focus (intro s h;(try dsimp only at h);go_simp;(try apply And.intro) <;>with_reducible rfl)
    (try simp only [Act.put,Draw.lays])
    refine Draw.wpAnyY_takeT (i:=7) (v:=?_) rfl (by kernel_rfl) (by kernel_rfl) (by kernel_rfl) (fun _ _ _ h=>h) (Or.inl ⟨by rfl,?_⟩) ?_
    rotate_left 1
    focus (intro s h;(try dsimp only at h);go_simp;(try apply And.intro) <;>with_reducible rfl)
    (try simp only [Act.put,Draw.lays])
    refine Draw.wpAnyY_ready (rs:=[8]) (by kernel_rfl) (by simp) ?_
    refine Draw.AllReadyY.cons rfl (fun K hK=>?_) Draw.AllReadyY.nil
    (go_simp;refine(Draw.l1Below _ _ _ ST.cu.drew).mono ?_;rintro e wa ⟨r,r0,r1,rfl,cua,ka⟩;have STa:=ST.drew.drawn cua ka;have va:=vh.drew.kept ka (by omega);have oa1:=o1.drew.kept ka (fun x hx=>by have:=(o1.lt x hx).1;omega);have oa2:=o2.drew.kept ka (fun x hx=>by have:=(o2.lt x hx).1;omega);have s6:=va.cell (i:=6) rfl;have s7:=va.cell (i:=7) rfl;have s8:=va.cell (i:=8) rfl;have s9:=va.cell (i:=9) rfl;have s10:=va.cell (i:=10) rfl;have s11:=va.cell (i:=11) rfl;have hS2:=And.intro s6 (And.intro s7 (And.intro s8 (And.intro s9 (And.intro s10 s11)))))
    refine hK.out _ _ ?_ (fun hHeld2=>?_)
    focus (intro _ _;(try dsimp only) <;>(first|with_reducible exact hHeld|with_reducible exact hS2|exact⟨e6,e7,e8,e9,e10,e11⟩))
    clear hK K
    replace hHeld:=hHeld2 (by decide) hHeld
    clear hHeld2
    (try simp only [Act.put,Draw.lays])
    refine Draw.wpAnyY_ready (rs:=[9]) (by kernel_rfl) (by simp) ?_
    refine Draw.AllReadyY.cons rfl (fun K hK=>?_) Draw.AllReadyY.nil
    (go_simp;refine(HAW.out r _ oa1.lies).mono ?_;rintro e wb ⟨a',c',rfl,ob,bb⟩;dsimp only [Tak.Tk.v];have STb:=STa.later bb;have vb:=va.later bb;have ob2:=oa2.later bb;clear hS2 s6 s7 s8 s9 s10 s11;have s6:=vb.cell (i:=6) rfl;have s7:=vb.cell (i:=7) rfl;have s8:=vb.cell (i:=8) rfl;have s9:=vb.cell (i:=9) rfl;have s10:=vb.cell (i:=10) rfl;have s11:=vb.cell (i:=11) rfl;have hS2:=And.intro s6 (And.intro s7 (And.intro s8 (And.intro s9 (And.intro s10 s11))));have y6:=vb.free 6;have y7:=vb.free 7;have y8:=vb.free 8;have y9:=vb.free 9;have y10:=vb.free 10;have y11:=vb.free 11)
    refine hK.out _ _ ?_ (fun hHeld2=>?_)
    focus (intro _ _;(try dsimp only) <;>(first|with_reducible exact hHeld|with_reducible exact hS2|exact⟨e6,e7,e8,e9,e10,e11⟩))
    clear hK K
    replace hHeld:=hHeld2 (by decide) hHeld
    clear hHeld2
    (try simp only [Act.put,Draw.lays])
    refine Draw.wpAnyY_takeT (i:=10) (v:=?_) rfl (by kernel_rfl) (by kernel_rfl) (by kernel_rfl) (fun _ _ _ h=>h) (Or.inl ⟨by rfl,?_⟩) ?_
    rotate_left 1
    focus (intro s h;(try dsimp only at h);go_simp;(try apply And.intro) <;>with_reducible rfl)
    (try simp only [Act.put,Draw.lays])
    refine Draw.wpAnyY_takeT (i:=11) (v:=?_) rfl (by kernel_rfl) (by kernel_rfl) (by kernel_rfl) (fun _ _ _ h=>h) (Or.inl ⟨by rfl,?_⟩) ?_
    rotate_left 1
    focus (intro s h;(try dsimp only at h);go_simp;(try apply And.intro) <;>with_reducible rfl)
    (try simp only [Act.put,Draw.lays])
    refine Draw.wpAnyY_takeT (i:=12) (v:=?_) rfl (by kernel_rfl) (by kernel_rfl) (by kernel_rfl) (fun _ _ _ h=>h) (Or.inl ⟨by rfl,?_⟩) ?_
    rotate_left 1
    focus (intro s h;(try dsimp only at h);go_simp;(try apply And.intro) <;>with_reducible rfl)
    (try simp only [Act.put,Draw.lays])
    refine Draw.wpAnyY_takeT (i:=13) (v:=?_) rfl (by kernel_rfl) (by kernel_rfl) (by kernel_rfl) (fun _ _ _ h=>h) (Or.inl ⟨by rfl,?_⟩) ?_
    rotate_left 1
    focus (intro s h;(try dsimp only at h);go_simp;(try apply And.intro) <;>with_reducible rfl)
    (try simp only [Act.put,Draw.lays])
    refine Draw.wpAnyY_ready (rs:=[14]) (by kernel_rfl) (by simp) ?_
    refine Draw.AllReadyY.cons rfl (fun K hK=>?_) Draw.AllReadyY.nil
    go_simp
    refine hK.out _ _ (fun h=>absurd rfl h) (fun hHeld2=>?_)
    clear hK K hHeld hHeld2
    (try simp only [Act.put,Draw.lays])
    refine Draw.wpAnyY_done (by kernel_rfl) ?_ _
    have hnt:=Tak.away_ok (n:=r) hto
    obtain⟨t2,ht2⟩: ∃t2,(Tak.takenAway h.t r).1=t2:=⟨_,rfl⟩
    have hte:(⟨h.t.nx,h.t.bs,h.t.l,h.t.cp,h.t.fi,h.t.en⟩:Tak.Tk)=h.t:=rfl
    rw [hte]at ob ⊢
    rw [ht2]at hnt ob ⊢
    clear ht2 e6 e7 e8 e9 e10 e11
    go_wp2_with fail
    go_roundw
    case measure=>simp [intOf]
    case rel=>
     have vf:Var 47 (((((((wb.setCell ⟨k3,6,none⟩ (.int .i64 t2.nx)).setCell ⟨k3,7,none⟩ (.string t2.bs)).setCell ⟨k3,8,none⟩ (.slice a' t2.l.length c')).setCell ⟨k3,9,none⟩ (.int .i64 t2.cp)).setCell ⟨k3,10,none⟩ (.int .i64 t2.fi)).setCell ⟨k3,11,none⟩ (.bool t2.en))) k3 (Hp.c ⟨h.g,t2,h.ws⟩ a' c' aW cW):=((((((vb.set 6 _).set 7 _).set 8 _).set 9 _).set 10 _).set 11 _)
     have kf:Draw.Kept k3 wb (((((((wb.setCell ⟨k3,6,none⟩ (.int .i64 t2.nx)).setCell ⟨k3,7,none⟩ (.string t2.bs)).setCell ⟨k3,8,none⟩ (.slice a' t2.l.length c')).setCell ⟨k3,9,none⟩ (.int .i64 t2.cp)).setCell ⟨k3,10,none⟩ (.int .i64 t2.fi)).setCell ⟨k3,11,none⟩ (.bool t2.en))):=(Draw.Kept.setCell (Draw.Kept.setCell (Draw.Kept.setCell (Draw.Kept.setCell (Draw.Kept.setCell (Draw.Kept.setCell (Draw.Kept.refl k3 wb) (p:=⟨k3,6,none⟩) (.inl rfl) _) (p:=⟨k3,7,none⟩) (.inl rfl) _) (p:=⟨k3,8,none⟩) (.inl rfl) _) (p:=⟨k3,9,none⟩) (.inl rfl) _) (p:=⟨k3,10,none⟩) (.inl rfl) _) (p:=⟨k3,11,none⟩) (.inl rfl) _)
     exact⟨m,_,by go_num,by omega,STb.done (taker_ok ST.ok hnt) ⟨a',c',aW,cW,vf.win,(ob.mono (B:=k3+1) (by have:=STa.lay.lt;omega)).kept kf (fun x hx=>by have:=(ob.lt x hx).1;have:=STa.lay.lt;omega),ob2.kept kf (own_win (by decide) ob2 vb.win)⟩ (KB.ofKept kf (by have:=STb.lay.lt;omega))⟩
   focus
    obtain⟨⟨ba,bs,cp,lm,en,dn⟩,t,ws⟩:=h
    obtain⟨aT,cT,aW,cW,vw,o1,o2⟩:=ST.lay
    have vh:=vw.whole
    have hgo:=(hop_ok ST.ok).2.1
    have e4:=vh.cell (i:=4) rfl
    have y4:=vh.free 4
    have hST1:=ST.h1
    have hST2:=ST.h2
    cases en
    focus
     go_wp2_with fail
     refine(Draw.l1Once _ _ _ ST.cu).mono ?_
     rintro e wa ⟨b8,rfl,cua,ka⟩
     replace ST:=ST.drawn cua ka
     replace vh:=vh.kept ka (by omega)
     replace o1:=o1.kept ka (fun x hx=>by have:=(o1.lt x hx).1;omega)
     replace o2:=o2.kept ka (fun x hx=>by have:=(o2.lt x hx).1;omega)
     clear cua ka e4 y4
     have e4:=vh.cell (i:=4) rfl
     have y4:=vh.free 4
     go_wp2_with fail
     go_roundw
     case measure=>simp [intOf]
     case rel=>exact⟨m,_,by go_num,by omega,ST.giver vh.win o1 o2 (end_ok hgo b8) ((Draw.Kept.refl k3 _).setCell (p:=⟨k3,4,none⟩) (.inl rfl) (.bool b8)) (vh.set 4 (.bool b8)).win⟩
    focus
     go_wp2_with fail
     go_roundw
     case measure=>simp [intOf]
     case rel=>exact⟨m,_,by go_num,by omega,ST.giver vh.win o1 o2 hgo ((Draw.Kept.refl k3 _).setCell (p:=⟨k3,4,none⟩) (.inl rfl) (.bool true)) (vh.set 4 (.bool true)).win⟩
end Go.Proofs.YtfejobjgbadfjaaGreat.Hop
