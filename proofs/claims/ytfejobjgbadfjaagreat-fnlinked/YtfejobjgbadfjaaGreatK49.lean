/- Contracts of this seat's functions, and their mathematics (PlaD CouB LinH). -/
import Derived.Test.YtfejobjgbadfjaaGreatK47
import Derived.Test.YtfejobjgbadfjaaGreatK48
import Derived.Test.YtfejobjgbadfjaaGreatK46
import Derived.Test.YtfejobjgbadfjaaGreatK45
set_option linter.unusedVariables false
set_option linter.unusedSimpArgs false
set_option maxRecDepth 10000
set_option maxHeartbeats 8000000
namespace Go.Proofs.YtfejobjgbadfjaaGreat.Wor
open Go.RowKit RowG Hop Roa Pum Lin
theorem keepB {vs:List (Option Value)}{ps:List RegJ.Tie}{d:Nat→Bool}{x:Nat→Value}{w w':World}{i:Nat}(h: ∀q∈ps,i=q.1∨d q.1=false∨(q.2.1≠q.1∧(i=q.2.1∨d q.2.1=true))∨ ∀v,q.2.2 v w→q.2.2 v w'):
  ∀j,j≠i→RegJ.ValE vs ps d j (x j) w→RegJ.ValE vs ps (fun j=>j==i||d j) j (x j) w':=fun j hj hv=>
 ⟨RegJ.Val.keep j hj hv.1,fun q hq he hz=>by
  have hz':q.2.1=q.1∨((q.2.1==i)=false∧d q.2.1=false):=by
   rcases hz with h1|h1
   ·exact .inl h1
   ·exact .inr (by simpa using h1)
  rcases h q hq with h1|h1|⟨h1,h2⟩|h1
  ·exact absurd (he.trans h1.symm) hj
  ·rw [←he,hv.1.1]at h1;cases h1
  ·rcases hz' with h3|⟨h3,h4⟩
   ·exact absurd h3 h1
   ·rcases h2 with h2|h2
    ·simp [h2]at h3
    ·rw [h4]at h2;cases h2
  ·exact h1 _ (hv.2 q hq he (hz'.imp id (·.2)))⟩
theorem two_lies {w:World}{m:Nat}{a b:Int}(v:Var 2 w m [.int .i64 a,.int .i64 b]):Roa.EI.Lies w (some ⟨m,0,none⟩) [a,b]:=by
 exact .inr ⟨m,0,rfl,fun j u hu=>by rw [Nat.zero_add];exact v.cell hu⟩
theorem anew (aH aR:Option Addr)(n cH cR:Nat)(xs:List Ha)(rs:List Rd)(s:Str.Sm)(w:World)(hn:n=xs.length)(D:DL w aH xs aR rs)(hz:s.tx.size≤2097152):
  Calls Tryz.prog 9 #[.agg (A7 aH n cH aR rs.length cR s).toArray] w fun e w'=>((e=.returned (.tuple #[.agg Z7.toArray,.bool false]))∨ ∃l n v,capsB l n=true∧e=.returned (.tuple #[v,.bool true])∧WHold w' w.heap.size v (newW l n))∧Below w.heap.size w w':=by
 have hmix:=Roa.mix
 have hOK:=fun w' (b:Below w.heap.size w w')=>specWorldOk aH aR n rs.length cH cR xs rs s w' hn rfl (D.later b).L (D.later b).R (by have:=D.nx;omega) (by have:=D.nr;omega) D.sm hz
 have HOK:Hid ((hopsB (xs.map (·.h)) rs&&s.ok)=true→hopsB (xs.map (·.h)) rs=true):=fun q=>by rw [Bool.and_eq_true]at q;exact q.1
 generalize (hopsB (xs.map (·.h)) rs&&s.ok)=o at *
 have v1:Var 33 ((w.alloc (.cells (A7 aH n cH aR rs.length cR s).toArray 33)).alloc (.cells Z7.toArray 33)) w.heap.size (A7 aH n cH aR rs.length cR s):=(Var.new w _).alloc _
 have v2:Var 33 ((w.alloc (.cells (A7 aH n cH aR rs.length cR s).toArray 33)).alloc (.cells Z7.toArray 33)) (w.heap.size+1) Z7:=by
  have q:=Var.new (T:=33) (w.alloc (.cells (A7 aH n cH aR rs.length cR s).toArray 33)) Z7
  simpa using q
 have b1:Below w.heap.size w ((w.alloc (.cells (A7 aH n cH aR rs.length cR s).toArray 33)).alloc (.cells Z7.toArray 33)):=((Below.refl _ _).alloc (Nat.le_refl _) _).alloc (by simp) _
 have HD:Hid (DL w aH xs aR rs):=D
 have HN:Hid (n=xs.length):=hn
 clear D hz hn
 go_enter Tryz.func9,Tryz.ntmps9
 go_upto_region 1 with(fail)
 generalize ((w.alloc (.cells (A7 aH n cH aR rs.length cR s).toArray 33)).alloc (.cells Z7.toArray 33))=V at *
 obtain⟨c0,c1,c2,c3,c4,c5,c6⟩:=v1.c7
 go_wp2_with fail
 refine(hOK _ b1).mono ?_
 rintro x w1 ⟨rfl,b2⟩
 replace v1:=v1.later b2
 replace v2:=v2.later b2
 replace b1:=b1.trans (b2.mono b1.size)
 clear b2 hOK c0 c1 c2 c3 c4 c5 c6
 cases o
 case false=>
  obtain⟨c0,c1,c2,c3,c4,c5,c6⟩:=v2.c7
  obtain⟨y0,y1,y2,y3,y4,y5,y6⟩:=v2.f7
  go_wp2_with fail
  refine bodyPost_ret (v:=.tuple #[.agg Z7.toArray,.bool false]) (by rw [Tak.res_cell_tmp rfl];go_simp;try rfl) rfl ⟨.inl rfl,?_⟩
  iterate 7 (refine Below.setCell ?_ (by dsimp only;omega) _)
  exact b1
 obtain⟨hl3,hr,hall⟩:=hops_iff.1 (HOK.out rfl)
 rw [List.length_map]at hl3
 have hrl:=roads_len hr
 obtain rfl:n=3:=by have:=HN.out;omega
 have HX:Hid (xs.length=3):=hl3
 have HALL:Hid (∀(i:Nat) (x:Ha),xs[i]? =some x→Tak.capB x.h.g.cp=true∧Tak.capB x.h.t.cp=true):=fun i x hx=>by
  have hi:i<xs.length:=(List.getElem?_eq_some_iff.1 hx).1
  have q:=(hall i (by omega)).1
  rw [List.getD_eq_getElem?_getD,List.getElem?_map,hx]at q
  obtain⟨-,q2,q3,-⟩:=hop_ok q
  exact⟨by have:=(Giv.ok_iff.1 q2).1;unfold Tak.capB;exact decide_eq_true this,by have:=(Tak.ok_iff.1 q3).1.1;unfold Tak.capB;exact decide_eq_true this⟩
 clear hl3 hr hall HOK HN
 obtain⟨b,off,rfl⟩: ∃b off,aH=some ⟨b,off,none⟩:=by
  rcases HD.out.L.row with q|⟨b,off,e,_⟩
  ·have:=HX.out;rw [q]at this;simp at this
  ·exact⟨b,off,e⟩
 have hz2:w.heap.size+2≤w1.heap.size:=v2.lt
 have o0:Roa.EI.Own 2 (w1.alloc (.cells #[] 2)) (w.heap.size+2) (some ⟨w1.heap.size,0,none⟩) 0 []:=(Roa.ownI_empty w1).mono hz2
 replace v1:=v1.alloc (.cells #[] 2)
 replace v2:=v2.alloc (.cells #[] 2)
 replace b1:=b1.alloc b1.size (.cells #[] 2)
 have hz3:w.heap.size+2≤(w1.alloc (.cells #[] 2)).heap.size:=by simp;omega
 clear hz2
 go_upto_region 4 with(fail)
 generalize w1.alloc (.cells #[] 2)=V2 at *
 generalize w1.heap.size=g0 at *
 go_wp2_with fail
 go_loopw [4,5] (fun lv iv wr=> ∃(k gI cI:Nat) (L:List Int),k≤3∧iv=.int .i64 k∧lv=.slice (some ⟨gI,0,none⟩) (2*k) cI∧Hid (L.length=2*k)∧Hid (L.all Tak.capB=true)∧Roa.EI.Own 2 wr (w.heap.size+2) (some ⟨gI,0,none⟩) cI L∧Var 33 wr w.heap.size (A7 (some ⟨b,off,none⟩) 3 cH aR rs.length cR s)∧Var 33 wr (w.heap.size+1) Z7∧Below w.heap.size w wr∧w.heap.size+2≤wr.heap.size) (fun _ iv _=>3-(intOf iv).toNat)
 case atStart=>exact⟨0,g0,0,[],by omega,rfl,rfl,rfl,rfl,o0,v1,v2,b1,hz3⟩
 case round=>
  clear o0 v1 v2 b1 hz3
  obtain⟨k,gI,cI,L,hk,rfl,rfl,HLn,HLa,o,v1,v2,b1,hz3⟩:=hrel
  by_cases hk3:k<3
  ·have k0:(k:Int)<3:=by omega
   have k1:(0:Int)≤(k:Int):=by omega
   obtain⟨x0,hx⟩: ∃x,xs[k]? =some x:=⟨xs[k]'(by rw [HX.out];exact hk3),List.getElem?_eq_getElem _⟩
   obtain⟨hc1,hc2⟩:=HALL.out k x0 hx
   have HLa':Hid ((L++[x0.h.g.cp,x0.h.t.cp]).all Tak.capB=true):=by
    have h:=HLa.out
    show(L++[x0.h.g.cp,x0.h.t.cp]).all Tak.capB=true
    simp only [List.all_append,List.all_cons,List.all_nil,h,hc1,hc2,Bool.and_true]
   have C1: ∀w',Below w.heap.size w w'→ ∀j v,x0.c[j]? =some v→w'.cell? ⟨b,off+k*13+j,none⟩=some v:=fun w' bl j v hv=>El.Lies.cells (HD.out.later bl).L.row hx j v hv
   clear hx hc1 hc2
   have keepW: ∀(q:Nat) (d:Nat→Bool) (w':World),(fun(d:Nat→Bool) (w':World)=>Var 33 w' w.heap.size (A7 (some ⟨b,off,none⟩) 3 cH aR rs.length cR s)∧Var 33 w' (w.heap.size+1) Z7∧Below w.heap.size w w'∧w.heap.size+2≤w'.heap.size∧(d 18=false→Roa.EI.Own 2 w' (w.heap.size+2) (some ⟨gI,0,none⟩) cI L)) d w'→q≠18→(fun(d:Nat→Bool) (w':World)=>Var 33 w' w.heap.size (A7 (some ⟨b,off,none⟩) 3 cH aR rs.length cR s)∧Var 33 w' (w.heap.size+1) Z7∧Below w.heap.size w w'∧w.heap.size+2≤w'.heap.size∧(d 18=false→Roa.EI.Own 2 w' (w.heap.size+2) (some ⟨gI,0,none⟩) cI L)) (fun j=>j==q||d j) w':=fun q d w' h hq=>⟨h.1,h.2.1,h.2.2.1,h.2.2.2.1,fun e=>h.2.2.2.2 (by rw [←or_ne (d:=d) (Ne.symm hq)];exact e)⟩
   go_wp2_with fail
   refine RegJ.wp_region_J (W:=(fun(d:Nat→Bool) (w':World)=>Var 33 w' w.heap.size (A7 (some ⟨b,off,none⟩) 3 cH aR rs.length cR s)∧Var 33 w' (w.heap.size+1) Z7∧Below w.heap.size w w'∧w.heap.size+2≤w'.heap.size∧(d 18=false→Roa.EI.Own 2 w' (w.heap.size+2) (some ⟨gI,0,none⟩) cI L))) (RegJ.ValE [some (.slice (some ⟨gI,0,none⟩) (2*k) cI),some (.pointer (some ⟨w.heap.size,0,none⟩)),some (.pointer (some ⟨w.heap.size,0,none⟩)),some (.slice (some ⟨b,off,none⟩) 3 cH),some (.int .i64 (k:Int)),some (.pointer (some ⟨b,off+k*13,none⟩)),some (.pointer (some ⟨b,off+k*13,none⟩)),some (.pointer (some ⟨b,off+k*13+2,none⟩)),some (.int .i64 x0.h.g.cp),some (.pointer (some ⟨w.heap.size,0,none⟩)),some (.pointer (some ⟨w.heap.size,0,none⟩)),some (.slice (some ⟨b,off,none⟩) 3 cH),some (.int .i64 (k:Int)),some (.pointer (some ⟨b,off+k*13,none⟩)),some (.pointer (some ⟨b,off+k*13+6,none⟩)),some (.pointer (some ⟨b,off+k*13+9,none⟩)),some (.int .i64 x0.h.t.cp),none,none,none] ([(17,18,fun v w'=> ∃m,v=Value.slice (some ⟨m,0,none⟩) 2 2∧Var 2 w' m [.int .i64 x0.h.g.cp,.int .i64 x0.h.t.cp]),(18,18,fun v w'=> ∃g c,v=Value.slice (some ⟨g,0,none⟩) (2*k+2) c∧Roa.EI.Own 2 w' (w.heap.size+2) (some ⟨g,0,none⟩) c (L++[x0.h.g.cp,x0.h.t.cp])),(19,19,fun v w'=> ∃g c,v=Value.slice (some ⟨g,0,none⟩) (2*k+2) c∧Roa.EI.Own 2 w' (w.heap.size+2) (some ⟨g,0,none⟩) c (L++[x0.h.g.cp,x0.h.t.cp]))])) [some 15,some 16,some 17,some 18,some 19,some 20,some 21,some 22,some 23,some 24,some 25,some 26,some 27,some 28,some 29,some 30,some 31,some 32,some 33,some 4] (F:=?_) (is:=[0,1,2,3,4,5,6,7,8,9,10,11,12,13,14,15,16,17,18,19]) hmix (by kernel_rfl) (by kernel_rfl) (by kernel_rfl) (by kernel_rfl) (fun x=>?_) (⟨v1.drew,v2.drew,b1.drew,hz3,fun _=>o.drew⟩) ?_ (fun dR xR wR hWR hdR hJR=>?_)
   rotate_left 1
   focus (simp only [RegJ.lay,Act.put,Nat.reduceAdd,Nat.zero_add,Draw.lays];rfl)
   focus
    iterate 20 (refine RegJ.Steps.cons (RegJ.StepAt.mk rfl (fun d x w1 hW1 hJ1 hx1 K hK=>?_)) ?_;simp only [Draw.lays]at hK;rotate_left 1)
    exact RegJ.Steps.nil
    ·have j19:x 19=.slice (some ⟨gI,0,none⟩) (2*k) cI:=(hx1.out 19 (.inr (by kernel_rfl))).2;rw [j19]at hK;go_simp;exact hK.out _ _ (keepW 0 d _ hW1 (by decide)) RegJ.ValE.same (RegJ.ValE.free (Or.inl rfl) rfl)
    ·go_simp;exact hK.out _ _ (keepW 1 d _ hW1 (by decide)) RegJ.ValE.same (RegJ.ValE.free (Or.inl rfl) rfl)
    ·have j1:x 1=_:=(hJ1.out 1 (by kernel_rfl)).val rfl;rw [j1]at hK;go_simp;exact hK.out _ _ (keepW 2 d _ hW1 (by decide)) RegJ.ValE.same (RegJ.ValE.free (Or.inl rfl) rfl)
    ·have j2:x 2=_:=(hJ1.out 2 (by kernel_rfl)).val rfl;rw [j2]at hK;have e0:=hW1.1.cell (i:=0) rfl;go_simp;exact hK.out _ _ (keepW 3 d _ hW1 (by decide)) RegJ.ValE.same (RegJ.ValE.free (Or.inl rfl) rfl)
    ·go_simp;exact hK.out _ _ (keepW 4 d _ hW1 (by decide)) RegJ.ValE.same (RegJ.ValE.free (Or.inl rfl) rfl)
    ·have j3:x 3=_:=(hJ1.out 3 (by kernel_rfl)).val rfl;rw [j3]at hK;have j4:x 4=_:=(hJ1.out 4 (by kernel_rfl)).val rfl;rw [j4]at hK;go_simp;exact hK.out _ _ (keepW 5 d _ hW1 (by decide)) RegJ.ValE.same (RegJ.ValE.free (Or.inl rfl) rfl)
    ·have j5:x 5=_:=(hJ1.out 5 (by kernel_rfl)).val rfl;rw [j5]at hK;go_simp;exact hK.out _ _ (keepW 6 d _ hW1 (by decide)) RegJ.ValE.same (RegJ.ValE.free (Or.inl rfl) rfl)
    ·have j6:x 6=_:=(hJ1.out 6 (by kernel_rfl)).val rfl;rw [j6]at hK;go_simp;exact hK.out _ _ (keepW 7 d _ hW1 (by decide)) RegJ.ValE.same (RegJ.ValE.free (Or.inl rfl) rfl)
    ·have j7:x 7=_:=(hJ1.out 7 (by kernel_rfl)).val rfl;rw [j7]at hK;have h2:=C1 _ hW1.2.2.1 2 _ rfl;go_simp;exact hK.out _ _ (keepW 8 d _ hW1 (by decide)) RegJ.ValE.same (RegJ.ValE.free (Or.inl rfl) rfl)
    ·go_simp;exact hK.out _ _ (keepW 9 d _ hW1 (by decide)) RegJ.ValE.same (RegJ.ValE.free (Or.inl rfl) rfl)
    ·have j9:x 9=_:=(hJ1.out 9 (by kernel_rfl)).val rfl;rw [j9]at hK;go_simp;exact hK.out _ _ (keepW 10 d _ hW1 (by decide)) RegJ.ValE.same (RegJ.ValE.free (Or.inl rfl) rfl)
    ·have j10:x 10=_:=(hJ1.out 10 (by kernel_rfl)).val rfl;rw [j10]at hK;have e0:=hW1.1.cell (i:=0) rfl;go_simp;exact hK.out _ _ (keepW 11 d _ hW1 (by decide)) RegJ.ValE.same (RegJ.ValE.free (Or.inl rfl) rfl)
    ·go_simp;exact hK.out _ _ (keepW 12 d _ hW1 (by decide)) RegJ.ValE.same (RegJ.ValE.free (Or.inl rfl) rfl)
    ·have j11:x 11=_:=(hJ1.out 11 (by kernel_rfl)).val rfl;rw [j11]at hK;have j12:x 12=_:=(hJ1.out 12 (by kernel_rfl)).val rfl;rw [j12]at hK;go_simp;exact hK.out _ _ (keepW 13 d _ hW1 (by decide)) RegJ.ValE.same (RegJ.ValE.free (Or.inl rfl) rfl)
    ·have j13:x 13=_:=(hJ1.out 13 (by kernel_rfl)).val rfl;rw [j13]at hK;go_simp;exact hK.out _ _ (keepW 14 d _ hW1 (by decide)) RegJ.ValE.same (RegJ.ValE.free (Or.inl rfl) rfl)
    ·have j14:x 14=_:=(hJ1.out 14 (by kernel_rfl)).val rfl;rw [j14]at hK;go_simp;exact hK.out _ _ (keepW 15 d _ hW1 (by decide)) RegJ.ValE.same (RegJ.ValE.free (Or.inl rfl) rfl)
    ·have j15:x 15=_:=(hJ1.out 15 (by kernel_rfl)).val rfl;rw [j15]at hK;have h9:=C1 _ hW1.2.2.1 9 _ rfl;go_simp;exact hK.out _ _ (keepW 16 d _ hW1 (by decide)) RegJ.ValE.same (RegJ.ValE.free (Or.inl rfl) rfl)
    ·have j8:x 8=_:=(hJ1.out 8 (by kernel_rfl)).val rfl;rw [j8]at hK;have j16:x 16=_:=(hJ1.out 16 (by kernel_rfl)).val rfl;rw [j16]at hK;obtain⟨q1,q2,q3,q4,q5⟩:=id hW1;go_simp;exact hK.out _ _ ⟨q1.alloc _,q2.alloc _,q3.alloc q3.size _,by simp;omega,fun e=>(q5 (by rw [←or_ne (d:=d) (show(18:Nat)≠17 by decide)];exact e)).alloc _⟩ (keepB (by intro q hq;simp only [List.mem_cons,List.not_mem_nil,or_false]at hq;rcases hq with rfl|rfl|rfl;exact .inl rfl;exact .inr (.inl (hx1.out 18 (.inr (by kernel_rfl))).1);exact .inr (.inl (hx1.out 19 (.inr (by kernel_rfl))).1))) (RegJ.ValE.got 0 _ _ (Or.inr rfl) rfl rfl ⟨_,rfl,Var.new _ _⟩)
    ·have j0:x 0=_:=(hJ1.out 0 (by kernel_rfl)).val rfl;obtain⟨m,j17,vm⟩:=((hJ1.out 17 (by kernel_rfl)).tie 0 rfl (.inr (hx1.out 18 (.inl rfl)).1));have j17:x 17=_:=j17;obtain⟨q1,q2,q3,q4,q5⟩:=id hW1;have o5:=q5 (hx1.out 18 (.inl rfl)).1;have hg:=(o5.lt _ rfl).1;dsimp only at hg;exact step_appS Roa.tyI (by decide) (by rfl) _ _ (by rfl) (w.heap.size+2) gI cI (2*k) L [x0.h.g.cp,x0.h.t.cp] HLn.out.symm (by exact j0) o5 q4 (some ⟨m,0,none⟩) 2 2 rfl (by exact j17) (two_lies vm) (fun e=>by cases e) (by rw [HLn.out];simp;omega) (fun g' c' w' oA gA=>hK.out _ _ ⟨q1.grown gA (fun z hz=>by cases hz;omega),q2.grown gA (fun z hz=>by cases hz;omega),q3.grown gA q3.size (fun z hz=>by cases hz;omega),Nat.le_trans q4 gA.size,fun e=>absurd e (by simp)⟩ (keepB (by intro q hq;simp only [List.mem_cons,List.not_mem_nil,or_false]at hq;rcases hq with rfl|rfl|rfl;exact .inr (.inr (.inl ⟨by simp,.inl rfl⟩));exact .inl rfl;exact .inr (.inl (hx1.out 19 (.inr (by kernel_rfl))).1))) (RegJ.ValE.got 1 _ _ (Or.inr rfl) rfl rfl ⟨g',c',rfl,oA⟩))
    ·obtain⟨g',c',j18,oA⟩:=((hJ1.out 18 (by kernel_rfl)).tie 1 rfl (.inl rfl));have j18:x 18=_:=j18;rw [j18]at hK;go_simp;exact hK.out _ _ (keepW 19 d _ hW1 (by decide)) RegJ.ValE.same (RegJ.ValE.got 2 _ _ (Or.inr rfl) rfl rfl ⟨g',c',rfl,oA⟩)
   obtain⟨gN,cN,j19,oN⟩:=(hJR 19 (by simp)).tie 2 rfl (.inl rfl)
   rw [j19]
   obtain⟨q1,q2,q3,q4,-⟩:=hWR
   clear hdR hJR keepW C1 o v1 v2 b1 hz3
   go_wp2_with fail
   go_roundw
   case rel=>exact⟨k+1,gN,cN,_,by omega,by simp,by rw [show 2*k+2=2*(k+1) by omega],by show(L++[x0.h.g.cp,x0.h.t.cp]).length=_;rw [List.length_append,HLn.out];rfl,HLa',oN,q1,q2,q3,q4⟩
   case measure=>simp [intOf] <;>omega
  ·have k0: ¬(k:Int)<3:=by omega
   obtain rfl:k=3:=by omega
   have hcap:capsB L (rs.length:Int)=true:=by
    have h6:L.length=6:=HLn.out
    have ha:L.all Tak.capB=true:=HLa.out
    unfold capsB
    rw [h6,ha,decide_eq_true (show 1≤(rs.length:Int)∧(rs.length:Int)≤4 by omega)]
    rfl
   have hNW:=specNewWorld (some ⟨gI,0,none⟩) cI L (rs.length:Int)
   have e0:=v1.cell (i:=0) rfl
   have e1:=v1.cell (i:=1) rfl
   have hL6:L.length=6:=HLn.out
   rw [hL6]at hNW
   go_wp2_with fail
   refine(hNW _ o.lies (by decide) hcap).mono ?_
   rintro e w5 ⟨v,rfl,⟨g5,h5,xs5,a5,r5,rfl,A5⟩,b5⟩
   replace v2:=v2.later b5
   have b6:=b1.trans (b5.mono b1.size)
   have hz5:=b1.size
   clear e0 e1 hNW v1 o b1 b5
   obtain⟨c0,c1,c2,c3,c4,c5,c6⟩:=v2.c7
   obtain⟨y0,y1,y2,y3,y4,y5,y6⟩:=v2.f7
   go_wp2_with fail
   have ka:=kept7 w5 (w.heap.size+1) (.slice (some ⟨g5,0,none⟩) 3 h5) (.slice a5 (newW L (rs.length:Int)).rs.length r5) (.string (newW L (rs.length:Int)).tx) (.int .i64 (newW L (rs.length:Int)).rd) (.bool (newW L (rs.length:Int)).en) (.bool (newW L (rs.length:Int)).dn) (.bool (newW L (rs.length:Int)).sn)
   have vv:=var7 v2 (.slice (some ⟨g5,0,none⟩) 3 h5) (.slice a5 (newW L (rs.length:Int)).rs.length r5) (.string (newW L (rs.length:Int)).tx) (.int .i64 (newW L (rs.length:Int)).rd) (.bool (newW L (rs.length:Int)).en) (.bool (newW L (rs.length:Int)).dn) (.bool (newW L (rs.length:Int)).sn)
   have A6:=A5.keptV v2 (by decide) (by decide) (by decide) (by decide) ka
   have B6:=b6.trans (ka.below (by omega) b6.size)
   clear ka A5 v2 b6 c0 c1 c2 c3 c4 c5 c6 y0 y1 y2 y3 y4 y5 y6
   simp only [put7]at vv A6 B6
   generalize World.setCell _ ⟨w.heap.size+1,6,none⟩ _=WZ at *
   obtain⟨c0,c1,c2,c3,c4,c5,c6⟩:=vv.c7
   refine bodyPost_ret (v:=.tuple #[.agg (W7 (newW L (rs.length:Int)) g5 h5 a5 r5).toArray,.bool true]) (by rw [Tak.res_cell_tmp rfl];go_simp;try rfl) rfl ⟨.inr ⟨L,_,_,hcap,rfl,⟨g5,h5,xs5,a5,r5,rfl,⟨A6.L.mono hz5,A6.hs,A6.R.mono hz5,A6.ok⟩⟩⟩,B6⟩
end Go.Proofs.YtfejobjgbadfjaaGreat.Wor
namespace Go.Proofs.YtfejobjgbadfjaaGreat.Cou
open Go.RowKit RowG Wor
def hdE:El Hd where
 enc x:=x.c
 size:=3
 len _:=rfl
 one x u hu:=by
  simp only [Hd.c,List.mem_cons,List.not_mem_nil,or_false]at hu
  rcases hu with rfl|rfl|rfl <;>rfl
 pos:=by decide
theorem infoHeld:(Tryz.prog.info? 53).map (fun i=>(i.zero,i.size,i.bytes))=some (some (.agg #[.nilFunc,.nilFunc,.nilFunc]),3,24):=by kernel_rfl
theorem tyH:Typ Tryz.prog 48 53 hdE 24:=⟨Tryz.underlying48,by
 obtain⟨i,hi,h0,h1,h2⟩:=info_parts infoHeld
 exact⟨i,_,hi,h0,h1,h2,rfl⟩⟩
structure Fr (B kk:Nat)(TE:TypeId)(w w':World):Prop where
 var: ∀T k vs,Var T w k vs→T≠TE→k≠kk→Var T w' k vs
 bel:Below B w w'
theorem Fr.refl (B kk:Nat)(TE:TypeId)(w:World):Fr B kk TE w w:=⟨fun _ _ _ v _ _=>v,Below.refl _ _⟩
theorem Fr.trans {B kk:Nat}{TE:TypeId}{w w1 w2:World}(h:Fr B kk TE w w1)(k:Fr B kk TE w1 w2):Fr B kk TE w w2:=⟨fun T i vs v h1 h2=>k.var T i vs (h.var T i vs v h1 h2) h1 h2,h.bel.trans k.bel⟩
theorem Fr.later {B kk:Nat}{TE:TypeId}{w w1 w2:World}(h:Fr B kk TE w w1)(hB:B≤w.heap.size)(b:Below w1.heap.size w1 w2):Fr B kk TE w w2:=⟨fun T k vs v h1 h2=>(h.var T k vs v h1 h2).later b,h.bel.trans (b.mono (Nat.le_trans hB h.bel.size))⟩
theorem Fr.ofLater {B kk:Nat}{TE:TypeId}{w w1:World}(hB:B≤w.heap.size)(b:Below w.heap.size w w1):Fr B kk TE w w1:=(Fr.refl B kk TE w).later hB b
theorem own_free {α:Type}{E:El α}{TE T:TypeId}{w:World}{B c k:Nat}{a:Option Addr}{l:List α}{vs:List Value}(o:E.Own TE w B a c l)(hT:T≠TE)(v:Var T w k vs): ∀z,blk a=some z→k≠z:=by
 intro z hz
 rcases o.form with⟨rfl,_⟩|⟨g,rfl,_⟩
 ·cases hz
 ·cases hz;exact Ne.symm (own_varS hT o v)
theorem own_above {α:Type}{E:El α}{TE:TypeId}{w:World}{B c:Nat}{a:Option Addr}{l:List α}(o:E.Own TE w B a c l): ∀z,blk a=some z→B≤z:=by
 intro z hz
 rcases o.form with⟨rfl,_⟩|⟨g,rfl,h,_⟩
 ·cases hz
 ·cases hz;exact h
theorem Fr.grown {α:Type}{E:El α}{B kk c:Nat}{TE:TypeId}{w w1 w2:World}{a:Option Addr}{l:List α}(h:Fr B kk TE w w1)(hB:B≤w.heap.size)(o:E.Own TE w1 B a c l)(g:w1.grownBy w2 (blk a)):Fr B kk TE w w2:=
 ⟨fun T k vs v h1 h2=>(h.var T k vs v h1 h2).grown g (own_free o h1 (h.var T k vs v h1 h2)),h.bel.grown g (Nat.le_trans hB h.bel.size) (own_above o)⟩
theorem Fr.set {B kk:Nat}{TE:TypeId}{w w1:World}(h:Fr B kk TE w w1)(hk:B≤kk)(v:Value):Fr B kk TE w (w1.setCell ⟨kk,0,none⟩ v):=
 ⟨fun T k vs u h1 h2=>(h.var T k vs u h1 h2).other h2 v,h.bel.setCell hk v⟩
theorem held_lies {w:World}{m:Nat}{x:Hd}(v:Var 53 w m x.c):hdE.Lies w (some ⟨m,0,none⟩) [x]:=by
 refine .inr ⟨m,0,rfl,fun j u hu=>?_⟩
 rw [El.vals_one]at hu
 rw [Nat.zero_add]
 exact v.cell hu
theorem var_ne {T T':TypeId}{w:World}{k k':Nat}{vs us:List Value}(hT:T≠T')(v:Var T w k vs)(u:Var T' w k' us):k≠k':=by
 rintro rfl
 have h:=v.symm.trans u
 simp only [Option.some.injEq,Obj.cells.injEq]at h
 exact hT h.2.1
theorem tellHeld (kk B:Nat)(hd:Hd)(a:Option Addr)(c:Nat)(l:List Hd)(w:World)(v:Var 48 w kk [.slice a l.length c])(o:hdE.Own 53 w B a c l)(hB:B≤w.heap.size)(hk:B≤kk)(hl:l.length≤1000):
  Calls Tryz.prog 13 #[.agg hd.c.toArray,.pointer (some ⟨kk,0,none⟩)] w fun e w'=>e=.returned (.tuple #[])∧(∃a' c',Var 48 w' kk [.slice a' (l.length+1) c']∧hdE.Own 53 w' B a' c' (l++[hd]))∧Fr B kk 53 w w':=by
 have b0:=(Below.refl w.heap.size w).alloc (Nat.le_refl _) (.cells hd.c.toArray 53)
 have v0:Var 53 (w.alloc (.cells hd.c.toArray 53)) w.heap.size hd.c:=Var.new w _
 replace v:=v.later b0
 replace o:=o.later b0
 have f0:Fr B kk 53 w (w.alloc (.cells hd.c.toArray 53)):=Fr.ofLater hB b0
 have hB1:B≤(w.alloc (.cells hd.c.toArray 53)).heap.size:=Nat.le_trans hB b0.size
 have HB:Hid (B≤w.heap.size):=hB
 clear hB b0
 go_enter Tryz.func13,Tryz.ntmps13
 go_upto_region 1 with(fail)
 generalize w.alloc (.cells _ 53)=V at *
 have c0:=v.cell (i:=0) rfl
 have e0:=v0.cell (i:=0) rfl
 have e1:=v0.cell (i:=1) rfl
 have e2:=v0.cell (i:=2) rfl
 have b2:=(Below.refl V.heap.size V).alloc (Nat.le_refl _) (.cells hd.c.toArray 53)
 have v2:Var 53 (V.alloc (.cells hd.c.toArray 53)) V.heap.size hd.c:=Var.new V _
 have v1:=v.later b2
 have o1:=o.later b2
 have f1:=f0.later HB.out b2
 have hB2:B≤(V.alloc (.cells hd.c.toArray 53)).heap.size:=Nat.le_trans hB1 b2.size
 clear b2 v0
 go_wp2_with (at_builtin;refine wpList_appK tyH (by decide) (by rfl) _ _ (by rfl) B a c l.length l [hd] rfl (by rfl) o1 hB2 (some ⟨V.heap.size,0,none⟩) 1 1 rfl (by rfl) (held_lies v2) (fun e=>by cases e) (by simp;omega) ?_;intro a6 c6 w6 o6 gr6 _;refine Tak.stand ?_)
 have v6:=v1.grown gr6 (own_free o1 (by decide) v1)
 have f6:=f1.grown HB.out o1 gr6
 have oo: ∀z,a6=some z→z.block≠kk:=fun z hz=>by
  have:=own_free o6 (T:=48) (by decide) v6 z.block (by rw [hz];rfl)
  exact Ne.symm this
 have c6':=v6.cell (i:=0) rfl
 have y6:=v6.free 0
 clear v v1 v2 o o1 f0 f1 c0 e0 e1 e2 gr6
 show wpList _ _ _ _ _ _
 go_wp2_with fail
 go_end0
 exact⟨rfl,⟨a6,c6,v6.set 0 _,o6.setCell (fun z hz=>oo z hz) _⟩,f6.set hk _⟩
end Go.Proofs.YtfejobjgbadfjaaGreat.Cou
namespace Go.Proofs.YtfejobjgbadfjaaGreat.Lin
open Go.RowKit RowG Hop Roa Wor
def sumC (hs:List Hp)(k:Nat):Int:=((hs.take k).map fun h=>h.g.cp+h.t.cp).sum
theorem hop_at {xs:List Ha}{rs:List Rd}(hb:hopsB (xs.map (·.h)) rs=true){k:Nat}{x:Ha}(hx:xs[k]? =some x):hopB x.h=true:=by
 obtain⟨h1,h2,h3⟩:=hops_iff.1 hb
 have hk:k<xs.length:=(List.getElem?_eq_some_iff.1 hx).1
 have:=(h3 k (by simpa using by rw [List.length_map]at h1;omega)).1
 rw [show(xs.map (·.h)).getD k zeroH=x.h by simp [List.getD,hx]]at this
 exact this
end Go.Proofs.YtfejobjgbadfjaaGreat.Lin
