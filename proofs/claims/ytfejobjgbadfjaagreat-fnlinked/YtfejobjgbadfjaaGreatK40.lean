/- Contracts of this seat's functions, and their mathematics (LawRo DrawRo). -/
import Derived.Test.YtfejobjgbadfjaaGreatK14
import Derived.Test.YtfejobjgbadfjaaGreatK28
import Derived.Test.YtfejobjgbadfjaaGreatK30
import Derived.Test.YtfejobjgbadfjaaGreatK8
import Derived.Deep.CutRange
set_option linter.unusedVariables false
set_option linter.unusedSimpArgs false
set_option maxRecDepth 10000
set_option maxHeartbeats 8000000
namespace Go.Proofs.YtfejobjgbadfjaaGreat.Roa
open Go.RowKit RowG
theorem own_nonempty {w:World}{B g c:Nat}{l:List Rd}(h:Own w B g c l): ∀ {k:Nat},k<l.length→(w.cell? ⟨g,k*4,none⟩=some (.bool (at' l k).op)∧w.cell? ⟨g,k*4+1,none⟩=some (.int .i64 (at' l k).co)∧w.cell? ⟨g,k*4+2,none⟩=some (.int .i64 (at' l k).se)∧w.cell? ⟨g,k*4+3,none⟩=some (.int .i64 (at' l k).lo))∧(w.frozen? ⟨g,k*4,none⟩=false∧w.frozen? ⟨g,k*4+1,none⟩=false∧w.frozen? ⟨g,k*4+2,none⟩=false∧w.frozen? ⟨g,k*4+3,none⟩=false):=by
 intro k hk
 refine⟨?_,El.Own.frozen (E:=E) h _,El.Own.frozen (E:=E) h _,El.Own.frozen (E:=E) h _,El.Own.frozen (E:=E) h _⟩
 rcases El.Own.lies (E:=E) h with e|⟨b,off,e,hs⟩
 ·rw [e]at hk;simp at hk
 ·cases e
  have:=cells4 hs hk
  rw [Nat.zero_add]at this
  exact this
end Go.Proofs.YtfejobjgbadfjaaGreat.Roa
namespace Go.Proofs.YtfejobjgbadfjaaGreat.Roa
open Go.RowKit RowG
theorem l1From (c:Nat)(a b:Int)(w:World)(h:Draw.Cur w c):
  Calls Tryz.prog 75 #[.pointer (some ⟨c,0,none⟩),.int .i64 a,.int .i64 b] w fun e w'=> ∃x:Int,e=.returned (.int .i64 x)∧Draw.Cur w' c∧Draw.Kept c w w':=by
 go_enter Tryz.func75,Tryz.ntmps75
 go_wp2_with fail
 refine(Draw.l1Below _ _ _ h).mono ?_
 rintro x w1 ⟨y,_,_,rfl,c1,k1⟩
 go_wp2_with fail
 go_ret
 exact⟨_,rfl,c1,k1⟩
theorem cur_setC {w:World}{c:Nat}(h:Draw.Cur w c){p:Addr}(hp:c<p.block)(v:Value):Draw.Cur (w.setCell p v) c:=h.upto fun i hi=>Below.heap_setCell _ _ _ _ (by omega)
theorem cur_grown {w w':World}{c r:Nat}(h:Draw.Cur w c)(g:w.grownBy w' (some r))(hr:c<r)(hlt:c<w.heap.size):Draw.Cur w' c:=
 h.upto fun i hi=>g.block i (by omega) (by simp;omega)
theorem own_kept {w w':World}{k B g c:Nat}{l:List Rd}(h:Own w B g c l)(q:Draw.Kept k w w')(hc:k<g):Own w' B g c l:=El.Own.kept (E:=E) h q (fun x hx=>by cases hx;simp only;omega)
theorem put0 {w:World}{B g c:Nat}{l:List Rd}(h:Own w B g c l)(hp:0<l.length)(v:Int):Own (w.setCell ⟨g,3,none⟩ (.int .i64 v)) B g c (l.set 0 {at' l 0 with lo:=v}):=by
 have:=El.Own.put (E:=E) h (at_some hp) (y:={at' l 0 with lo:=v}) (j:=3) (u:=.int .i64 v) (by decide) rfl
 rwa [show 0*E.size+3=3 from rfl]at this
theorem put1 {w:World}{B g c:Nat}{l:List Rd}(h:Own w B g c l)(hp:0<l.length)(v:Int):Own (w.setCell ⟨g,1,none⟩ (.int .i64 v)) B g c (l.set 0 {at' l 0 with co:=v}):=by
 have:=El.Own.put (E:=E) h (at_some hp) (y:={at' l 0 with co:=v}) (j:=1) (u:=.int .i64 v) (by decide) rfl
 rwa [show 0*E.size+1=1 from rfl]at this
theorem put2 {w:World}{B g c:Nat}{l:List Rd}(h:Own w B g c l)(hp:0<l.length)(v:Int):Own (w.setCell ⟨g,2,none⟩ (.int .i64 v)) B g c (l.set 0 {at' l 0 with se:=v}):=by
 have:=El.Own.put (E:=E) h (at_some hp) (y:={at' l 0 with se:=v}) (j:=2) (u:=.int .i64 v) (by decide) rfl
 rwa [show 0*E.size+2=2 from rfl]at this
theorem l10Draw (c:Nat)(w:World)(h:Draw.Cur w c):
  Calls Tryz.prog 50 #[.pointer (some ⟨c,0,none⟩)] w fun x w'=> ∃g cap,∃L:List Rd,x=.returned (.slice (some ⟨g,0,none⟩) L.length cap)∧L.length≤8∧Own w' w.heap.size g cap L∧Draw.Cur w' c∧Draw.Kept c w w':=by
 have hmix:=mix
 have hlt:=h.lt
 have o0:=own_empty w
 have c0:=h.alloc (.cells #[] 95)
 have p0:=(Draw.Kept.refl c w).alloc (.cells #[] 95)
 go_enter Tryz.func50,Tryz.ntmps50
 go_wp2_with fail
 refine(Draw.l1Below _ _ _ c0).mono ?_
 rintro x w1 ⟨n,n0,n1,rfl,c1,q1⟩
 have k1:=p0.trans q1
 have o1:Own w1 w.heap.size w.heap.size 0 []:=own_kept o0 q1 hlt
 have n2:n≤3:=by omega
 clear n1 c0 p0 q1 o0 h
 go_wp2_with fail
 go_loopw [3,4] (fun lv nv wr=> ∃(g cap:Nat) (L:List Rd) (m:Int),lv=.slice (some ⟨g,0,none⟩) L.length cap∧nv=.int .i64 m∧0≤m∧(L.length:Int)+m=1+n∧Own wr w.heap.size g cap L∧Draw.Cur wr c∧Draw.Kept c w wr) (fun _ nv _=>(intOf nv).toNat)
 case atStart=>exact⟨_,0,[],1+n,rfl,rfl,by omega,by simp,o1,c1,k1⟩
 case round=>
  clear o1 c1 k1
  obtain⟨g,cap,L,m,rfl,rfl,m0,hm,o1,c1,k1⟩:=hrel
  have hgw:=(El.Own.lt (E:=E) o1 _ rfl).1
  simp only at hgw
  by_cases hm0:0<m
  ·go_wp2_with fail
   refine(Draw.l1Below _ _ _ c1).mono ?_
   rintro x w2 ⟨s,s0,s1,rfl,c2,q2⟩
   replace o1:=own_kept o1 q2 (by omega)
   replace k1:=k1.trans q2
   have s2:s≤8:=by omega
   clear c1 q2 s1
   go_wp2_with fail
   refine(Draw.l1Once _ _ _ c2).mono ?_
   rintro x w3 ⟨b,rfl,c3,q3⟩
   replace o1:=own_kept o1 q3 (by omega)
   replace k1:=k1.trans q3
   clear c2 q3
   go_wp2_with fail
   refine(Draw.l1Below _ _ _ c3).mono ?_
   rintro x w4 ⟨t,t0,t1,rfl,c4,q4⟩
   replace o1:=own_kept o1 q4 (by omega)
   replace k1:=k1.trans q4
   clear c3 q4 t1
   go_wp2_with fail
   refine(Draw.l1Below _ _ _ c4).mono ?_
   rintro x w5 ⟨u,u0,u1,rfl,c5,q5⟩
   replace o1:=own_kept o1 q5 (by omega)
   replace k1:=k1.trans q5
   clear c4 q5 u1
   have n5:w.heap.size≤(w5.alloc (.cells #[.bool (!b),.int .i64 t,.int .i64 s,.int .i64 u] 95)).heap.size:=by have:=k1.size;simp;omega
   have o5:=El.Own.alloc (E:=E) o1 (.cells #[.bool (!b),.int .i64 t,.int .i64 s,.int .i64 u] 95)
   have c5':=c5.alloc (.cells #[.bool (!b),.int .i64 t,.int .i64 s,.int .i64 u] 95)
   have k5:=k1.alloc (.cells #[.bool (!b),.int .i64 t,.int .i64 s,.int .i64 u] 95)
   have L5:E.Lies (w5.alloc (.cells #[.bool (!b),.int .i64 t,.int .i64 s,.int .i64 u] 95)) (some ⟨w5.heap.size,0,none⟩) [⟨!b,t,s,u⟩]:=El.lies_new rfl
   go_wp2_with (at_builtin;refine wpList_appS ty (by decide) (by rfl) _ _ (by rfl) w.heap.size g cap _ L [⟨!b,t,s,u⟩] rfl (by rfl) o5 n5 (some ⟨w5.heap.size,0,none⟩) 1 1 rfl (by rfl) L5 (fun e=>by cases e) (by simp only [List.length_cons,List.length_nil];omega) ?_;intro g6 cap6 w6 o6 gr6)
   have c6:=cur_grown c5' gr6 (by omega) c5'.lt
   have k6:=kept_grown k5 gr6 (fun x hx=>by cases hx;exact .inl hgw)
   have hlen:(L++[(⟨!b,t,s,u⟩:Rd)]).length=L.length+1:=by simp
   have O6:Own w6 w.heap.size g6 cap6 (L++[(⟨!b,t,s,u⟩:Rd)]):=o6
   go_roundw
   case rel=>exact⟨g6,cap6,L++[(⟨!b,t,s,u⟩:Rd)],m-1,by rw [hlen],rfl,by omega,by rw [hlen];omega,O6,c6,k6⟩
   case measure=>simp [intOf];omega
  ·have hL:0<L.length:=by omega
   have hL4:L.length≤4:=by omega
   have i0:(0:Int)<(L.length:Int):=by omega
   go_wp2_with fail
   refine(Draw.l1Once _ _ _ c1).mono ?_
   rintro x w2 ⟨b,rfl,c2,q2⟩
   replace o1:=own_kept o1 q2 (by omega)
   replace k1:=k1.trans q2
   clear c1 q2
   cases b
   ·go_wp2_with fail
    go_ret
    exact⟨g,cap,L,rfl,by omega,o1,c2,k1⟩
   go_wp2_with fail
   refine(Draw.l1Below _ _ _ c2).mono ?_
   rintro x w3 ⟨q,q0,q1,rfl,c3,qk⟩
   have o3:=own_kept o1 qk (by omega)
   have k3:=k1.trans qk
   have q2:q=0∨q=1∨q=2∨q=3:=by omega
   clear q0 q1 c2 qk o1 k1
   rcases q2 with rfl|rfl|rfl|rfl
   ·go_upto_region 10 with(fail)
    refine RegJ.wp_region_J (W:=fun d wr=>Draw.Cur wr c∧Draw.Kept c w wr∧ ∃L',Own wr w.heap.size g cap L'∧L'.length=L.length) (RegJ.Tell (c) [.eq (.slice (some ⟨g,0,none⟩) L.length cap),.eq (.slice (some ⟨g,0,none⟩) L.length cap),.eq (.pointer (some ⟨g,0,none⟩)),.eq (.pointer (some ⟨g,2,none⟩)),.num,.eq (.pointer (some ⟨c,0,none⟩)),.num,.num,.eq (.pointer (some ⟨g,0,none⟩)),.eq (.pointer (some ⟨g,3,none⟩)),.any]) [some 36,some 37,some 38,some 39,some 40,some 41,some 42,some 43,some 44,some 45,none] (F:=?_) (is:=[0,1,2,3,4,5,6,7,8,9,10]) hmix (by kernel_rfl) (by kernel_rfl) (by kernel_rfl) (by kernel_rfl) (fun x=>?_) (⟨c3.drew,k3.drew,L,o3,rfl⟩) ?_ (fun d x wR hWR hdR hJR=>?_)
    rotate_left 1
    focus (simp only [RegJ.lay,Act.put,Nat.reduceAdd,Nat.zero_add,Draw.lays];rfl)
    focus
     iterate 11 (refine RegJ.Steps.cons (RegJ.StepAt.mk rfl (fun d x w1 hW1 hJ1 hx1 K hK=>?_)) ?_;simp only [Draw.lays]at hK;rotate_left 1)
     exact RegJ.Steps.nil
     ·go_simp;exact hK.out _ _ hW1 RegJ.Tell.same rfl
     ·go_simp;exact hK.out _ _ hW1 RegJ.Tell.same rfl
     ·have j1:x 1=_:=(hJ1.out 1 (by kernel_rfl));rw [j1]at hK;go_simp;exact hK.out _ _ hW1 RegJ.Tell.same rfl
     ·have j2:x 2=_:=(hJ1.out 2 (by kernel_rfl));rw [j2]at hK;go_simp;exact hK.out _ _ hW1 RegJ.Tell.same rfl
     ·have j3:x 3=_:=(hJ1.out 3 (by kernel_rfl));rw [j3]at hK;obtain⟨hc,hk,L',o',hl'⟩:=hW1;have hp':0<L'.length:=(by omega);obtain⟨⟨e0,e1,e2,e3⟩,f0,f1,f2,f3⟩:=own_nonempty o' (k:=0) hp';rw [Nat.zero_mul]at e0 e1 e2 e3 f0 f1 f2 f3;rw [Nat.zero_add]at e1 e2 e3 f1 f2 f3;go_simp;exact hK.out _ _ ⟨hc,hk,L',o',hl'⟩ RegJ.Tell.same ⟨_,rfl⟩
     ·go_simp;exact hK.out _ _ hW1 RegJ.Tell.same rfl
     ·obtain⟨hc,hk,L',o',hl'⟩:=hW1;have j5:x 5=_:=(hJ1.out 5 (by kernel_rfl));rw [j5]at hK;go_simp;refine(l1From _ _ _ _ hc).mono ?_;rintro e wa ⟨y,rfl,cua,ka⟩;go_simp;exact hK.out _ _ ⟨cua,hk.trans ka,L',own_kept o' ka (by omega),hl'⟩ (RegJ.Tell.keep ka) ⟨y,rfl⟩
     ·obtain⟨a4,j4⟩:=(hJ1.out 4 (by kernel_rfl));obtain⟨a6,j6⟩:=(hJ1.out 6 (by kernel_rfl));rw [j4,j6]at hK;go_simp;exact hK.out _ _ hW1 RegJ.Tell.same ⟨_,rfl⟩
     ·have j0:x 0=_:=(hJ1.out 0 (by kernel_rfl));rw [j0]at hK;go_simp;exact hK.out _ _ hW1 RegJ.Tell.same rfl
     ·have j8:x 8=_:=(hJ1.out 8 (by kernel_rfl));rw [j8]at hK;go_simp;exact hK.out _ _ hW1 RegJ.Tell.same rfl
     ·obtain⟨v,j7⟩:=(hJ1.out 7 (by kernel_rfl));have j9:x 9=_:=(hJ1.out 9 (by kernel_rfl));rw [j9]at hK;rw [j7]at hK;obtain⟨hc,hk,L',o',hl'⟩:=hW1;have hp':0<L'.length:=(by omega);obtain⟨⟨e0,e1,e2,e3⟩,f0,f1,f2,f3⟩:=own_nonempty o' (k:=0) hp';rw [Nat.zero_mul]at e0 e1 e2 e3 f0 f1 f2 f3;rw [Nat.zero_add]at e1 e2 e3 f1 f2 f3;have o2:Hid _:=put0 o' hp' v;have k2:Hid (Draw.Kept c w (w1.setCell ⟨g,3,none⟩ (.int .i64 v))):=hk.setCell (.inr hgw) _;have c2:Hid (Draw.Cur (w1.setCell ⟨g,3,none⟩ (.int .i64 v)) c):=cur_setC hc (by show c<g;omega) _;clear o' hk hc;go_simp;exact hK.out undef _ ⟨c2.out,k2.out,_,o2.out,by rw [List.length_set];exact hl'⟩ (RegJ.Tell.pure (by kernel_rfl)) trivial
    obtain⟨cE,kE,L',oE,hlE⟩:=hWR
    have HLE:Hid _:=hlE
    clear hJR hdR o3 c3 k3 hlE
    go_wp2_with fail
    go_ret
    exact⟨g,cap,L',by rw [HLE.out];rfl,by rw [HLE.out];omega,oE,cE,kE⟩
   ·go_wp2_with fail
    refine(Draw.l1DrawPlace _ _ c3).mono ?_
    rintro x w4 ⟨v,rfl,c4,k4⟩
    replace o3:=own_kept o3 k4 (by omega)
    replace k3:=k3.trans k4
    clear c3 k4
    obtain⟨⟨e0,e1,e2,e3⟩,f0,f1,f2,f3⟩:=own_nonempty o3 (k:=0) hL
    rw [Nat.zero_mul]at e1 f1
    rw [Nat.zero_add]at e1 f1
    have o5:Hid _:=put1 o3 hL v
    have k5:Hid (Draw.Kept c w (w4.setCell ⟨g,1,none⟩ (.int .i64 v))):=k3.setCell (.inr hgw) _
    have c5:Hid (Draw.Cur (w4.setCell ⟨g,1,none⟩ (.int .i64 v)) c):=cur_setC c4 (by show c<g;omega) _
    clear e0 e2 e3 f0 f2 f3 o3 k3 c4
    generalize at' L 0=y at *
    go_wp2_with fail
    go_ret
    exact⟨g,cap,_,by rw [List.length_set];rfl,by rw [List.length_set];omega,o5.out,c5.out,k5.out⟩
   ·have n5:w.heap.size≤w3.heap.size:=k3.size
    have L5:=El.Own.lies (E:=E) o3
    go_wp2_with (at_builtin;refine wpList_appS ty (by decide) (by rfl) _ _ (by rfl) w.heap.size g cap _ L L rfl (by rfl) o3 n5 (some ⟨g,0,none⟩) _ cap rfl (by rfl) L5 (fun e=>by cases e) (by omega) ?_;intro g6 cap6 w6 o6 gr6)
    have c6:=cur_grown c3 gr6 (by omega) c3.lt
    have k6:=kept_grown k3 gr6 (fun x hx=>by cases hx;exact .inl hgw)
    have hlen:(L++L).length=L.length+L.length:=by simp
    have HLEN:Hid _:=hlen
    clear hlen
    go_wp2_with fail
    go_ret
    exact⟨g6,cap6,L++L,by rw [HLEN.out];rfl,by rw [HLEN.out];omega,o6,c6,k6⟩
   ·have va:Var 2 (w3.alloc (.cells #[.int .i64 (-1),.int .i64 1000000000,.int .i64 1000000001] 2)) w3.heap.size ([-1,1000000000,1000000001].map (Value.int .i64)):=Var.new w3 _
    have o4:=El.Own.alloc (E:=E) o3 (.cells #[.int .i64 (-1),.int .i64 1000000000,.int .i64 1000000001] 2)
    have k4:=k3.alloc (.cells #[.int .i64 (-1),.int .i64 1000000000,.int .i64 1000000001] 2)
    have c4:=c3.alloc (.cells #[.int .i64 (-1),.int .i64 1000000000,.int .i64 1000000001] 2)
    have hc3:=c3.lt
    clear o3 k3 c3
    go_wp2_with fail
    refine(Draw.l1Below _ _ _ c4).mono ?_
    rintro x w5 ⟨y,y0,y1,rfl,c5,k5⟩
    have y2:y<3:=by omega
    have vb:=va.kept k5 (by omega)
    replace o4:=own_kept o4 k5 (by omega)
    replace k4:=k4.trans k5
    obtain⟨v,hv⟩:=RegJ.int_cell (ns:=[-1,1000000000,1000000001]) (i:=y.toNat) vb (by simp;omega)
    clear va vb y1 c4 k5
    obtain⟨⟨e0,e1,e2,e3⟩,f0,f1,f2,f3⟩:=own_nonempty o4 (k:=0) hL
    rw [Nat.zero_mul]at e2 f2
    rw [Nat.zero_add]at e2 f2
    have o6:Hid _:=put2 o4 hL v
    have k6:Hid (Draw.Kept c w (w5.setCell ⟨g,2,none⟩ (.int .i64 v))):=k4.setCell (.inr hgw) _
    have c6:Hid (Draw.Cur (w5.setCell ⟨g,2,none⟩ (.int .i64 v)) c):=cur_setC c5 (by show c<g;omega) _
    clear e0 e1 e3 f0 f1 f3 o4 k4 c5
    generalize at' L 0=z at *
    go_wp2_with fail
    go_ret
    exact⟨g,cap,_,by rw [List.length_set];rfl,by rw [List.length_set];omega,o6.out,c6.out,k6.out⟩
end Go.Proofs.YtfejobjgbadfjaaGreat.Roa
