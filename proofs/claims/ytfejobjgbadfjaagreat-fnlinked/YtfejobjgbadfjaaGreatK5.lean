/- Contracts of this seat's functions, and their mathematics (TakE TakF). -/
import Derived.Test.YtfejobjgbadfjaaGreatK4
import Derived.Test.YtfejobjgbadfjaaGreatK3
set_option linter.unusedVariables false
set_option linter.unusedSimpArgs false
set_option maxHeartbeats 4000000
namespace Go.Proofs.YtfejobjgbadfjaaGreat.Tak
open Go.RowKit RowG
def cnt {α:Type}(f:α→Bool):List α→Nat
 | []=>0
 | x::l=>if f x=true then cnt f l+1 else 0
theorem cnt_le {α:Type}(f:α→Bool): ∀l:List α,cnt f l≤l.length
 | []=>Nat.le_refl _
 | x::l=>by
  have:=cnt_le f l
  simp only [cnt,List.length_cons]
  split <;>omega
theorem cnt_is {α:Type}{f:α→Bool}: ∀ {l:List α} {k:Nat},k≤l.length→(∀j x,j<k→l[j]? =some x→f x=true)→(∀x,l[k]? =some x→f x=false)→cnt f l=k
 | [],k,h,_,_=>by simp at h;simp [cnt,h]
 | x::l,0,_,_,h=>by
  have h0:f x=false:=h x rfl
  simp [cnt,h0]
 | x::l,k+1,h,ha,hb=>by
  have h0:f x=true:=ha 0 x (by omega) rfl
  have h1:=cnt_is (f:=f) (l:=l) (k:=k) (by simpa using h) (fun j y hj hy=>ha (j+1) y (by omega) (by simpa using hy)) (fun y hy=>hb y (by simpa using hy))
  simp [cnt,h0,h1]
def ahead (p:Pt)(x:Pt):Bool:=decide (x.1<p.1)
theorem triple {α:Type}{E:El α}{w w':World}{r:Option Nat}{p q s:Addr}{x y z:Value}(g:w.grownBy w' r)(h:w.cell? p=some x∧w.cell? q=some y∧w.cell? s=some z)(hp:some p.block≠r)(hq:some q.block≠r)(hs:some s.block≠r):w'.cell? p=some x∧w'.cell? q=some y∧w'.cell? s=some z:=
 ⟨grown_cell g h.1 hp,grown_cell g h.2.1 hq,grown_cell g h.2.2 hs⟩
theorem _root_.Go.Proofs.YtfejobjgbadfjaaGreat.RowG.El.Own.blk_ne {α:Type}{E:El α}{T:TypeId}{w:World}{B:Nat}{a:Option Addr}{c:Nat}{l:List α}(h:E.Own T w B a c l){k:Nat}(hk:k<B):some k≠blk a:=by
 intro e
 cases a with
 | none=>simp [blk]at e
 | some x=>
  have:=(h.lt x rfl).1
  simp [blk]at e
  omega
theorem _root_.Go.Proofs.YtfejobjgbadfjaaGreat.RowG.El.Own.blk_le {α:Type}{E:El α}{T:TypeId}{w:World}{B:Nat}{a:Option Addr}{c:Nat}{l:List α}(h:E.Own T w B a c l){k:Nat}(hk:blk a=some k):B≤k:=by
 cases a with
 | none=>simp [blk]at hk
 | some x=>
  have:=(h.lt x rfl).1
  simp [blk]at hk
  omega
def putP (l:List Pt)(p:Pt):List Pt:=l.take (cnt (ahead p) l)++[p]++l.drop (cnt (ahead p) l)
theorem putP_len (l:List Pt)(p:Pt):(putP l p).length=l.length+1:=by
 have:=cnt_le (ahead p) l
 simp [putP]
 omega
theorem l5PutW {T:TypeId}{pre post:List Value}{ow:Nat}(k:Nat)(nx:Int)(bs:ByteArray)(a:Option Addr)(c:Nat)(cp fi:Int)(en:Bool)(l:List Pt)(pa:Int)(pb:ByteArray)(w:World)
  (hv:Win T pre post ow w k [.int .i64 nx,.string bs,.slice a l.length c,.int .i64 cp,.int .i64 fi,.bool en]) (h:partE.Lies w a l) (hk: ∀x,a=some x→x.block≠k) (hl:l.length≤1048576) (hc:l.length≤c) (ha:a=none→c=0):
  Calls Tryz.prog 116 #[.pointer (some ⟨k,ow,none⟩),.agg #[.int .i64 pa,.string pb]] w fun x w'=> ∃a' c',x=.returned (.tuple #[])∧Win T pre post ow w' k [.int .i64 nx,.string bs,.slice a' (putP l (pa,pb)).length c',.int .i64 cp,.int .i64 fi,.bool en]∧partE.Own 123 w' w.heap.size a' c' (putP l (pa,pb))∧Draw.Kept k w w':=by
 have hmix:=mix
 have v0:=hv.alloc (.cells #[.int .i64 pa,.string pb] 123)
 have bA:Below w.heap.size w (w.alloc (.cells #[.int .i64 pa,.string pb] 123)):=(Below.refl _ _).alloc (Nat.le_refl _) _
 have hb2:=box2 w (.int .i64 pa) (.string pb) 123
 have hVs:Hid (w.heap.size<(w.alloc (.cells #[.int .i64 pa,.string pb] 123)).heap.size):=by show _<_;simp
 have h1:=h.later bA
 go_enter Tryz.func116,Tryz.ntmps116
 go_wp2_with fail
 generalize hV:w.alloc (.cells #[.int .i64 pa,.string pb] 123)=V at *
 clear hV
 have e2:=v0.cell (i:=2) rfl
 have HB2:Hid _:=hb2
 have HV0:Hid (Win T pre post ow V k [.int .i64 nx,.string bs,.slice a l.length c,.int .i64 cp,.int .i64 fi,.bool en]):=v0
 have HKa:Hid (∀x,a=some x→x.block≠k):=hk
 have HNa:Hid (a=none→c=0):=ha
 have bV:Hid (Below w.heap.size w V):=bA
 clear v0 hv h hk ha bA
 have hV1:=hVs.out
 go_loopw [4] (fun iv wr=> ∃j:Nat,j≤l.length∧iv=.int .i64 j∧Hid (∀i x,i<j→l[i]? =some x→ahead (pa,pb) x=true)∧Below V.heap.size V wr) (fun iv _=>l.length-(intOf iv).toNat)
 case atStart=>exact⟨0,Nat.zero_le _,rfl,fun i x hi=>absurd hi (Nat.not_lt_zero _),Below.refl _ _⟩
 case round=>
  clear e2
  obtain⟨j,hj,rfl,hall,hB⟩:=hrel
  have vr:=Win.later HV0.out hB
  have b0:=(hB.cell (p:=⟨w.heap.size,0,none⟩) hV1).trans HB2.out.1
  have d2:=Draw.Later.cell (vr.cell (i:=2) rfl)
  have p0:=Draw.Later.cell b0
  have hL1:=h1.later hB
  have hex:(∃xa xb,l[j]? =some (xa,xb)∧xa<pa)∨(∃xa xb,l[j]? =some (xa,xb)∧ ¬xa<pa)∨j=l.length:=by
   by_cases q:j<l.length
   ·obtain⟨⟨xa,xb⟩,hx⟩: ∃x,l[j]? =some x:=⟨l[j],List.getElem?_eq_getElem q⟩
    by_cases q2:xa<pa
    ·exact .inl ⟨xa,xb,hx,q2⟩
    ·exact .inr (.inl ⟨xa,xb,hx,q2⟩)
   ·exact .inr (.inr (by omega))
  rcases hex with⟨xa,xb,hx,hlt⟩|⟨xa,xb,hx,hlt⟩|hlt
  focus
   have hjl:j<l.length:=(List.getElem?_eq_some_iff.1 hx).1
   have HN:Hid (∀i x,i<j+1→l[i]? =some x→ahead (pa,pb) x=true):=fun i x hi hx'=>by
    by_cases q:i=j
    ·subst q;rw [hx]at hx';cases hx';exact decide_eq_true hlt
    ·exact hall.out i x (by omega) hx'
   rcases hL1 with hL1|⟨b,off,ha',hL1⟩
   ·simp [hL1]at hjl
   ·have c0:=Draw.Later.cell (show wr.cell? ⟨b,off+j*2,none⟩=some (.int .i64 xa)from El.Lies.cell hL1 hx (j:=0) rfl)
    have i0:(0:Int)≤(j:Int):=by omega
    have i1:(j:Int)<(l.length:Int):=by omega
    clear hL1 hx hall
    subst ha'
    go_wp2_with fail
    refine Draw.wp_region_later hmix (by kernel_rfl) ?_
    repeat (go_big_quiet_step (fail))
    refine wpQuiet_nil ?_
    intro wq hw'
    obtain⟨q,hq⟩:=hw'
    have hBq:=q.h
    rw [←hq]at hBq
    clear hq q d2 p0 c0 b0 vr
    have B3:=hB.trans (hBq.mono hB.size)
    clear hBq hB
    go_wp2_with fail
    go_roundw
    case rel=>exact⟨j+1,by omega,by go_num,HN,B3⟩
    case measure=>simp [intOf];omega
  focus
   have hjl:j<l.length:=(List.getElem?_eq_some_iff.1 hx).1
   have HC:Hid (cnt (ahead (pa,pb)) l=j):=cnt_is hj hall.out (fun y hy=>by rw [hx]at hy;cases hy;exact decide_eq_false hlt)
   rcases hL1 with hL1|⟨b,off,ha',hL1⟩
   ·simp [hL1]at hjl
   have c0:=Draw.Later.cell (show wr.cell? ⟨b,off+j*2,none⟩=some (.int .i64 xa)from El.Lies.cell hL1 hx (j:=0) rfl)
   have i0:(0:Int)≤(j:Int):=by omega
   have i1:(j:Int)<(l.length:Int):=by omega
   clear hL1 hx hall
   subst ha'
   go_wp2_with fail
   refine Draw.wp_region_later hmix (by kernel_rfl) ?_
   repeat (go_big_quiet_step (fail))
   refine wpQuiet_nil ?_
   intro wq hw'
   obtain⟨q,hq⟩:=hw'
   have hBq:=q.h
   rw [←hq]at hBq
   clear hq q d2 p0 c0 b0 vr
   have B3:=hB.trans (hBq.mono hB.size)
   clear hBq hB i0 i1 hjl
   generalize (some ⟨b,off,none⟩:Option Addr)=a at *
  rotate_left
  focus
   have HC:Hid (cnt (ahead (pa,pb)) l=j):=cnt_is hj hall.out (fun y hy=>by rw [hlt]at hy;simp at hy)
   have i1: ¬(j:Int)<(l.length:Int):=by omega
   have i1d:decide ((j:Int)<(l.length:Int))=false:=decide_eq_false i1
   have i1e:decide (j<l.length)=false:=decide_eq_false (by omega)
   clear hL1 hall hlt
   go_wp2_with fail
   refine Draw.wp_region_later hmix (by kernel_rfl) ?_
   repeat (go_big_quiet_step (fail))
   refine wpQuiet_nil ?_
   intro wq hw'
   obtain⟨q,hq⟩:=hw'
   have hBq:=q.h
   rw [←hq]at hBq
   clear hq q d2 p0 b0 vr
   have B3:=hB.trans (hBq.mono hB.size)
   clear hBq hB i1 i1d i1e
  all_goals
   have vr:=Win.later HV0.out B3
   have hL1:=h1.later B3
   have c0:=(B3.cell (p:=⟨w.heap.size,0,none⟩) hV1).trans HB2.out.1
   have c1:=(B3.cell (p:=⟨w.heap.size,1,none⟩) hV1).trans HB2.out.2
   have hws:w.heap.size<wq.heap.size:=Nat.lt_of_lt_of_le hV1 B3.size
   have i0:(0:Int)≤(j:Int):=by omega
   have i1:(j:Int)≤(l.length:Int):=by omega
   have i2:(l.length:Int)≤(c:Int):=by omega
   have vA:=vr.alloc (.cells #[] 123)
   have c2:=vA.cell (i:=2) rfl
   have bA:Below wq.heap.size wq (wq.alloc (.cells #[] 123)):=(Below.refl _ _).alloc (Nat.le_refl _) _
   have lA:=hL1.later bA
   have o0:=El.Own.made (E:=partE) (T:=123) wq
   have hz:([]:List Pt).length+(l.drop j).length≤4194304:=by simp;omega
   have hdl:l.length-j=(l.drop j).length:=by simp
   have HDL:Hid (l.length-j=(l.drop j).length):=hdl
   clear hdl
   have hBs:wq.heap.size≤(wq.alloc (.cells #[] 123)).heap.size:=by simp
   go_wp2_with (first|(refine wpList_from typ (by rfl) _ _ (by rfl) a l.length c l rfl (by rfl) .i64 j (by rfl) hj hc lA HNa.out ?_;intro sp hsp1 hsp2 hsp3)|(at_builtin;refine wpList_app typ (by decide) (by rfl) _ _ (by rfl) wq.heap.size (some ⟨wq.heap.size,0,none⟩) 0 0 [] (l.drop j) rfl (by rfl) o0 hBs sp _ _ HDL.out (by rfl) hsp1 hsp2 hz ?_;intro a1 q1 w1 o1 g1;refine stand ?_))
   have hx1:=fun x e=>(o1.lt x e)
   rw [List.nil_append]at o1
   have v1:=vA.grown g1 (by intro g hg;simp [blk]at hg;have:=vr.lt;omega)
   have bw1:Below wq.heap.size wq w1:=grown_below bA (Nat.le_refl _) (by intro g hg;simp [blk]at hg;omega) g1
   have r0:=(bw1.cell (p:=⟨w.heap.size,0,none⟩) hws).trans c0
   have r1:=(bw1.cell (p:=⟨w.heap.size,1,none⟩) hws).trans c1
   have l1:=hL1.later bw1
   have K1:Draw.Kept k w w1:=Draw.Kept.ofBelow (bV.out.trans ((B3.trans (bw1.mono B3.size)).mono bV.out.size)) (Nat.le_refl _)
   clear g1 hsp1 hsp2 hsp3 vA lA o0 hz hBs c0 c1 c2 bA
   show wpList _ _ _ _ _ _
   have e2:=v1.cell (i:=2) rfl
   go_wp2_with fail
   have hkl:k<w1.heap.size:=v1.lt
   have i3:(j:Int)≤(c:Int):=by omega
   have i3n:j≤c:=by omega
   have hwl:w.heap.size<w1.heap.size:=Nat.lt_of_lt_of_le hws bw1.size
   have HTJ:Hid (j=(l.take j).length):=by show _=_;simp;omega
   have HN11:Hid (j+1=(l.take j++[(pa,pb)]).length):=by show _=_;simp;omega
   have HPU:Hid (putP l (pa,pb)=l.take j++[(pa,pb)]++l.drop j):=by show _=_;rw [putP,HC.out]
   have HPL:Hid ((putP l (pa,pb)).length=j+1+(l.length-j)):=by show _=_;rw [putP_len];omega
   have hzA:([]:List Pt).length+(l.take j).length≤4194304:=by simp;omega
   have hzB:(l.take j).length+ [(pa,pb)].length≤4194304:=by simp;omega
   have hzC:(l.take j++[(pa,pb)]).length+(l.drop j).length≤4194304:=by simp;omega
   have oA:=El.Own.made (E:=partE) (T:=123) w1.drew
   have oC:partE.Own 123 ((w1.drew.alloc (.cells #[.int .i64 pa,.string pb] 123)).alloc (.cells #[] 123)) w1.heap.size (some ⟨w1.heap.size+1,0,none⟩) 0 []:=(by have:=El.Own.made (E:=partE) (T:=123) (w1.drew.alloc (.cells #[.int .i64 pa,.string pb] 123));simpa using this:partE.Own 123 ((w1.drew.alloc (.cells #[.int .i64 pa,.string pb] 123)).alloc (.cells #[] 123)) (w1.heap.size+1) (some ⟨w1.heap.size+1,0,none⟩) 0 []).mono (Nat.le_succ _)
   have lB:partE.Lies ((w1.drew.alloc (.cells #[] 123)).alloc (.cells #[.int .i64 pa,.string pb] 123)) (some ⟨w1.heap.size+1,0,none⟩) [(pa,pb)]:=by have:=El.lies_new (E:=partE) (T:=123) (w:=w1.drew.alloc (.cells #[] 123)) (x:=(pa,pb)) (cs:= #[.int .i64 pa,.string pb]) rfl;simpa using this
   have lC:partE.Lies ((w1.drew.alloc (.cells #[.int .i64 pa,.string pb] 123)).alloc (.cells #[] 123)) (some ⟨w1.heap.size,0,none⟩) [(pa,pb)]:=(El.lies_new (E:=partE) (T:=123) (w:=w1.drew) (x:=(pa,pb)) (cs:= #[.int .i64 pa,.string pb]) rfl).alloc _
   have hBA:w1.heap.size≤(w1.drew.alloc (.cells #[] 123)).heap.size:=by simp
   have hBB:w1.heap.size≤((w1.drew.alloc (.cells #[] 123)).alloc (.cells #[.int .i64 pa,.string pb] 123)).heap.size:=by simp;omega
   have hBC:w1.heap.size≤((w1.drew.alloc (.cells #[.int .i64 pa,.string pb] 123)).alloc (.cells #[] 123)).heap.size:=by simp;omega
   refine Draw.wp_region_Z (S:=(fun w'=>w'.cell? ⟨k,ow+2,none⟩=some (.slice a l.length c)∧w'.cell? ⟨w.heap.size,0,none⟩=some (.int .i64 pa)∧w'.cell? ⟨w.heap.size,1,none⟩=some (.string pb))) 16 (by kernel_rfl) ?_ (fun hHeld=>?_)
   focus ((try dsimp only) <;>(first|exact⟨e2,r0,r1⟩|exact hHeld|exact hT|exact⟨alloc_cell hHeld.1 _,alloc_cell hHeld.2.1 _,alloc_cell hHeld.2.2 _⟩))
   refine Draw.wpAnyZ_take (i:=0) (v:=?_) rfl (by kernel_rfl) (by kernel_rfl) (by kernel_rfl) (by kernel_rfl) (fun _ _ _ h=>h) (Or.inl ⟨by rfl,?_⟩) (by assumption) ?_
   rotate_left 1
   focus (intro s h;(try dsimp only at h);go_simp;(try apply And.intro) <;>with_reducible rfl)
   (try simp only [Act.put,Draw.lays])
   refine Draw.wpAnyZ_take (i:=2) (v:=?_) rfl (by kernel_rfl) (by kernel_rfl) (by kernel_rfl) (by kernel_rfl) (fun _ _ _ h=>h) (Or.inl ⟨by rfl,?_⟩) (by assumption) ?_
   rotate_left 1
   focus (intro s h;(try dsimp only at h);go_simp;(try apply And.intro) <;>with_reducible rfl)
   (try simp only [Act.put,Draw.lays])
   refine Draw.wpAnyZ_take (i:=3) (v:=?_) rfl (by kernel_rfl) (by kernel_rfl) (by kernel_rfl) (by kernel_rfl) (fun _ _ _ h=>h) (Or.inl ⟨by rfl,?_⟩) (by assumption) ?_
   rotate_left 1
   focus (intro s h;(try dsimp only at h);go_simp;(try apply And.intro) <;>with_reducible rfl)
   (try simp only [Act.put,Draw.lays])
   refine Draw.wpAnyZ_take (i:=4) (v:=?_) rfl (by kernel_rfl) (by kernel_rfl) (by kernel_rfl) (by kernel_rfl) (fun _ _ _ h=>h) (Or.inl ⟨by rfl,?_⟩) (by assumption) ?_
   rotate_left 1
   focus (intro s h;(try dsimp only at h);go_simp;(try apply And.intro) <;>with_reducible rfl)
   (try simp only [Act.put,Draw.lays])
   refine Draw.wpAnyZ_take (i:=5) (v:=?_) rfl (by kernel_rfl) (by kernel_rfl) (by kernel_rfl) (by kernel_rfl) (fun _ _ _ h=>h) (Or.inl ⟨by rfl,?_⟩) (by assumption) ?_
   rotate_left 1
   focus (intro s h;(try dsimp only at h);go_simp;(try apply And.intro) <;>with_reducible rfl)
   (try simp only [Act.put,Draw.lays])
   refine Draw.wpAnyZ_take (i:=6) (v:=?_) rfl (by kernel_rfl) (by kernel_rfl) (by kernel_rfl) (by kernel_rfl) (fun _ _ _ h=>h) (Or.inl ⟨by rfl,?_⟩) (by assumption) ?_
   rotate_left 1
   focus (intro s h;(try dsimp only at h);go_simp;(try apply And.intro) <;>with_reducible rfl)
   (try simp only [Act.put,Draw.lays])
   refine Draw.wpAnyZ_take (i:=7) (v:=?_) rfl (by kernel_rfl) (by kernel_rfl) (by kernel_rfl) (by kernel_rfl) (fun _ _ _ h=>h) (Or.inl ⟨by rfl,?_⟩) (by assumption) ?_
   rotate_left 1
   focus (intro s h;(try dsimp only at h);go_simp;(try apply And.intro) <;>with_reducible rfl)
   (try simp only [Act.put,Draw.lays])
   refine Draw.wpAnyZ_take (i:=9) (v:=?_) rfl (by kernel_rfl) (by kernel_rfl) (by kernel_rfl) (by kernel_rfl) (fun _ _ _ h=>h) (Or.inl ⟨by rfl,?_⟩) (by assumption) ?_
   rotate_left 1
   focus (intro s h;(try dsimp only at h);go_simp;(try apply And.intro) <;>with_reducible rfl)
   (try simp only [Act.put,Draw.lays])
   refine Draw.wpAnyZ_take (i:=12) (v:=?_) rfl (by kernel_rfl) (by kernel_rfl) (by kernel_rfl) (by kernel_rfl) (fun _ _ _ h=>h) (Or.inl ⟨by rfl,?_⟩) (by assumption) ?_
   rotate_left 1
   focus (intro s h;(try dsimp only at h);go_simp;(try apply And.intro) <;>with_reducible rfl)
   (try simp only [Act.put,Draw.lays])
   refine Draw.wpAnyZ_ready (rs:=[1,10]) (by kernel_rfl) (by simp) ?_
   refine Draw.AllReadyZ.cons rfl (fun K hK=>?_) (Draw.AllReadyZ.cons rfl (fun K hK=>?_) (Draw.AllReadyZ.nil))
   focus
    go_simp
    refine hK.out _ _ ?_ (fun hHeld=>?_)
    focus (intro _;(try dsimp only) <;>(first|exact⟨e2,r0,r1⟩|exact hHeld|exact hT|exact⟨alloc_cell hHeld.1 _,alloc_cell hHeld.2.1 _,alloc_cell hHeld.2.2 _⟩))
    clear hK K
    replace hHeld:=hHeld (by decide)
    (try simp only [Act.put,Draw.lays])
    refine Draw.wpAnyZ_ready (rs:=[8,10]) (by kernel_rfl) (by simp) ?_
    refine Draw.AllReadyZ.cons rfl (fun K hK=>?_) (Draw.AllReadyZ.cons rfl (fun K hK=>?_) (Draw.AllReadyZ.nil))
    focus
     (refine step_app typ (by decide) (by rfl) _ _ (by rfl) w1.heap.size (some ⟨w1.heap.size,0,none⟩) 0 0 [] (l.take j) rfl (by rfl) oA hBA _ _ _ HTJ.out (by rfl) ((l1.drew.alloc (.cells #[] 123)).take j) HNa.out hzA ?_;intro a2 q2 w2 o2 g2;rw [List.nil_append]at o2;rw [Nat.zero_add];have hT:=triple (E:=partE) g2 hHeld (by simp [blk];omega) (by simp [blk];omega) (by simp [blk];omega);have v2:=(v1.drew.alloc (.cells #[] 123)).grown g2 (by intro g hg;simp [blk]at hg;omega);have r2:=(o1.drew.alloc (.cells #[] 123)).grown g2 (by intro x hx;have:=hx1 x hx;simp [blk];omega);have k2:=kept_grown (K1.drew.alloc (.cells #[] 123)) g2 (by intro g hg;simp [blk]at hg;have:=K1.size;omega);have z2:w1.heap.size≤w2.heap.size:=Nat.le_trans hBA g2.size)
     refine hK.out _ _ ?_ (fun hHeld=>?_)
     focus (intro _;(try dsimp only) <;>(first|exact⟨e2,r0,r1⟩|exact hHeld|exact hT|exact⟨alloc_cell hHeld.1 _,alloc_cell hHeld.2.1 _,alloc_cell hHeld.2.2 _⟩))
     clear hK K
     replace hHeld:=hHeld (by decide)
     (try simp only [Act.put,Draw.lays])
     refine Draw.wpAnyZ_ready (rs:=[10]) (by kernel_rfl) (by simp) ?_
     refine Draw.AllReadyZ.cons rfl (fun K hK=>?_) Draw.AllReadyZ.nil
     go_simp
     refine hK.out _ _ ?_ (fun hHeld=>?_)
     focus (intro _;(try dsimp only) <;>(first|exact⟨e2,r0,r1⟩|exact hHeld|exact hT|exact⟨alloc_cell hHeld.1 _,alloc_cell hHeld.2.1 _,alloc_cell hHeld.2.2 _⟩))
     clear hK K
     replace hHeld:=hHeld (by decide)
     (try simp only [Act.put,Draw.lays])
     refine Draw.wpAnyZ_ready (rs:=[11]) (by kernel_rfl) (by simp) ?_
     refine Draw.AllReadyZ.cons rfl (fun K hK=>?_) Draw.AllReadyZ.nil
     (refine step_app typ (by decide) (by rfl) _ _ (by rfl) w1.heap.size a2 q2 j (l.take j) [(pa,pb)] HTJ.out (by rfl) (o2.alloc _) (Nat.le_trans z2 (by simp)) (some ⟨w2.heap.size,0,none⟩) 1 1 rfl (by rfl) (El.lies_new rfl) (by simp) hzB ?_;intro a3 q3 w3 o3 g3;have hT:=triple (E:=partE) g3 hHeld (o2.blk_ne hkl) (o2.blk_ne hwl) (o2.blk_ne hwl);have v3:=(v2.alloc (.cells #[.int .i64 pa,.string pb] 123)).grown g3 (by intro g hg e;exact o2.blk_ne hkl (by rw [e,hg]));have r3:=(r2.alloc (.cells #[.int .i64 pa,.string pb] 123)).grown g3 (by intro x hx;exact o2.blk_ne (hx1 x hx).2);have k3:=kept_grown (k2.alloc (.cells #[.int .i64 pa,.string pb] 123)) g3 (by intro g hg;exact .inl (Nat.le_trans K1.size (o2.blk_le hg)));have z3:w1.heap.size≤w3.heap.size:=Nat.le_trans z2 (Nat.le_trans (by simp) g3.size))
     refine hK.out _ _ ?_ (fun hHeld=>?_)
     focus (intro _;(try dsimp only) <;>(first|exact⟨e2,r0,r1⟩|exact hHeld|exact hT|exact⟨alloc_cell hHeld.1 _,alloc_cell hHeld.2.1 _,alloc_cell hHeld.2.2 _⟩))
     clear hK K
     replace hHeld:=hHeld (by decide)
     (try simp only [Act.put,Draw.lays])
     refine Draw.wpAnyZ_ready (rs:=[13]) (by kernel_rfl) (by simp) ?_
     refine Draw.AllReadyZ.cons rfl (fun K hK=>?_) Draw.AllReadyZ.nil
     (refine step_app typ (by decide) (by rfl) _ _ (by rfl) w1.heap.size a3 q3 (j+1) (l.take j++[(pa,pb)]) (l.drop j) HN11.out (by rfl) o3 z3 a1 _ q1 HDL.out (by rfl) r3.lies r3.none_cap hzC ?_;intro a4 q4 w4 o4 g4;have hT:=triple (E:=partE) g4 hHeld (o3.blk_ne hkl) (o3.blk_ne hwl) (o3.blk_ne hwl);have v4:=v3.grown g4 (by intro g hg e;exact o3.blk_ne hkl (by rw [e,hg]));have k4:=kept_grown k3 g4 (by intro g hg;exact .inl (Nat.le_trans K1.size (o3.blk_le hg)));have cc2:=v4.cell (i:=2) rfl;have ff2:=v4.free 2)
     refine hK.out _ _ ?_ (fun hHeld=>?_)
     focus (intro _;(try dsimp only) <;>(first|exact⟨e2,r0,r1⟩|exact hHeld|exact hT|exact⟨alloc_cell hHeld.1 _,alloc_cell hHeld.2.1 _,alloc_cell hHeld.2.2 _⟩))
     clear hK K
     replace hHeld:=hHeld (by decide)
     (try simp only [Act.put,Draw.lays])
     refine Draw.wpAnyZ_ready (rs:=[14]) (by kernel_rfl) (by simp) ?_
     refine Draw.AllReadyZ.cons rfl (fun K hK=>?_) Draw.AllReadyZ.nil
     go_simp
     refine hK.out _ _ ?_ (fun hHeld=>?_)
     focus (intro _;(try dsimp only) <;>(first|exact⟨e2,r0,r1⟩|exact hHeld|exact hT|exact⟨alloc_cell hHeld.1 _,alloc_cell hHeld.2.1 _,alloc_cell hHeld.2.2 _⟩))
     clear hK K
     replace hHeld:=hHeld (by decide)
     (try simp only [Act.put,Draw.lays])
     refine Draw.wpAnyZ_ready (rs:=[15]) (by kernel_rfl) (by simp) ?_
     refine Draw.AllReadyZ.cons rfl (fun K hK=>?_) Draw.AllReadyZ.nil
     go_simp
     refine hK.out _ _ ?_ (fun hHeld=>?_)
     focus (intro _;(try dsimp only) <;>(first|exact⟨e2,r0,r1⟩|exact hHeld|exact hT|exact⟨alloc_cell hHeld.1 _,alloc_cell hHeld.2.1 _,alloc_cell hHeld.2.2 _⟩))
     clear hK K
     replace hHeld:=hHeld (by decide)
     (try simp only [Act.put,Draw.lays])
     refine Draw.wpAnyZ_ready (rs:=[16]) (by kernel_rfl) (by simp) ?_
     refine Draw.AllReadyZ.cons rfl (fun K hK=>?_) Draw.AllReadyZ.nil
     go_simp
     refine hK.out _ _ (fun h=>absurd rfl h) (fun hHeld=>?_)
     clear hK K hHeld
     (try simp only [Act.put,Draw.lays])
     refine Draw.wpAnyZ_done (by kernel_rfl) ?_ _
    rotate_left 1
    focus
     go_simp
     refine hK.out _ _ ?_ (fun hHeld=>?_)
     focus (intro _;(try dsimp only) <;>(first|exact⟨e2,r0,r1⟩|exact hHeld|exact hT|exact⟨alloc_cell hHeld.1 _,alloc_cell hHeld.2.1 _,alloc_cell hHeld.2.2 _⟩))
     clear hK K
     replace hHeld:=hHeld (by decide)
     (try simp only [Act.put,Draw.lays])
     refine Draw.wpAnyZ_ready (rs:=[8]) (by kernel_rfl) (by simp) ?_
     refine Draw.AllReadyZ.cons rfl (fun K hK=>?_) Draw.AllReadyZ.nil
     (refine step_app typ (by decide) (by rfl) _ _ (by rfl) w1.heap.size (some ⟨w1.heap.size,0,none⟩) 0 0 [] (l.take j) rfl (by rfl) (oA.alloc (.cells #[.int .i64 pa,.string pb] 123)) hBB _ _ _ HTJ.out (by rfl) (((l1.drew.alloc (.cells #[] 123)).alloc (.cells #[.int .i64 pa,.string pb] 123)).take j) HNa.out hzA ?_;intro a2 q2 w2 o2 g2;rw [List.nil_append]at o2;rw [Nat.zero_add];have hT:=triple (E:=partE) g2 hHeld (by simp [blk];omega) (by simp [blk];omega) (by simp [blk];omega);have v2:=((v1.drew.alloc (.cells #[] 123)).alloc (.cells #[.int .i64 pa,.string pb] 123)).grown g2 (by intro g hg;simp [blk]at hg;omega);have r2:=((o1.drew.alloc (.cells #[] 123)).alloc (.cells #[.int .i64 pa,.string pb] 123)).grown g2 (by intro x hx;have:=hx1 x hx;simp [blk];omega);have k2:=kept_grown ((K1.drew.alloc (.cells #[] 123)).alloc (.cells #[.int .i64 pa,.string pb] 123)) g2 (by intro g hg;simp [blk]at hg;have:=K1.size;omega);have z2:w1.heap.size≤w2.heap.size:=Nat.le_trans hBB g2.size;have s2:=lB.grown g2 (by intro x hx;simp [blk];cases hx;simp))
     refine hK.out _ _ ?_ (fun hHeld=>?_)
     focus (intro _;(try dsimp only) <;>(first|exact⟨e2,r0,r1⟩|exact hHeld|exact hT|exact⟨alloc_cell hHeld.1 _,alloc_cell hHeld.2.1 _,alloc_cell hHeld.2.2 _⟩))
     clear hK K
     replace hHeld:=hHeld (by decide)
     (try simp only [Act.put,Draw.lays])
     refine Draw.wpAnyZ_ready (rs:=[11]) (by kernel_rfl) (by simp) ?_
     refine Draw.AllReadyZ.cons rfl (fun K hK=>?_) Draw.AllReadyZ.nil
     (refine step_app typ (by decide) (by rfl) _ _ (by rfl) w1.heap.size a2 q2 j (l.take j) [(pa,pb)] HTJ.out (by rfl) o2 z2 (some ⟨w1.heap.size+1,0,none⟩) 1 1 rfl (by rfl) s2 (by simp) hzB ?_;intro a3 q3 w3 o3 g3;have hT:=triple (E:=partE) g3 hHeld (o2.blk_ne hkl) (o2.blk_ne hwl) (o2.blk_ne hwl);have v3:=v2.grown g3 (by intro g hg e;exact o2.blk_ne hkl (by rw [e,hg]));have r3:=r2.grown g3 (by intro x hx;exact o2.blk_ne (hx1 x hx).2);have k3:=kept_grown k2 g3 (by intro g hg;exact .inl (Nat.le_trans K1.size (o2.blk_le hg)));have z3:w1.heap.size≤w3.heap.size:=Nat.le_trans z2 g3.size)
     refine hK.out _ _ ?_ (fun hHeld=>?_)
     focus (intro _;(try dsimp only) <;>(first|exact⟨e2,r0,r1⟩|exact hHeld|exact hT|exact⟨alloc_cell hHeld.1 _,alloc_cell hHeld.2.1 _,alloc_cell hHeld.2.2 _⟩))
     clear hK K
     replace hHeld:=hHeld (by decide)
     (try simp only [Act.put,Draw.lays])
     refine Draw.wpAnyZ_ready (rs:=[13]) (by kernel_rfl) (by simp) ?_
     refine Draw.AllReadyZ.cons rfl (fun K hK=>?_) Draw.AllReadyZ.nil
     (refine step_app typ (by decide) (by rfl) _ _ (by rfl) w1.heap.size a3 q3 (j+1) (l.take j++[(pa,pb)]) (l.drop j) HN11.out (by rfl) o3 z3 a1 _ q1 HDL.out (by rfl) r3.lies r3.none_cap hzC ?_;intro a4 q4 w4 o4 g4;have hT:=triple (E:=partE) g4 hHeld (o3.blk_ne hkl) (o3.blk_ne hwl) (o3.blk_ne hwl);have v4:=v3.grown g4 (by intro g hg e;exact o3.blk_ne hkl (by rw [e,hg]));have k4:=kept_grown k3 g4 (by intro g hg;exact .inl (Nat.le_trans K1.size (o3.blk_le hg)));have cc2:=v4.cell (i:=2) rfl;have ff2:=v4.free 2)
     refine hK.out _ _ ?_ (fun hHeld=>?_)
     focus (intro _;(try dsimp only) <;>(first|exact⟨e2,r0,r1⟩|exact hHeld|exact hT|exact⟨alloc_cell hHeld.1 _,alloc_cell hHeld.2.1 _,alloc_cell hHeld.2.2 _⟩))
     clear hK K
     replace hHeld:=hHeld (by decide)
     (try simp only [Act.put,Draw.lays])
     refine Draw.wpAnyZ_ready (rs:=[14]) (by kernel_rfl) (by simp) ?_
     refine Draw.AllReadyZ.cons rfl (fun K hK=>?_) Draw.AllReadyZ.nil
     go_simp
     refine hK.out _ _ ?_ (fun hHeld=>?_)
     focus (intro _;(try dsimp only) <;>(first|exact⟨e2,r0,r1⟩|exact hHeld|exact hT|exact⟨alloc_cell hHeld.1 _,alloc_cell hHeld.2.1 _,alloc_cell hHeld.2.2 _⟩))
     clear hK K
     replace hHeld:=hHeld (by decide)
     (try simp only [Act.put,Draw.lays])
     refine Draw.wpAnyZ_ready (rs:=[15]) (by kernel_rfl) (by simp) ?_
     refine Draw.AllReadyZ.cons rfl (fun K hK=>?_) Draw.AllReadyZ.nil
     go_simp
     refine hK.out _ _ ?_ (fun hHeld=>?_)
     focus (intro _;(try dsimp only) <;>(first|exact⟨e2,r0,r1⟩|exact hHeld|exact hT|exact⟨alloc_cell hHeld.1 _,alloc_cell hHeld.2.1 _,alloc_cell hHeld.2.2 _⟩))
     clear hK K
     replace hHeld:=hHeld (by decide)
     (try simp only [Act.put,Draw.lays])
     refine Draw.wpAnyZ_ready (rs:=[16]) (by kernel_rfl) (by simp) ?_
     refine Draw.AllReadyZ.cons rfl (fun K hK=>?_) Draw.AllReadyZ.nil
     go_simp
     refine hK.out _ _ (fun h=>absurd rfl h) (fun hHeld=>?_)
     clear hK K hHeld
     (try simp only [Act.put,Draw.lays])
     refine Draw.wpAnyZ_done (by kernel_rfl) ?_ _
    rotate_left 1
   rotate_left 2
   focus
    go_simp
    refine hK.out _ _ ?_ (fun hHeld=>?_)
    focus (intro _;(try dsimp only) <;>(first|exact⟨e2,r0,r1⟩|exact hHeld|exact hT|exact⟨alloc_cell hHeld.1 _,alloc_cell hHeld.2.1 _,alloc_cell hHeld.2.2 _⟩))
    clear hK K
    replace hHeld:=hHeld (by decide)
    (try simp only [Act.put,Draw.lays])
    refine Draw.wpAnyZ_ready (rs:=[1]) (by kernel_rfl) (by simp) ?_
    refine Draw.AllReadyZ.cons rfl (fun K hK=>?_) Draw.AllReadyZ.nil
    go_simp
    refine hK.out _ _ ?_ (fun hHeld=>?_)
    focus (intro _;(try dsimp only) <;>(first|exact⟨e2,r0,r1⟩|exact hHeld|exact hT|exact⟨alloc_cell hHeld.1 _,alloc_cell hHeld.2.1 _,alloc_cell hHeld.2.2 _⟩))
    clear hK K
    replace hHeld:=hHeld (by decide)
    (try simp only [Act.put,Draw.lays])
    refine Draw.wpAnyZ_ready (rs:=[8]) (by kernel_rfl) (by simp) ?_
    refine Draw.AllReadyZ.cons rfl (fun K hK=>?_) Draw.AllReadyZ.nil
    (refine step_app typ (by decide) (by rfl) _ _ (by rfl) w1.heap.size (some ⟨w1.heap.size+1,0,none⟩) 0 0 [] (l.take j) rfl (by rfl) oC hBC _ _ _ HTJ.out (by rfl) (((l1.drew.alloc (.cells #[.int .i64 pa,.string pb] 123)).alloc (.cells #[] 123)).take j) HNa.out hzA ?_;intro a2 q2 w2 o2 g2;rw [List.nil_append]at o2;rw [Nat.zero_add];have hT:=triple (E:=partE) g2 hHeld (by simp [blk];omega) (by simp [blk];omega) (by simp [blk];omega);have v2:=((v1.drew.alloc (.cells #[.int .i64 pa,.string pb] 123)).alloc (.cells #[] 123)).grown g2 (by intro g hg;simp [blk]at hg;omega);have r2:=((o1.drew.alloc (.cells #[.int .i64 pa,.string pb] 123)).alloc (.cells #[] 123)).grown g2 (by intro x hx;have:=hx1 x hx;simp [blk];omega);have k2:=kept_grown ((K1.drew.alloc (.cells #[.int .i64 pa,.string pb] 123)).alloc (.cells #[] 123)) g2 (by intro g hg;simp [blk]at hg;have:=K1.size;omega);have z2:w1.heap.size≤w2.heap.size:=Nat.le_trans hBC g2.size;have s2:=lC.grown g2 (by intro x hx;simp [blk];cases hx;simp))
    refine hK.out _ _ ?_ (fun hHeld=>?_)
    focus (intro _;(try dsimp only) <;>(first|exact⟨e2,r0,r1⟩|exact hHeld|exact hT|exact⟨alloc_cell hHeld.1 _,alloc_cell hHeld.2.1 _,alloc_cell hHeld.2.2 _⟩))
    clear hK K
    replace hHeld:=hHeld (by decide)
    (try simp only [Act.put,Draw.lays])
    refine Draw.wpAnyZ_ready (rs:=[11]) (by kernel_rfl) (by simp) ?_
    refine Draw.AllReadyZ.cons rfl (fun K hK=>?_) Draw.AllReadyZ.nil
    (refine step_app typ (by decide) (by rfl) _ _ (by rfl) w1.heap.size a2 q2 j (l.take j) [(pa,pb)] HTJ.out (by rfl) o2 z2 (some ⟨w1.heap.size,0,none⟩) 1 1 rfl (by rfl) s2 (by simp) hzB ?_;intro a3 q3 w3 o3 g3;have hT:=triple (E:=partE) g3 hHeld (o2.blk_ne hkl) (o2.blk_ne hwl) (o2.blk_ne hwl);have v3:=v2.grown g3 (by intro g hg e;exact o2.blk_ne hkl (by rw [e,hg]));have r3:=r2.grown g3 (by intro x hx;exact o2.blk_ne (hx1 x hx).2);have k3:=kept_grown k2 g3 (by intro g hg;exact .inl (Nat.le_trans K1.size (o2.blk_le hg)));have z3:w1.heap.size≤w3.heap.size:=Nat.le_trans z2 g3.size)
    refine hK.out _ _ ?_ (fun hHeld=>?_)
    focus (intro _;(try dsimp only) <;>(first|exact⟨e2,r0,r1⟩|exact hHeld|exact hT|exact⟨alloc_cell hHeld.1 _,alloc_cell hHeld.2.1 _,alloc_cell hHeld.2.2 _⟩))
    clear hK K
    replace hHeld:=hHeld (by decide)
    (try simp only [Act.put,Draw.lays])
    refine Draw.wpAnyZ_ready (rs:=[13]) (by kernel_rfl) (by simp) ?_
    refine Draw.AllReadyZ.cons rfl (fun K hK=>?_) Draw.AllReadyZ.nil
    (refine step_app typ (by decide) (by rfl) _ _ (by rfl) w1.heap.size a3 q3 (j+1) (l.take j++[(pa,pb)]) (l.drop j) HN11.out (by rfl) o3 z3 a1 _ q1 HDL.out (by rfl) r3.lies r3.none_cap hzC ?_;intro a4 q4 w4 o4 g4;have hT:=triple (E:=partE) g4 hHeld (o3.blk_ne hkl) (o3.blk_ne hwl) (o3.blk_ne hwl);have v4:=v3.grown g4 (by intro g hg e;exact o3.blk_ne hkl (by rw [e,hg]));have k4:=kept_grown k3 g4 (by intro g hg;exact .inl (Nat.le_trans K1.size (o3.blk_le hg)));have cc2:=v4.cell (i:=2) rfl;have ff2:=v4.free 2)
    refine hK.out _ _ ?_ (fun hHeld=>?_)
    focus (intro _;(try dsimp only) <;>(first|exact⟨e2,r0,r1⟩|exact hHeld|exact hT|exact⟨alloc_cell hHeld.1 _,alloc_cell hHeld.2.1 _,alloc_cell hHeld.2.2 _⟩))
    clear hK K
    replace hHeld:=hHeld (by decide)
    (try simp only [Act.put,Draw.lays])
    refine Draw.wpAnyZ_ready (rs:=[14]) (by kernel_rfl) (by simp) ?_
    refine Draw.AllReadyZ.cons rfl (fun K hK=>?_) Draw.AllReadyZ.nil
    go_simp
    refine hK.out _ _ ?_ (fun hHeld=>?_)
    focus (intro _;(try dsimp only) <;>(first|exact⟨e2,r0,r1⟩|exact hHeld|exact hT|exact⟨alloc_cell hHeld.1 _,alloc_cell hHeld.2.1 _,alloc_cell hHeld.2.2 _⟩))
    clear hK K
    replace hHeld:=hHeld (by decide)
    (try simp only [Act.put,Draw.lays])
    refine Draw.wpAnyZ_ready (rs:=[15]) (by kernel_rfl) (by simp) ?_
    refine Draw.AllReadyZ.cons rfl (fun K hK=>?_) Draw.AllReadyZ.nil
    go_simp
    refine hK.out _ _ ?_ (fun hHeld=>?_)
    focus (intro _;(try dsimp only) <;>(first|exact⟨e2,r0,r1⟩|exact hHeld|exact hT|exact⟨alloc_cell hHeld.1 _,alloc_cell hHeld.2.1 _,alloc_cell hHeld.2.2 _⟩))
    clear hK K
    replace hHeld:=hHeld (by decide)
    (try simp only [Act.put,Draw.lays])
    refine Draw.wpAnyZ_ready (rs:=[16]) (by kernel_rfl) (by simp) ?_
    refine Draw.AllReadyZ.cons rfl (fun K hK=>?_) Draw.AllReadyZ.nil
    go_simp
    refine hK.out _ _ (fun h=>absurd rfl h) (fun hHeld=>?_)
    clear hK K hHeld
    (try simp only [Act.put,Draw.lays])
    refine Draw.wpAnyZ_done (by kernel_rfl) ?_ _
   rotate_left 1
   all_goals
    go_wp2_with fail
    go_end0
    refine⟨a4,q4,rfl,by rw [HPL.out];exact v4.set 2 _,?_,k4.setCell (.inl rfl) _⟩
    rw [HPU.out]
    exact(o4.mono K1.size).setCell (fun x e=>by have:=(o4.lt x e).1;dsimp only;omega) _
theorem l5Put (k:Nat)(nx:Int)(bs:ByteArray)(a:Option Addr)(c:Nat)(cp fi:Int)(en:Bool)(l:List Pt)(pa:Int)(pb:ByteArray)(w:World)
  (hv:Var 44 w k [.int .i64 nx,.string bs,.slice a l.length c,.int .i64 cp,.int .i64 fi,.bool en]) (h:partE.Lies w a l) (hk: ∀x,a=some x→x.block≠k) (hl:l.length≤1048576) (hc:l.length≤c) (ha:a=none→c=0):
  Calls Tryz.prog 116 #[.pointer (some ⟨k,0,none⟩),.agg #[.int .i64 pa,.string pb]] w fun x w'=> ∃a' c',x=.returned (.tuple #[])∧Var 44 w' k [.int .i64 nx,.string bs,.slice a' (putP l (pa,pb)).length c',.int .i64 cp,.int .i64 fi,.bool en]∧partE.Own 123 w' w.heap.size a' c' (putP l (pa,pb))∧Draw.Kept k w w':=
 (l5PutW k nx bs a c cp fi en l pa pb w hv.win h hk hl hc ha).mono fun _ _ ⟨a',c',h1,h2,h3,h4⟩=>⟨a',c',h1,h2.whole,h3,h4⟩
end Go.Proofs.YtfejobjgbadfjaaGreat.Tak
namespace Go.Proofs.YtfejobjgbadfjaaGreat.Tak
open Go.RowKit RowG
def joinT:Int→ByteArray→List Pt→Int×ByteArray×List Pt
 | nx,bs,[]=>(nx,bs,[])
 | nx,bs,p::r=>if p.1=nx then joinT (endP p) (bs++p.2) r else(nx,bs,p::r)
def tot:List Pt→Nat
 | []=>0
 | p::r=>p.2.size+tot r
def lenAt (k ow:Nat)(w:World):Nat:=match w.cell? ⟨k,ow+2,none⟩with
 | some (.slice _ n _)=>n
 | _=>0
theorem lenAt_is {k ow:Nat}{w:World}{a:Option Addr}{n c:Nat}(h:w.cell? ⟨k,ow+2,none⟩=some (.slice a n c)):lenAt k ow w=n:=by unfold lenAt;rw [h]
theorem l5JoinW {T:TypeId}{pre post:List Value}{ow:Nat}(k B:Nat)(nx0:Int)(bs0:ByteArray)(a0:Option Addr)(c0:Nat)(cp fi:Int)(en:Bool)(l0:List Pt)(w:World)
  (hv:Win T pre post ow w k [.int .i64 nx0,.string bs0,.slice a0 l0.length c0,.int .i64 cp,.int .i64 fi,.bool en]) (ho:partE.Own 123 w B a0 c0 l0) (hB:B≤w.heap.size) (hka: ∀x,a0=some x→x.block≠k) (hl:l0.length≤1048576) (hp:Bd l0) (ht:bs0.size+tot l0≤1099511627776):
  Calls Tryz.prog 117 #[.pointer (some ⟨k,ow,none⟩)] w fun x w'=> ∃a' c',x=.returned (.tuple #[])∧Win T pre post ow w' k [.int .i64 (joinT nx0 bs0 l0).1,.string (joinT nx0 bs0 l0).2.1,.slice a' (joinT nx0 bs0 l0).2.2.length c',.int .i64 cp,.int .i64 fi,.bool en]∧partE.Own 123 w' B a' c' (joinT nx0 bs0 l0).2.2∧Draw.Kept k w w'∧ ∀x,a'=some x→x.block≠k:=by
 have hmix:=mix
 go_enter Tryz.func117,Tryz.ntmps117
 go_wp2_with fail
 go_loopw [] (fun wr=> ∃(nx:Int) (bs:ByteArray) (a:Option Addr) (c:Nat) (l:List Pt),Win T pre post ow wr k [.int .i64 nx,.string bs,.slice a l.length c,.int .i64 cp,.int .i64 fi,.bool en]∧partE.Own 123 wr B a c l∧Draw.Kept k w wr∧Hid (joinT nx0 bs0 l0=joinT nx bs l)∧l.length≤1048576∧Hid (Bd l)∧bs.size+tot l≤1099511627776∧Hid (∀x,a=some x→x.block≠k)) (fun wr=>lenAt k ow wr)
 case atStart=>exact⟨nx0,bs0,a0,c0,l0,hv,ho,Draw.Kept.refl _ _,rfl,hl,hp,ht,hka⟩
 case round=>
  clear hv ho hl hp ht hka
  obtain⟨nx,bs,a,c,l,hv,ho,hK,HJ,hl,HP,ht,HKA⟩:=hrel
  have hBr:B≤wr.heap.size:=Nat.le_trans hB hK.size
  have d2:=Draw.Later.cell (hv.cell (i:=2) rfl)
  have d0:=Draw.Later.cell (hv.cell0 rfl)
  have HLN:Hid (lenAt k ow wr=l.length):=lenAt_is (hv.cell (i:=2) rfl)
  cases l with
  | nil=>
   have HF:Hid (joinT nx0 bs0 l0=(nx,bs,[])):=by show _=_;rw [HJ.out,joinT]
   have hz:([]:List Pt).length=0:=rfl
   simp only [List.length_nil]at d2
   clear HJ HLN
   go_wp2_with fail
   refine Draw.wp_region_later hmix (by kernel_rfl) ?_
   repeat (go_big_quiet_step (fail))
   refine wpQuiet_nil ?_
   intro wq hw'
   obtain⟨q,hq⟩:=hw'
   have hBq:=q.h
   rw [←hq]at hBq
   clear hq q d2 d0
   go_wp2_with fail
   go_end0
   exact⟨a,c,rfl,by rw [HF.out];exact hv.later hBq,by rw [HF.out];exact ho.later hBq,hK.trans (Draw.Kept.ofBelow hBq (Nat.le_refl _)),HKA.out⟩
  | cons p r=>
   obtain⟨pa,pb⟩:=p
   obtain⟨hp0,hpa,hpb⟩:=HP.out _ (List.mem_cons_self ..)
   replace hp0: -1152921504606846976≤pa:=hp0
   replace hpa:pa≤4611686018427387904:=hpa
   replace hpb:pb.size≤2097152:=hpb
   rcases ho.lies with hL|⟨b,off,ha,hL⟩
   ·cases hL
   have c0':wr.cell? ⟨b,off,none⟩=some (.int .i64 pa):=by simpa using El.Lies.cell hL (i:=0) (j:=0) rfl rfl
   have c1':wr.cell? ⟨b,off+1,none⟩=some (.string pb):=by simpa using El.Lies.cell hL (i:=0) (j:=1) rfl rfl
   have e0:=Draw.Later.cell c0'
   have hrl:((pa,pb)::r).length=r.length+1:=rfl
   have i0:(0:Int)<((r.length:Int)+1):=by omega
   have HA:Hid (a=some ⟨b,off,none⟩):=ha
   have hob:=ho.lt ⟨b,off,none⟩ ha
   replace hob:B≤b∧b<wr.heap.size:=hob
   rw [hrl,ha]at d2
   clear hL
   by_cases hx:pa=nx
   ·subst hx
    have HF:Hid (joinT nx0 bs0 l0=joinT (endP (pa,pb)) (bs++pb) r):=by show _=_;rw [HJ.out,joinT,if_pos rfl]
    clear HJ
    go_wp2_with fail
    refine Draw.wp_region_later hmix (by kernel_rfl) ?_
    repeat (go_big_quiet_step (fail))
    refine wpQuiet_nil ?_
    intro wq hw'
    obtain⟨q,hq⟩:=hw'
    have hBq:=q.h
    rw [←hq]at hBq
    clear hq q d2 d0 e0
    have v1:=hv.later hBq
    have o1:=ho.later hBq
    have K1:=hK.trans (Draw.Kept.ofBelow hBq (Nat.le_refl _))
    have e0:=(hBq.cell (p:=⟨b,off,none⟩) hob.2).trans c0'
    have e1:=(hBq.cell (p:=⟨b,off+1,none⟩) hob.2).trans c1'
    have hb1:b<wq.heap.size:=Nat.lt_of_lt_of_le hob.2 hBq.size
    clear hBq hv ho hK c0' c1' ha
    have s1:=v1.cell (i:=1) rfl
    have s2:=v1.cell (i:=2) rfl
    rw [HA.out,hrl]at s2
    have f1:=v1.free 1
    have hkb:k≠b:=fun q=>HKA.out ⟨b,off,none⟩ HA.out q.symm
    have ht2:bs.size+(pb.size+tot r)≤1099511627776:=ht
    have hcat: ¬9223372036854775807<bs.size+pb.size:=by omega
    go_wp2_with fail
    go_region
    have v2:=(v1.set 1 (.string (bs++pb))).drew
    have o2:=(o1.setCell (p:=⟨k,ow+1,none⟩) (fun x e=>HKA.out x e) (.string (bs++pb))).drew
    have K2:=(K1.setCell (p:=⟨k,ow+1,none⟩) (.inl rfl) (.string (bs++pb))).drew
    have g0:(wq.setCell ⟨k,ow+1,none⟩ (.string (bs++pb))).drew.cell? ⟨b,off,none⟩=some (.int .i64 pa):=(World.cell?_of_block (w:=wq) (Below.heap_setCell _ _ _ _ (Ne.symm hkb))).trans e0
    have g1:(wq.setCell ⟨k,ow+1,none⟩ (.string (bs++pb))).drew.cell? ⟨b,off+1,none⟩=some (.string pb):=(World.cell?_of_block (w:=wq) (Below.heap_setCell _ _ _ _ (Ne.symm hkb))).trans e1
    simp only [List.set_cons_succ,List.set_cons_zero]at v2
    have hZ: ∀q:World,Calls Tryz.prog 81 #[.agg #[.int .i64 pa,.string pb]] q fun x w'=>x=.returned (.int .i64 (endP (pa,pb)))∧Below q.heap.size q w':=fun q=>l5End pa pb q hpa (by omega) (by omega)
    generalize endP (pa,pb)=Z at *
    clear v1 o1 K1 e0 e1 s1 s2 f1 hb1 hcat
    generalize (wq.setCell ⟨k,ow+1,none⟩ (.string (bs++pb))).drew=W2 at *
    have HBB:Hid ((bs++pb).size+tot r≤1099511627776):=by show _≤_;rw [ByteArray.size_append];omega
    generalize bs++pb=bb at *
    have s2:=v2.cell (i:=2) rfl
    rw [HA.out,hrl]at s2
    go_wp2_with fail
    refine(hZ _).mono ?_
    rintro x w3 ⟨rfl,b3⟩
    have v3:=v2.later b3
    have o3:=o2.later b3
    have K3:=K2.trans (Draw.Kept.ofBelow b3 (Nat.le_refl _))
    have t0:=v3.cell0 rfl
    have t1:=v3.free0
    clear v2 o2 K2 g0 g1 s2 hZ b3
    go_upto_region 3 with(fail)
    have v4:=v3.set0 (.int .i64 Z)
    have o4:=o3.setCell (p:=⟨k,ow,none⟩) (fun x e=>HKA.out x e) (.int .i64 Z)
    have K4:=K3.setCell (p:=⟨k,ow,none⟩) (.inl rfl) (.int .i64 Z)
    simp only [List.set_cons_succ,List.set_cons_zero]at v4
    clear v3 o3 K3 t0 t1
    generalize w3.setCell ⟨k,ow,none⟩ (.int .i64 Z)=W4 at *
    have hB4:B≤W4.heap.size:=Nat.le_trans hB K4.size
    have v5:=v4.alloc (.cells #[] 123)
    have o5:=o4.alloc (.cells #[] 123)
    have K5:=K4.alloc (.cells #[] 123)
    have on:=(El.Own.made (E:=partE) (T:=123) W4)
    have hz:([]:List Pt).length+(((pa,pb)::r).drop 1).length≤4194304:=by simp;simp at hl;omega
    have HD1:Hid (((pa,pb)::r).length-1=(((pa,pb)::r).drop 1).length):=by show _=_;simp
    have h1l:1≤((pa,pb)::r).length:=by simp
    have hBs:W4.heap.size≤(W4.alloc (.cells #[] 123)).heap.size:=by simp
    have s5:=v5.cell (i:=2) rfl
    have l5:=o5.lies
    have hc5:=o5.cap
    have hn5:=o5.none_cap
    clear hrl
    go_wp2_with (first|(refine wpList_from typ (by rfl) _ _ (by rfl) a _ c ((pa,pb)::r) rfl (by rfl) .i64 1 (by rfl) h1l hc5 l5 hn5 ?_;intro sp hsp1 hsp2 hsp3)|(at_builtin;refine wpList_app typ (by decide) (by rfl) _ _ (by rfl) W4.heap.size (some ⟨W4.heap.size,0,none⟩) 0 0 [] (((pa,pb)::r).drop 1) rfl (by rfl) on hBs sp _ _ HD1.out (by rfl) hsp1 hsp2 hz ?_;intro a6 q6 w6 o6 g6;refine stand ?_))
    rw [List.nil_append]at o6
    replace o6:partE.Own 123 w6 W4.heap.size a6 q6 r:=o6
    have v6:=v5.grown g6 (by intro g hg;simp [blk]at hg;have:=v4.lt;omega)
    have K6:=kept_grown K5 g6 (by intro g hg;simp [blk]at hg;have:=K4.size;omega)
    have s6:=v6.cell (i:=2) rfl
    have f6:=v6.free 2
    have hkl:=v4.lt
    clear v4 o4 K4 v5 o5 K5 on hz HD1 h1l hBs s5 l5 hc5 hn5 hsp1 hsp2 hsp3 g6
    show wpList _ _ _ _ _ _
    go_wp2_with fail
    have v7:=v6.set 2 (.slice a6 r.length q6)
    have o7:=(o6.mono hB4).setCell (p:=⟨k,ow+2,none⟩) (fun x e=>by have:=(o6.lt x e).1;dsimp only;omega) (.slice a6 r.length q6)
    have K7:=K6.setCell (p:=⟨k,ow+2,none⟩) (.inl rfl) (.slice a6 r.length q6)
    have HM:Hid (lenAt k ow (w6.setCell ⟨k,ow+2,none⟩ (.slice a6 r.length q6))=r.length):=lenAt_is (v7.cell (i:=2) rfl)
    go_roundw
    case rel=>exact⟨Z,bb,a6,q6,r,v7,o7,K7,HF,by simp at hl;omega,fun p hp=>HP.out p (List.mem_cons_of_mem _ hp),HBB.out,fun x e=>by have:=(o6.lt x e).1;omega⟩
    case measure=>rw [HM.out,HLN.out];simp
   ·have HF:Hid (joinT nx0 bs0 l0=(nx,bs,(pa,pb)::r)):=by show _=_;rw [HJ.out,joinT,if_neg hx]
    have hxd:decide (pa=nx)=false:=decide_eq_false hx
    have hxb:(pa==nx)=false:=by simp [hx]
    clear HJ HLN
    go_wp2_with fail
    refine Draw.wp_region_later hmix (by kernel_rfl) ?_
    repeat (go_big_quiet_step (fail))
    refine wpQuiet_nil ?_
    intro wq hw'
    obtain⟨q,hq⟩:=hw'
    have hBq:=q.h
    rw [←hq]at hBq
    clear hq q d2 d0 e0
    go_wp2_with fail
    go_end0
    exact⟨a,c,rfl,by rw [HF.out];exact hv.later hBq,by rw [HF.out];exact ho.later hBq,hK.trans (Draw.Kept.ofBelow hBq (Nat.le_refl _)),HKA.out⟩
theorem l5Join (k B:Nat)(nx0:Int)(bs0:ByteArray)(a0:Option Addr)(c0:Nat)(cp fi:Int)(en:Bool)(l0:List Pt)(w:World)
  (hv:Var 44 w k [.int .i64 nx0,.string bs0,.slice a0 l0.length c0,.int .i64 cp,.int .i64 fi,.bool en]) (ho:partE.Own 123 w B a0 c0 l0) (hB:B≤w.heap.size) (hka: ∀x,a0=some x→x.block≠k) (hl:l0.length≤1048576) (hp:Bd l0) (ht:bs0.size+tot l0≤1099511627776):
  Calls Tryz.prog 117 #[.pointer (some ⟨k,0,none⟩)] w fun x w'=> ∃a' c',x=.returned (.tuple #[])∧Var 44 w' k [.int .i64 (joinT nx0 bs0 l0).1,.string (joinT nx0 bs0 l0).2.1,.slice a' (joinT nx0 bs0 l0).2.2.length c',.int .i64 cp,.int .i64 fi,.bool en]∧partE.Own 123 w' B a' c' (joinT nx0 bs0 l0).2.2∧Draw.Kept k w w'∧ ∀x,a'=some x→x.block≠k:=
 (l5JoinW k B nx0 bs0 a0 c0 cp fi en l0 w hv.win ho hB hka hl hp ht).mono fun _ _ ⟨a',c',h1,h2,h3⟩=>⟨a',c',h1,h2.whole,h3⟩
end Go.Proofs.YtfejobjgbadfjaaGreat.Tak
