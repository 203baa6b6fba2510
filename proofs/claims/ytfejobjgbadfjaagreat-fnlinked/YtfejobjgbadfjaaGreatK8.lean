/- Contracts of this seat's functions, and their mathematics (HopD GivW RegJ Sh). -/
import Derived.Test.YtfejobjgbadfjaaGreatK7
import Derived.Test.YtfejobjgbadfjaaGreatK3
import Derived.Test.YtfejobjgbadfjaaGreatK4
import Derived.Test.YtfejobjgbadfjaaGreatK1
set_option linter.unusedVariables false
set_option linter.unusedSimpArgs false
set_option maxRecDepth 10000
set_option maxHeartbeats 4000000
namespace Go.Proofs.YtfejobjgbadfjaaGreat.Hop
open Go.RowKit RowG
structure Keep (k:Nat)(r:Option Nat)(w w':World):Prop where
 os:w'.os=w.os
 tape:w'.tape=w.tape
 output:w'.output=w.output
 size:w.heap.size≤w'.heap.size
 block: ∀i,i<w.heap.size→i≠k→some i≠r→w'.heap[i]? =w.heap[i]?
theorem Keep.ofKept {k:Nat}{r:Option Nat}{w w':World}(h:Draw.Kept k w w'):Keep k r w w':=⟨h.os,h.tape,h.output,h.size,fun i hi hk _=>h.block i hi hk⟩
theorem Keep.ofBelow {k:Nat}{r:Option Nat}{w w':World}(h:Below w.heap.size w w'):Keep k r w w':=⟨h.os,h.tape,h.output,h.size,fun i hi _ _=>h.block i hi⟩
theorem Keep.refl (k:Nat)(r:Option Nat)(w:World):Keep k r w w:=⟨rfl,rfl,rfl,Nat.le_refl _,fun _ _ _ _=>rfl⟩
theorem Keep.trans {k:Nat}{r r':Option Nat}{a b d:World}(h:Keep k r a b)(h':Keep k r' b d)(hr: ∀i,r'=some i→a.heap.size≤i∨r=some i):Keep k r a d:=
 ⟨h'.os.trans h.os,h'.tape.trans h.tape,h'.output.trans h.output,Nat.le_trans h.size h'.size,fun i hi hk hn=>(h'.block i (Nat.lt_of_lt_of_le hi h.size) hk (fun e=>by rcases hr i e.symm with q|q <;>first|omega|exact hn q.symm)).trans (h.block i hi hk hn)⟩
theorem Keep.below {k B:Nat}{r:Option Nat}{w w':World}(h:Keep k r w w')(hB:B≤k)(hr: ∀i,r=some i→B≤i)(hs:B≤w.heap.size):Below B w w':=
 ⟨h.os,h.tape,h.output,h.size,fun i hi=>h.block i (by omega) (by omega) (fun e=>by have:=hr i e.symm;omega)⟩
theorem Keep.grown {k:Nat}{r:Option Nat}{w0 w w':World}(h:Keep k r w0 w)(g:w.grownBy w' r):Keep k r w0 w':=
 ⟨g.os.trans h.os,g.tape.trans h.tape,g.output.trans h.output,Nat.le_trans h.size g.size,fun i hi hk hn=>(g.block i (Nat.lt_of_lt_of_le hi h.size) hn).trans (h.block i hi hk hn)⟩
theorem Keep.alloc {k:Nat}{r:Option Nat}{w0 w:World}(h:Keep k r w0 w)(o:Obj):Keep k r w0 (w.alloc o):=
 ⟨h.os,h.tape,h.output,by have:=h.size;simp;omega,fun i hi hk hn=>(Below.heap_alloc _ _ _ (Nat.lt_of_lt_of_le hi h.size)).trans (h.block i hi hk hn)⟩
theorem Keep.setCell {k:Nat}{r:Option Nat}{w0 w:World}(h:Keep k r w0 w){p:Addr}(hp:p.block=k∨w0.heap.size≤p.block)(v:Value):Keep k r w0 (w.setCell p v):=
 ⟨h.os,h.tape,h.output,by simpa [World.setCell]using h.size,fun i hi hk hn=>(Below.heap_setCell _ _ _ _ (by omega)).trans (h.block i hi hk hn)⟩
theorem Keep.drew {k:Nat}{r:Option Nat}{w0 w:World}(h:Keep k r w0 w):Keep k r w0 w.drew:=⟨h.os,h.tape,h.output,h.size,h.block⟩
theorem _root_.Go.Proofs.YtfejobjgbadfjaaGreat.RowG.El.Own.keep {α:Type}{E:El α}{T:TypeId}{w w':World}{B k:Nat}{r:Option Nat}{a:Option Addr}{c:Nat}{l:List α}(h:E.Own T w B a c l)(hk:Keep k r w w')(h1: ∀x,a=some x→x.block≠k)(h2: ∀x,a=some x→some x.block≠r):E.Own T w' B a c l:=
 h.same fun x hx=>hk.block x.block (h.lt x hx).2 (h1 x hx) (h2 x hx)
theorem own_row {α:Type}{E:El α}{e:TypeId}{w:World}{B:Nat}{a:Option Addr}{c:Nat}{l:List α}(o:E.Own e w B a c l): ∀x,a=some x→ ∃cs,w.heap[x.block]? =some (.cells cs e (0,0)):=by
 intro x hx
 subst hx
 unfold El.Own at o
 rcases o.2 with⟨h1,_⟩|⟨g,cap,cur,h1,_,hgb,_⟩
 ·cases h1
 ·cases h1
  exact⟨_,hgb⟩
theorem own_two {α β:Type}{E:El α}{E':El β}{e e':TypeId}{w:World}{B B':Nat}{a a':Option Addr}{c c':Nat}{l:List α}{l':List β}(hne:e≠e')(o:E.Own e w B a c l)(o':E'.Own e' w B' a' c' l'): ∀x,a=some x→some x.block≠blk a':=by
 intro x hx he
 obtain⟨cs,h1⟩:=own_row o x hx
 cases a' with
 | none=>simp [blk]at he
 | some y=>
  simp [blk]at he
  obtain⟨cs',h2⟩:=own_row o' y rfl
  rw [he,h2]at h1
  cases h1
  exact hne rfl
theorem own_win {α:Type}{E:El α}{e T:TypeId}{pre post:List Value}{ow:Nat}{w:World}{B k:Nat}{a:Option Addr}{c:Nat}{l:List α}{vs:List Value}(hne:T≠e)(o:E.Own e w B a c l)(v:Win T pre post ow w k vs): ∀x,a=some x→x.block≠k:=by
 intro x hx hk
 obtain⟨cs,h1⟩:=own_row o x hx
 have h2:=v.blk
 rw [hk,h2]at h1
 cases h1
 exact hne rfl
def postB (h:Hp)(x:Lt):Bool:= !decide (h.ws.length=30)&&letB x
def postH (h:Hp)(x:Lt):Hp:=if postB h x then⟨h.g,h.t,h.ws++[x]⟩else h
theorem l7PostL {T:TypeId}{pre post:List Value}{ow:Nat}(hT:T≠75)(k B:Nat)(h:Hp)(aT:Option Addr)(cT:Nat)(aW:Option Addr)(cW:Nat)(x:Lt)(w:World)
  (hv:Win T pre post ow w k (h.c aT cT aW cW)) (ho:letE.Own 75 w B aW cW h.ws) (hB:B≤w.heap.size) (hl:h.ws.length≤524288) (hx:x.bs.size≤2097152):
  Calls Tryz.prog 91 #[.pointer (some ⟨k,ow,none⟩),x.v] w fun e w'=> ∃aW' cW',e=.returned (.bool (postB h x))∧Win T pre post ow w' k ((postH h x).c aT cT aW' cW')∧letE.Own 75 w' B aW' cW' (postH h x).ws∧Keep k (blk aW) w w'∧Locd w.heap.size aW aW':=by
 have hmix:=mix
 obtain⟨V,hV⟩: ∃z,Hid (z=w.alloc (.cells #[.bool x.bk,.int .i64 x.rd,.int .i64 x.pl,.string x.bs,.bool x.en,.int .i64 x.lm,.bool x.dn] 75)):=⟨_,rfl⟩
 have v3:Var 75 V w.heap.size [.bool x.bk,.int .i64 x.rd,.int .i64 x.pl,.string x.bs,.bool x.en,.int .i64 x.lm,.bool x.dn]:=by rw [hV.out];exact Var.new w _
 have b0:Below w.heap.size w V:=by rw [hV.out];exact(Below.refl _ _).alloc (Nat.le_refl _) _
 have hL:=fun w'=>l7Letter x w' hx
 dsimp only [Lt.v]at hL
 have v0:=hv.later b0
 have o0:=ho.later b0
 have HP:Hid (postB h x=(!decide (h.ws.length=30)&&letB x)):=rfl
 have HQ:Hid (postH h x=if postB h x then⟨h.g,h.t,h.ws++[x]⟩else h):=rfl
 generalize postB h x=pb at *
 generalize postH h x=ph at *
 go_enter Tryz.func91,Tryz.ntmps91
 go_upto_region 1 with(fail)
 rw [←hV.out]
 clear hV
 have e12:=v0.cell (i:=12) rfl
 obtain⟨d0,d1,d2,d3,d4,d5,d6⟩:=v3.c7
 by_cases h30:h.ws.length=30
 case pos=>
  have h30i:(h.ws.length:Int)=30:=by omega
  have hpb:pb=false:=by rw [HP.out,decide_eq_true h30];rfl
  subst hpb
  have hph:ph=h:=HQ.out
  subst hph
  go_wp2_with fail
  go_ret
  exact⟨aW,cW,rfl,v0,o0,Keep.ofBelow b0,Locd.refl _ _⟩
 have h30i: ¬(h.ws.length:Int)=30:=by omega
 rw [decide_eq_false h30]at HP
 go_wp2_with fail
 refine(hL _).mono ?_
 rintro e w1 ⟨rfl,b1⟩
 replace v0:=v0.later b1
 replace o0:=o0.later b1
 replace v3:=v3.later b1
 have B1:=b0.trans (b1.mono b0.size)
 clear b0 b1 e12 d0 d1 d2 d3 d4 d5 d6 hL
 have hws:w.heap.size<w1.heap.size:=v3.lt
 cases hlb:letB x
 case false=>
  have hpb:pb=false:=by rw [HP.out,hlb];rfl
  subst hpb
  have hph:ph=h:=HQ.out
  subst hph
  go_wp2_with fail
  go_ret
  exact⟨aW,cW,rfl,v0,o0,Keep.ofBelow B1,Locd.refl _ _⟩
 have hpb:pb=true:=by rw [HP.out,hlb];rfl
 subst hpb
 have hph:ph=⟨h.g,h.t,h.ws++[x]⟩:=HQ.out
 subst hph
 clear HP HQ hlb
 have hkw: ∀y,aW=some y→y.block≠k:=own_win hT o0 v0
 have hk1:some k≠blk aW:=by
  cases aW with
  | none=>simp [blk]
  | some y=>simp [blk];exact fun e=>hkw y rfl e.symm
 have hk2:some w.heap.size≠blk aW:=by
  cases aW with
  | none=>simp [blk]
  | some y=>simp [blk];have:=(ho.lt y rfl).2;omega
 have e12:=v0.cell (i:=12) rfl
 obtain⟨d0,d1,d2,d3,d4,d5,d6⟩:=v3.c7
 have hz:h.ws.length+ [x].length≤4194304:=by simp;omega
 have lx:letE.Lies (w1.drew.alloc (.cells #[.bool x.bk,.int .i64 x.rd,.int .i64 x.pl,.string x.bs,.bool x.en,.int .i64 x.lm,.bool x.dn] 75)) (some ⟨w1.heap.size,0,none⟩) [x]:=El.lies_new rfl
 have hBA:B≤(w1.drew.alloc (.cells #[.bool x.bk,.int .i64 x.rd,.int .i64 x.pl,.string x.bs,.bool x.en,.int .i64 x.lm,.bool x.dn] 75)).heap.size:=by have:=B1.size;simp;omega
 have va:=v0.drew.alloc (.cells #[.bool x.bk,.int .i64 x.rd,.int .i64 x.pl,.string x.bs,.bool x.en,.int .i64 x.lm,.bool x.dn] 75)
 have ka:Keep k (blk aW) w (w1.drew.alloc (.cells #[.bool x.bk,.int .i64 x.rd,.int .i64 x.pl,.string x.bs,.bool x.en,.int .i64 x.lm,.bool x.dn] 75)):=(Keep.ofBelow B1).drew.alloc _
 go_wp2_with fail
 refine Draw.wp_region_Y (S:=(fun w'=>w'.cell? ⟨k,ow+12,none⟩=some (.slice aW h.ws.length cW)∧w'.cell? ⟨w.heap.size,0,none⟩=some (.bool x.bk)∧w'.cell? ⟨w.heap.size,1,none⟩=some (.int .i64 x.rd)∧w'.cell? ⟨w.heap.size,2,none⟩=some (.int .i64 x.pl)∧w'.cell? ⟨w.heap.size,3,none⟩=some (.string x.bs)∧w'.cell? ⟨w.heap.size,4,none⟩=some (.bool x.en)∧w'.cell? ⟨w.heap.size,5,none⟩=some (.int .i64 x.lm)∧w'.cell? ⟨w.heap.size,6,none⟩=some (.bool x.dn))) 10 (by kernel_rfl) ?_ (fun hHeld=>?_)
 focus ((try dsimp only) <;>(first|with_reducible exact hHeld|with_reducible exact hS2|exact⟨e12,d0,d1,d2,d3,d4,d5,d6⟩|exact⟨alloc_cell hHeld.1 _,alloc_cell hHeld.2.1 _,alloc_cell hHeld.2.2.1 _,alloc_cell hHeld.2.2.2.1 _,alloc_cell hHeld.2.2.2.2.1 _,alloc_cell hHeld.2.2.2.2.2.1 _,alloc_cell hHeld.2.2.2.2.2.2.1 _,alloc_cell hHeld.2.2.2.2.2.2.2 _⟩))
 refine Draw.wpAnyY_takeT (i:=0) (v:=?_) rfl (by kernel_rfl) (by kernel_rfl) (by kernel_rfl) (fun _ _ _ h=>h) (Or.inl ⟨by rfl,?_⟩) ?_
 rotate_left 1
 focus (intro s h;(try dsimp only at h);go_simp;(try apply And.intro) <;>with_reducible rfl)
 (try simp only [Act.put,Draw.lays])
 refine Draw.wpAnyY_takeT (i:=1) (v:=?_) rfl (by kernel_rfl) (by kernel_rfl) (by kernel_rfl) (fun _ _ _ h=>h) (Or.inl ⟨by rfl,?_⟩) ?_
 rotate_left 1
 focus (intro s h;(try dsimp only at h);go_simp;(try apply And.intro) <;>with_reducible rfl)
 (try simp only [Act.put,Draw.lays])
 refine Draw.wpAnyY_takeT (i:=2) (v:=?_) rfl (by kernel_rfl) (by kernel_rfl) (by kernel_rfl) (fun _ _ _ h=>h) (Or.inl ⟨by rfl,?_⟩) ?_
 rotate_left 1
 focus (intro s h;(try dsimp only at h);go_simp;(try apply And.intro) <;>with_reducible rfl)
 (try simp only [Act.put,Draw.lays])
 refine Draw.wpAnyY_takeT (i:=3) (v:=?_) rfl (by kernel_rfl) (by kernel_rfl) (by kernel_rfl) (fun _ _ _ h=>h) (Or.inl ⟨by rfl,?_⟩) ?_
 rotate_left 1
 focus (intro s h;(try dsimp only at h);go_simp;(try apply And.intro) <;>with_reducible rfl)
 (try simp only [Act.put,Draw.lays])
 refine Draw.wpAnyY_takeP (ps:=[7]) (i:=4) (v:=?_) rfl (by kernel_rfl) (by kernel_rfl) (by kernel_rfl) (by kernel_rfl) (by kernel_rfl) (fun _ _ _ h=>h) (Or.inl ⟨by rfl,?_⟩) (by assumption) ?_
 rotate_left 1
 focus (intro s h;(try dsimp only at h);go_simp;(try apply And.intro) <;>with_reducible rfl)
 (try simp only [Act.put,Draw.lays])
 refine Draw.wpAnyY_takeP (ps:=[7,6]) (i:=5) (v:=?_) rfl (by kernel_rfl) (by kernel_rfl) (by kernel_rfl) (by kernel_rfl) (by kernel_rfl) (fun _ _ _ h=>h) (Or.inl ⟨by rfl,?_⟩) (by assumption) ?_
 rotate_left 1
 focus (intro s h;(try dsimp only at h);go_simp;(try apply And.intro) <;>with_reducible rfl)
 (try simp only [Act.put,Draw.lays])
 refine Draw.wpAnyY_ready (rs:=[6]) (by kernel_rfl) (by simp) ?_
 refine Draw.AllReadyY.cons rfl (fun K hK=>?_) Draw.AllReadyY.nil
 go_simp
 refine hK.out _ _ ?_ (fun hHeld2=>?_)
 focus (intro _ _;(try dsimp only) <;>(first|with_reducible exact hHeld|with_reducible exact hS2|exact⟨e12,d0,d1,d2,d3,d4,d5,d6⟩|exact⟨alloc_cell hHeld.1 _,alloc_cell hHeld.2.1 _,alloc_cell hHeld.2.2.1 _,alloc_cell hHeld.2.2.2.1 _,alloc_cell hHeld.2.2.2.2.1 _,alloc_cell hHeld.2.2.2.2.2.1 _,alloc_cell hHeld.2.2.2.2.2.2.1 _,alloc_cell hHeld.2.2.2.2.2.2.2 _⟩))
 clear hK K
 replace hHeld:=hHeld2 (by decide) hHeld
 clear hHeld2
 (try simp only [Act.put,Draw.lays])
 refine Draw.wpAnyY_ready (rs:=[7]) (by kernel_rfl) (by simp) ?_
 refine Draw.AllReadyY.cons rfl (fun K hK=>?_) Draw.AllReadyY.nil
 (refine step_appL typ (by decide) (by rfl) _ _ (by rfl) B aW cW h.ws.length h.ws [x] rfl (by rfl) (o0.drew.alloc _) hBA (some ⟨w1.heap.size,0,none⟩) 1 1 rfl (by rfl) lx (by simp) hz ?_;intro a2 c2 w2 o2 g2 loc2;have vg:=va.grown g2 (by intro g hg e;exact hk1 (by rw [e,hg]));have kg:=ka.grown g2;have hS2:=And.intro (grown_cell g2 hHeld.1 hk1) (And.intro (grown_cell g2 hHeld.2.1 hk2) (And.intro (grown_cell g2 hHeld.2.2.1 hk2) (And.intro (grown_cell g2 hHeld.2.2.2.1 hk2) (And.intro (grown_cell g2 hHeld.2.2.2.2.1 hk2) (And.intro (grown_cell g2 hHeld.2.2.2.2.2.1 hk2) (And.intro (grown_cell g2 hHeld.2.2.2.2.2.2.1 hk2) (grown_cell g2 hHeld.2.2.2.2.2.2.2 hk2)))))));have y12:=vg.free 12;have z12:=vg.cell (i:=12) rfl)
 refine hK.out _ _ ?_ (fun hHeld2=>?_)
 focus (intro _ _;(try dsimp only) <;>(first|with_reducible exact hHeld|with_reducible exact hS2|exact⟨e12,d0,d1,d2,d3,d4,d5,d6⟩|exact⟨alloc_cell hHeld.1 _,alloc_cell hHeld.2.1 _,alloc_cell hHeld.2.2.1 _,alloc_cell hHeld.2.2.2.1 _,alloc_cell hHeld.2.2.2.2.1 _,alloc_cell hHeld.2.2.2.2.2.1 _,alloc_cell hHeld.2.2.2.2.2.2.1 _,alloc_cell hHeld.2.2.2.2.2.2.2 _⟩))
 clear hK K
 replace hHeld:=hHeld2 (by decide) hHeld
 clear hHeld2
 (try simp only [Act.put,Draw.lays])
 refine Draw.wpAnyY_takeT (i:=8) (v:=?_) rfl (by kernel_rfl) (by kernel_rfl) (by kernel_rfl) (fun _ _ _ h=>h) (Or.inl ⟨by rfl,?_⟩) ?_
 rotate_left 1
 focus (intro s h;(try dsimp only at h);go_simp;(try apply And.intro) <;>with_reducible rfl)
 (try simp only [Act.put,Draw.lays])
 refine Draw.wpAnyY_takeT (i:=9) (v:=?_) rfl (by kernel_rfl) (by kernel_rfl) (by kernel_rfl) (fun _ _ _ h=>h) (Or.inl ⟨by rfl,?_⟩) ?_
 rotate_left 1
 focus (intro s h;(try dsimp only at h);go_simp;(try apply And.intro) <;>with_reducible rfl)
 (try simp only [Act.put,Draw.lays])
 refine Draw.wpAnyY_ready (rs:=[10]) (by kernel_rfl) (by simp) ?_
 refine Draw.AllReadyY.cons rfl (fun K hK=>?_) Draw.AllReadyY.nil
 go_simp
 refine hK.out _ _ (fun h=>absurd rfl h) (fun hHeld2=>?_)
 clear hK K hHeld hHeld2
 (try simp only [Act.put,Draw.lays])
 refine Draw.wpAnyY_done (by kernel_rfl) ?_ _
 go_wp2_with fail
 go_ret
 have hlen:(h.ws++[x]).length=h.ws.length+1:=by simp
 exact⟨rfl,a2,c2,by have:=vg.set 12 (.slice a2 (h.ws.length+1) c2);simp only [Hp.c,hlen];exact this,o2.setCell (fun y e=>own_win hT o2 vg y e) _,kg.setCell (.inl rfl) _,loc2.le (by have:=B1.size;simp;omega)⟩
theorem l7Post {T:TypeId}{pre post:List Value}{ow:Nat}(hT:T≠75)(k B:Nat)(h:Hp)(aT:Option Addr)(cT:Nat)(aW:Option Addr)(cW:Nat)(x:Lt)(w:World)
  (hv:Win T pre post ow w k (h.c aT cT aW cW)) (ho:letE.Own 75 w B aW cW h.ws) (hB:B≤w.heap.size) (hl:h.ws.length≤524288) (hx:x.bs.size≤2097152):
  Calls Tryz.prog 91 #[.pointer (some ⟨k,ow,none⟩),x.v] w fun e w'=> ∃aW' cW',e=.returned (.bool (postB h x))∧Win T pre post ow w' k ((postH h x).c aT cT aW' cW')∧letE.Own 75 w' B aW' cW' (postH h x).ws∧Keep k (blk aW) w w':=
 (l7PostL hT k B h aT cT aW cW x w hv ho hB hl hx).mono fun e w' ⟨a,c,h1,h2,h3,h4,_⟩=>⟨a,c,h1,h2,h3,h4⟩
end Go.Proofs.YtfejobjgbadfjaaGreat.Hop
namespace Go.Proofs.YtfejobjgbadfjaaGreat.Giv
open Go.RowKit RowG
end Go.Proofs.YtfejobjgbadfjaaGreat.Giv
namespace Go.Proofs.YtfejobjgbadfjaaGreat.RegJ
open Go.RowKit
section
variable {P:Program} {ops:Array Oper} {Q:Exit→Act→World→Prop}
def upd (x:Nat→Value)(i:Nat)(v:Value):Nat→Value:=fun j=>if j=i then v else x j
def lay (x:Nat→Value):Nat→List (Option Tmp)→Act→Act
 | _,[],a=>a
 | k,d::ds,a=>lay x (k+1) ds (a.put d (x k))
def apt:List (Option Tmp)→Bool
 | []=>true
 | none::ds=>apt ds
 | some d::ds=> !ds.contains (some d)&&apt ds
theorem put_comm (a:Act){d e:Option Tmp}(u v:Value)(h:d=none∨d≠e):(a.put d u).put e v=(a.put e v).put d u:=by
 cases d <;>cases e <;>simp_all [Act.put]
 rename_i m n
 exact Array.setIfInBounds_comm _ _ h
theorem put_put (a:Act)(d:Option Tmp)(u v:Value):(a.put d u).put d v=a.put d v:=by
 cases d <;>simp [Act.put]
theorem lay_put (x:Nat→Value)(d:Option Tmp)(v:Value): ∀(ds:List (Option Tmp)) (k:Nat) (a:Act),(d=none∨d ∉ ds)→(lay x k ds a).put d v=lay x k ds (a.put d v)
 | [],_,_,_=>rfl
 | e::ds,k,a,h=>by
  have h1:d=none∨d ∉ ds:=h.imp id fun h hm=>h (List.mem_cons_of_mem _ hm)
  have h2:d=none∨d≠e:=h.imp id fun h he=>h (he▸List.mem_cons_self ..)
  simp only [lay]
  rw [lay_put x d v ds (k+1) _ h1,put_comm a v (x k) h2]
theorem lay_congr {x y:Nat→Value}: ∀(ds:List (Option Tmp)) (k:Nat) (a:Act),(∀j,k≤j→x j=y j)→lay x k ds a=lay y k ds a
 | [],_,_,_=>rfl
 | e::ds,k,a,h=>by
  simp only [lay]
  rw [h k (Nat.le_refl _)]
  exact lay_congr ds (k+1) _ fun j hj=>h j (by omega)
theorem lay_upd (x:Nat→Value)(v:Value): ∀(ds:List (Option Tmp)) (k i:Nat) (a:Act) (d:Option Tmp),apt ds=true→ds[i]? =some d→(lay x k ds a).put d v=lay (upd x (k+i) v) k ds a
 | [],_,_,_,_,_,h=>by simp at h
 | e::ds,k,0,a,d,hd,h=>by
  have h':e=d:=by simpa using h
  subst h'
  simp only [lay]
  have h1:e=none∨e ∉ ds:=by
   cases e
   ·exact .inl rfl
   ·simp [apt]at hd
    exact .inr hd.1
  rw [lay_put x e v ds (k+1) _ h1,put_put]
  simp only [upd,Nat.add_zero,if_true]
  exact lay_congr ds (k+1) _ fun j hj=>(by simp only [upd];rw [if_neg (by omega)])
 | e::ds,k,i+1,a,d,hd,h=>by
  simp only [lay]
  have hd':apt ds=true:=by
   cases e <;>simp [apt]at hd
   ·exact hd
   ·exact hd.2
  rw [lay_upd x v ds (k+1) i _ d hd' (by simpa using h)]
  have:k+1+i=k+(i+1):=by omega
  rw [this]
  have h2:upd x (k+(i+1)) v k=x k:=by simp [upd]
  rw [h2]
def old (ds:List (Option Tmp))(a:Act)(j:Nat):Value:=match ds[j]? with
 | some (some d)=>a.tmps.getD d undef
 | _=>undef
theorem put_old (a:Act)(d:Tmp):a.put (some d) (a.tmps.getD d undef)=a:=by
 rcases a with⟨ts,df⟩
 simp only [Act.put]
 congr 1
 apply Array.ext
 ·simp
 ·intro i h1 h2
  rw [Array.getElem_setIfInBounds (by simpa using h1)]
  split
  ·subst_vars
   simp [h2]
  ·rfl
theorem lay_old (x:Nat→Value)(a:Act): ∀(ds:List (Option Tmp)) (k:Nat),(∀i d,ds[i]? =some (some d)→x (k+i)=a.tmps.getD d undef)→lay x k ds a=a
 | [],_,_=>rfl
 | none::ds,k,h=>by
  simp only [lay,Act.put]
  exact lay_old x a ds (k+1) fun i d hi=>by
   have:=h (i+1) d (by simpa using hi)
   rw [show k+1+i=k+(i+1) by omega]
   exact this
 | some e::ds,k,h=>by
  simp only [lay]
  have h0:=h 0 e rfl
  rw [show x k=_ from h0,put_old]
  exact lay_old x a ds (k+1) fun i d hi=>by
   have:=h (i+1) d (by simpa using hi)
   rw [show k+1+i=k+(i+1) by omega]
   exact this
def anc (ops:Array Oper):Nat→Nat→Nat→Bool
 | 0,_,_=>false
 | n+1,i,j=>match ops[i]? with
  | some o=>o.after.any fun e=>Region.binds .any e&&(e.on==j||anc ops n e.on j)
  | none=>false
def back (ops:Array Oper):Bool:=(List.range ops.size).all fun i=>match ops[i]? with
 | some o=>o.after.all fun e=> !Region.binds .any e||decide (e.on<i)
 | none=>true
theorem back_spec (h:back ops=true){i:Nat}{o:Oper}(ho:ops[i]? =some o){e:Edge}(he:e∈o.after)(hb:Region.binds .any e=true):e.on<i:=by
 have hi:i<ops.size:=by
  rcases Nat.lt_or_ge i ops.size with h|h
  ·exact h
  ·simp [Array.getElem?_eq_none h]at ho
 simp only [back,List.all_eq_true,List.mem_range]at h
 have h1:=h i hi
 rw [ho]at h1
 simp only [Array.all_eq_true']at h1
 have h2:=h1 e he
 simp [hb]at h2
 exact h2
def StepAt (P:Program)(ops:Array Oper)(Q:Exit→Act→World→Prop)(W:(Nat→Bool)→World→Prop)(J:(Nat→Bool)→Nat→Value→World→Prop)(F:(Nat→Value)→Act)(y:Nat→Value)(i:Nat):Prop:=
 ∀o,ops[i]? =some o→ ∀(d:Nat→Bool) (x:Nat→Value) (w:World),W d w→Shut (∀j,anc ops ops.size i j=true→J d j (x j) w)→Shut (∀j,(j=i∨anc ops ops.size j i=true)→d j=false∧x j=y j)→
  ∀K:Act→World→Prop,Shut (∀v w',W (fun j=>j==i||d j) w'→(∀j,j≠i→J d j (x j) w→J (fun j=>j==i||d j) j (x j) w')→J (fun j=>j==i||d j) i v w'→K ((F x).put o.dst v) w')→
   if Region.wanted o (yielded ops (F x).tmps)=true then Oper.wp P o (F x) w K Q else K ((F x).put o.dst undef) w
theorem StepAt.mk {W:(Nat→Bool)→World→Prop}{J:(Nat→Bool)→Nat→Value→World→Prop}{F:(Nat→Value)→Act}{y:Nat→Value}{i:Nat}{o:Oper}(ho:ops[i]? =some o)
  (h: ∀(d:Nat→Bool) (x:Nat→Value) (w:World),W d w→Shut (∀j,anc ops ops.size i j=true→J d j (x j) w)→Shut (∀j,(j=i∨anc ops ops.size j i=true)→d j=false∧x j=y j)→
   ∀K:Act→World→Prop,Shut (∀v w',W (fun j=>j==i||d j) w'→(∀j,j≠i→J d j (x j) w→J (fun j=>j==i||d j) j (x j) w')→J (fun j=>j==i||d j) i v w'→K ((F x).put o.dst v) w')→
    if Region.wanted o (yielded ops (F x).tmps)=true then Oper.wp P o (F x) w K Q else K ((F x).put o.dst undef) w):StepAt P ops Q W J F y i:=by
 intro o' ho'
 rw [ho]at ho'
 cases ho'
 exact h
def Steps (P:Program)(ops:Array Oper)(Q:Exit→Act→World→Prop)(W:(Nat→Bool)→World→Prop)(J:(Nat→Bool)→Nat→Value→World→Prop)(F:(Nat→Value)→Act)(y:Nat→Value)(is:List Nat):Prop:= ∀i∈is,StepAt P ops Q W J F y i
theorem Steps.nil {W:(Nat→Bool)→World→Prop}{J:(Nat→Bool)→Nat→Value→World→Prop}{F:(Nat→Value)→Act}{y:Nat→Value}:Steps P ops Q W J F y []:=fun _ h=>by cases h
theorem Steps.cons {W:(Nat→Bool)→World→Prop}{J:(Nat→Bool)→Nat→Value→World→Prop}{F:(Nat→Value)→Act}{y:Nat→Value}{i:Nat}{is:List Nat}(h:StepAt P ops Q W J F y i)(hs:Steps P ops Q W J F y is):Steps P ops Q W J F y (i::is):=fun j hj=>by
 rcases List.mem_cons.1 hj with rfl|hj
 ·exact h
 ·exact hs j hj
theorem anc_listed {listed:Array Bool}(hc: ∀j o,listed.getD j false=true→ops[j]? =some o→ ∀e∈o.after,Region.binds .any e=true→listed.getD e.on false=true):
  ∀(n i:Nat),(∀o,ops[i]? =some o→ ∀e∈o.after,Region.binds .any e=true→listed.getD e.on false=true)→ ∀j,anc ops n i j=true→listed.getD j false=true
 | 0,_,_,_,h=>by simp [anc]at h
 | n+1,i,hi,j,h=>by
  simp only [anc]at h
  cases ho:ops[i]? with
  | none=>simp [ho]at h
  | some o=>
   simp only [ho,Array.any_eq_true']at h
   obtain⟨e,he,h⟩:=h
   simp only [Bool.and_eq_true,Bool.or_eq_true,beq_iff_eq]at h
   have h1:=hi o ho e he h.1
   rcases h.2 with rfl|h2
   ·exact h1
   ·exact anc_listed hc n e.on (fun o' ho'=>hc e.on o' h1 ho') j h2
theorem getD_true_false {listed:Array Bool}{i:Nat}(h:listed.getD i true=false):i<listed.size∧listed.getD i false=false:=by
 rcases Nat.lt_or_ge i listed.size with hl|hl
 ·simp [hl]at h ⊢
  exact h
 ·simp [Array.getElem?_eq_none hl]at h
theorem wpAny_J {W:(Nat→Bool)→World→Prop}{J:(Nat→Bool)→Nat→Value→World→Prop}{ds:List (Option Tmp)}{a0:Act}(hds:ops.toList.map (·.dst)=ds)(hap:apt ds=true)(hbk:back ops=true)
  (hstep: ∀i,i<ops.size→StepAt P ops Q W J (fun x=>lay x 0 ds a0) (old ds a0) i) (hfin: ∀d x w,W d w→(∀j,j<ops.size→d j=true)→(∀j,j<ops.size→J d j (x j) w)→Q .normal (lay x 0 ds a0) w):
  ∀(fuel:Nat) (listed:Array Bool) (x:Nat→Value) (w:World),listed.size=ops.size→(List.range ops.size).countP (fun i=> !listed.getD i false)≤fuel→
   (∀j o,listed.getD j false=true→ops[j]? =some o→ ∀e∈o.after,Region.binds .any e=true→listed.getD e.on false=true)→
   (∀j,listed.getD j false=true→J (fun j=>listed.getD j false) j (x j) w)→(∀j,listed.getD j false=false→x j=old ds a0 j)→W (fun j=>listed.getD j false) w→wpAny P .any ops Q fuel listed (lay x 0 ds a0) w:=by
 have hnil: ∀(listed:Array Bool),listed.size=ops.size→Region.ready .any ops listed=[]→ ∀j,j<ops.size→listed.getD j false=true:=by
  intro listed hsz hr j
  induction j using Nat.strongRecOn with
  | _ j ih=>
   intro hj
   cases hl:listed.getD j false with
   | true=>rfl
   | false=>
    exfalso
    have:j∈Region.ready .any ops listed:=by
     rw [mem_ready]
     have h1:listed.getD j true=false:=by
      have:j<listed.size:=by omega
      simp [this]at hl ⊢
      exact hl
     refine⟨h1,ops[j],by simp [hj],fun e he hb=>?_⟩
     have hoj:ops[j]? =some ops[j]:=by simp [hj]
     have h2:=back_spec hbk hoj he hb
     exact ih e.on h2 (by omega)
    rw [hr]at this
    cases this
 intro fuel
 induction fuel with
 | zero=>
  intro listed x w hsz hn hc hJ hx hW
  have hall: ∀j,j<ops.size→listed.getD j false=true:=by
   intro j hj
   have h0:(List.range ops.size).countP (fun i=> !listed.getD i false)=0:=by omega
   rw [List.countP_eq_zero]at h0
   have:=h0 j (List.mem_range.2 hj)
   simpa using this
  refine⟨?_,hfin _ x w hW hall fun j hj=>hJ j (hall j hj)⟩
  apply List.eq_nil_iff_forall_not_mem.2
  intro i hi
  have h1:=(mem_ready.1 hi).1
  have h2:=getD_true_false h1
  have:=hall i (by omega)
  rw [h2.2]at this
  cases this
 | succ fuel ih=>
  intro listed x w hsz hn hc hJ hx hW
  refine⟨fun hr=>hfin _ x w hW (hnil listed hsz hr) fun j hj=>hJ j (hnil listed hsz hr j hj),fun i hi=>?_⟩
  obtain⟨h1,o,ho,hall⟩:=mem_ready.1 hi
  obtain⟨hil,hi0⟩:=getD_true_false h1
  have hdst:ds[i]? =some o.dst:=by
   rw [←hds]
   simp [ho]
  refine wpOp_step ho fun K hK=>?_
  refine hstep i (by omega) o ho _ x w hW ?_ ?_ K ?_
  ·intro j hj
   exact hJ j (anc_listed hc _ i (fun o' ho'=>by rw [ho]at ho';cases ho';exact hall) j hj)
  ·intro j hj
   show listed.getD j false=false∧_
   cases hl:listed.getD j false with
   | false=>exact⟨rfl,hx j hl⟩
   | true=>
    exfalso
    rcases hj with rfl|hj
    ·rw [hi0]at hl;cases hl
    ·have:=anc_listed hc _ j (fun o' ho'=>hc j o' hl ho') i hj
     rw [hi0]at this
     cases this
  ·intro v w' hW' hJ' hv
   refine hK _ _ ?_
   show wpAny P .any ops Q fuel _ ((lay x 0 ds a0).put o.dst v) w'
   rw [lay_upd x v ds 0 i a0 o.dst hap hdst,Nat.zero_add]
   have hset: ∀j,(listed.setIfInBounds i true).getD j false=if j=i then true else listed.getD j false:=by
    intro j
    by_cases hji:j=i
    ·subst hji;simp [hil]
    ·rw [if_neg hji,getD_set_ne false (Ne.symm hji)]
   have hWe:(fun j=>(listed.setIfInBounds i true).getD j false)=(fun j=>j==i||listed.getD j false):=by
    funext j
    rw [hset]
    by_cases hji:j=i <;>simp [hji]
   refine ih (listed.setIfInBounds i true) _ w' (by simpa using hsz) ?_ ?_ ?_ ?_ (by rw [hWe];exact hW')
   ·have:(List.range ops.size).countP (fun k=> !(listed.setIfInBounds i true).getD k false)<(List.range ops.size).countP (fun k=> !listed.getD k false):=by
     have hmem:i∈List.range ops.size:=List.mem_range.2 (by omega)
     clear hstep hfin ih hJ hx hc hJ' hn hall hK
     generalize List.range ops.size=l at hmem
     induction l with
     | nil=>cases hmem
     | cons b l ihl=>
      have hle:l.countP (fun k=> !(listed.setIfInBounds i true).getD k false)≤l.countP (fun k=> !listed.getD k false):=by
       apply List.countP_mono_left
       intro k _ hk
       rw [hset]at hk
       split at hk
       ·cases hk
       ·exact hk
      by_cases hbi:b=i
      ·subst hbi
       rw [List.countP_cons,List.countP_cons,hset,if_pos rfl,hi0]
       simp only [Bool.not_true,Bool.not_false,if_true,Bool.false_eq_true,if_false]
       omega
      ·have hm2:i∈l:=by
        rcases List.mem_cons.1 hmem with h|h
        ·exact absurd h.symm hbi
        ·exact h
       have:=ihl hm2
       rw [List.countP_cons,List.countP_cons,hset,if_neg hbi]
       omega
    omega
   ·intro j o' hj ho' e he hb
    rw [hset]at hj ⊢
    split
    ·rfl
    ·split at hj
     ·subst_vars
      rw [ho]at ho'
      cases ho'
      exact hall e he hb
     ·exact hc j o' hj ho' e he hb
   ·intro j hj
    rw [hset]at hj
    by_cases hji:j=i
    ·subst hji
     rw [hWe]
     simpa [upd]using hv
    ·rw [if_neg hji]at hj
     have:upd x i v j=x j:=by simp [upd,hji]
     rw [this]
     rw [hWe]
     exact hJ' j hji (hJ j hj)
   ·intro j hj
    rw [hset]at hj
    by_cases hji:j=i
    ·rw [if_pos hji]at hj;cases hj
    ·rw [if_neg hji]at hj
     have:upd x i v j=x j:=by simp [upd,hji]
     rw [this]
     exact hx j hj
theorem getD_rep (n j:Nat):(Array.replicate n false).getD j false=false:=by
 rcases Nat.lt_or_ge j n with h|h
 ·simp [h]
 ·simp [Array.getElem?_eq_none,h]
theorem wp_region_J (W:(Nat→Bool)→World→Prop)(J:(Nat→Bool)→Nat→Value→World→Prop)(ds:List (Option Tmp)){id:Nat}{a:Act}{w:World}{F:(Nat→Value)→Act}{is:List Nat}(hm:P.follows .mixedOrders=true)
  (hds:ops.toList.map (·.dst)=ds) (hap:apt ds=true) (hbk:back ops=true) (his:List.range ops.size=is) (hF: ∀x,lay x 0 ds a=F x) (hW:W (fun _=>false) w.drew)
  (hstep:Steps P ops Q W J F (old ds a) is) (hfin: ∀d x w,W d w→(∀j,j<ops.size→d j=true)→(∀j,j<ops.size→J d j (x j) w)→Q .normal (F x) w):(Code.region id ops true).wp P Q a w:=by
 have hFe:(fun x=>lay x 0 ds a)=F:=funext hF
 subst hFe
 refine wp_region_any hm ?_
 have h0:lay (old ds a) 0 ds a=a:=lay_old _ a ds 0 fun i d hi=>by simp [old,hi]
 have hd0:(fun j=>(Array.replicate ops.size false).getD j false)=(fun _=>false):=funext fun j=>getD_rep _ _
 have:=wpAny_J (P:=P) (Q:=Q) hds hap hbk (fun i hi=>hstep i (by rw [←his];exact List.mem_range.2 hi)) hfin ops.size (Array.replicate ops.size false) (old ds a) w.drew (by simp)
  (by refine Nat.le_trans List.countP_le_length ?_;simp) (fun j o hj=>by rw [getD_rep]at hj;cases hj) (fun j hj=>by rw [getD_rep]at hj;cases hj) (fun j _=>rfl) (by rw [hd0];exact hW)
 rw [h0]at this
 exact this
end
end Go.Proofs.YtfejobjgbadfjaaGreat.RegJ
namespace Go.Proofs.YtfejobjgbadfjaaGreat.RegJ
open Go.RowKit RowG
inductive Sh where
 | any
 | eq (u:Value)
 | int (lo hi:Int)
 | num
 | flag
 | str (n:Nat)
 | row (T:TypeId) (vs:List Value)
 | elem (T:TypeId) (vs:List Value)
 | one (vs:List Value)
 | at (T:TypeId) (k:Nat) (vs:List Value)
 | sat (p:Value→Prop)
 | made (z:Nat) (T:TypeId) (zs:List Value) (p:List Value→Prop)
def Sh.ok (c:Nat)(d:Nat→Bool):Sh→Value→World→Prop
 | .any,_,_=>True
 | .eq u,v,_=>v=u
 | .int lo hi,v,_=> ∃y:Int,lo≤y∧y≤hi∧v=.int .i64 y
 | .num,v,_=> ∃y:Int,v=.int .i64 y
 | .flag,v,_=> ∃b:Bool,v=.bool b
 | .str n,v,_=> ∃s:ByteArray,s.size≤n∧v=.string s
 | .row T vs,v,w=> ∃b:Nat,c<b∧v=.slice (some ⟨b,0,none⟩) vs.length vs.length∧Var T w b vs
 | .elem T vs,v,w=> ∃b i:Nat,c<b∧i<vs.length∧v=.pointer (some ⟨b,i,none⟩)∧Var T w b vs
 | .one vs,v,_=>v∈vs
 | .at T k vs,_,w=>k≠c∧Var T w k vs
 | .sat p,v,_=>p v
 | .made z T zs p,v,w=> ∃b:Nat,c<b∧v=.pointer (some ⟨b,0,none⟩)∧(d z=false→Var T w b zs)∧(d z=true→ ∃vs,p vs∧Var T w b vs)
def Sh.isAt:Sh→Bool
 | .at _ _ _=>true
 | .made _ _ _ _=>true
 | _=>false
def Sh.offOf (i:Nat):Sh→Bool
 | .made z _ _ _=>z !=i
 | _=>true
theorem Sh.kept {c i:Nat}{d:Nat→Bool}{w w':World}(k:Draw.Kept c w w'): ∀(s:Sh) (u:Value),s.offOf i=true→s.ok c d u w→s.ok c (fun j=>j==i||d j) u w'
 | .any,_,_,h=>h
 | .eq _,_,_,h=>h
 | .int _ _,_,_,h=>h
 | .num,_,_,h=>h
 | .flag,_,_,h=>h
 | .str _,_,_,h=>h
 | .row T vs,v,_,⟨b,hb,hv,hr⟩=>⟨b,hb,hv,hr.kept k (by omega)⟩
 | .elem T vs,v,_,⟨b,i,hb,hi,hv,hr⟩=>⟨b,i,hb,hi,hv,hr.kept k (by omega)⟩
 | .one _,_,_,h=>h
 | .at T k' vs,v,_,⟨hk,hr⟩=>⟨hk,hr.kept k hk⟩
 | .sat _,_,_,h=>h
 | .made z T zs p,v,hz,⟨b,hb,hv,h0,h1⟩=>by
  have hzi:(z==i)=false:=by simpa [Sh.offOf]using hz
  refine⟨b,hb,hv,fun hd=>?_,fun hd=>?_⟩
  ·exact(h0 (by simpa [hzi]using hd)).kept k (by omega)
  ·obtain⟨vs,hp,hr⟩:=h1 (by simpa [hzi]using hd)
   exact⟨vs,hp,hr.kept k (by omega)⟩
theorem Sh.store {c k0 i:Nat}{d d':Nat→Bool}{w w':World}(k:Draw.Kept k0 w w')(hk0:k0≤c): ∀(s:Sh) (u:Value),s.isAt=false→s.ok c d u w→s.ok c d' u w'
 | .any,_,_,h=>h
 | .eq _,_,_,h=>h
 | .int _ _,_,_,h=>h
 | .num,_,_,h=>h
 | .flag,_,_,h=>h
 | .str _,_,_,h=>h
 | .row T vs,v,_,⟨b,hb,hv,hr⟩=>⟨b,hb,hv,hr.kept k (by omega)⟩
 | .elem T vs,v,_,⟨b,i,hb,hi,hv,hr⟩=>⟨b,i,hb,hi,hv,hr.kept k (by omega)⟩
 | .one _,_,_,h=>h
 | .at _ _ _,_,h,_=>by simp [Sh.isAt]at h
 | .sat _,_,_,h=>h
 | .made _ _ _ _,_,h,_=>by simp [Sh.isAt]at h
abbrev Tell (c:Nat)(shs:List Sh)(d:Nat→Bool)(i:Nat)(v:Value)(w:World):Prop:=(shs.getD i .any).ok c d v w
theorem off_all {shs:List Sh}{i:Nat}(h:shs.all (Sh.offOf i)=true)(j:Nat):(shs.getD j .any).offOf i=true:=by
 rcases Nat.lt_or_ge j shs.length with hl|hl
 ·simp only [List.all_eq_true]at h
  have:shs.getD j .any=shs[j]:=by simp [List.getD,hl]
  rw [this]
  exact h _ (List.getElem_mem hl)
 ·simp [List.getD,List.getElem?_eq_none hl,Sh.offOf]
theorem Tell.keep {c:Nat}{shs:List Sh}{d:Nat→Bool}{x:Nat→Value}{w w':World}{i:Nat}(k:Draw.Kept c w w')(hm:shs.all (Sh.offOf i)=true:=by rfl): ∀j,j≠i→Tell c shs d j (x j) w→Tell c shs (fun j=>j==i||d j) j (x j) w':=fun j _ h=>Sh.kept k _ _ (off_all hm j) h
theorem Tell.same {c:Nat}{shs:List Sh}{d:Nat→Bool}{x:Nat→Value}{w:World}{i:Nat}(hm:shs.all (Sh.offOf i)=true:=by rfl): ∀j,j≠i→Tell c shs d j (x j) w→Tell c shs (fun j=>j==i||d j) j (x j) w:=Tell.keep (Draw.Kept.refl _ _) hm
def noAt (shs:List Sh)(z:Nat):Bool:=(List.range shs.length).all fun j=>j==z|| !(shs.getD j .any).isAt
theorem Tell.stored {c k0:Nat}{shs:List Sh}{d d':Nat→Bool}{x:Nat→Value}{w w':World}{z:Nat}(hn:noAt shs z=true)(k:Draw.Kept k0 w w')(hk0:k0≤c): ∀j,j≠z→Tell c shs d j (x j) w→Tell c shs d' j (x j) w':=by
 intro j hj h
 refine Sh.store (i:=0) k hk0 _ _ ?_ h
 simp only [noAt,List.all_eq_true,List.mem_range]at hn
 rcases Nat.lt_or_ge j shs.length with hl|hl
 ·have:=hn j hl
  simpa [hj]using this
 ·simp [List.getD,List.getElem?_eq_none hl,Sh.isAt]
def Sh.offLe (i:Nat):Sh→Bool
 | .made z _ _ _=>z !=i
 | .at _ _ _=>false
 | _=>true
theorem Sh.keptLe {c c' i:Nat}{d:Nat→Bool}{w w':World}(k:Draw.Kept c' w w')(hc:c'≤c): ∀(s:Sh) (u:Value),s.offLe i=true→s.ok c d u w→s.ok c (fun j=>j==i||d j) u w'
 | .any,_,_,h=>h
 | .eq _,_,_,h=>h
 | .int _ _,_,_,h=>h
 | .num,_,_,h=>h
 | .flag,_,_,h=>h
 | .str _,_,_,h=>h
 | .row T vs,v,_,⟨b,hb,hv,hr⟩=>⟨b,hb,hv,hr.kept k (by omega)⟩
 | .elem T vs,v,_,⟨b,i,hb,hi,hv,hr⟩=>⟨b,i,hb,hi,hv,hr.kept k (by omega)⟩
 | .one _,_,_,h=>h
 | .at T k' vs,v,h,_=>by simp [Sh.offLe]at h
 | .sat _,_,_,h=>h
 | .made z T zs p,v,hz,⟨b,hb,hv,h0,h1⟩=>by
  have hzi:(z==i)=false:=by simpa [Sh.offLe]using hz
  refine⟨b,hb,hv,fun hd=>?_,fun hd=>?_⟩
  ·exact(h0 (by simpa [hzi]using hd)).kept k (by omega)
  ·obtain⟨vs,hp,hr⟩:=h1 (by simpa [hzi]using hd)
   exact⟨vs,hp,hr.kept k (by omega)⟩
theorem Tell.keepLe {c c':Nat}{shs:List Sh}{d:Nat→Bool}{x:Nat→Value}{w w':World}{i:Nat}(k:Draw.Kept c' w w')(hc:c'≤c)(hm:shs.all (Sh.offLe i)=true:=by rfl): ∀j,j≠i→Tell c shs d j (x j) w→Tell c shs (fun j=>j==i||d j) j (x j) w':=by
 intro j _ h
 refine Sh.keptLe k hc _ _ ?_ h
 rcases Nat.lt_or_ge j shs.length with hl|hl
 ·simp only [List.all_eq_true]at hm
  have:shs.getD j .any=shs[j]:=by simp [List.getD,hl]
  rw [this]
  exact hm _ (List.getElem_mem hl)
 ·simp [List.getD,List.getElem?_eq_none hl,Sh.offLe]
def Sh.isPure:Sh→Bool
 | .row _ _=>false
 | .elem _ _=>false
 | .at _ _ _=>false
 | .made _ _ _ _=>false
 | _=>true
theorem Sh.pure {c:Nat}{d d':Nat→Bool}{w w':World}: ∀(s:Sh) (u:Value),s.isPure=true→s.ok c d u w→s.ok c d' u w'
 | .any,_,_,h=>h
 | .eq _,_,_,h=>h
 | .int _ _,_,_,h=>h
 | .num,_,_,h=>h
 | .flag,_,_,h=>h
 | .str _,_,_,h=>h
 | .row _ _,_,h,_=>by simp [Sh.isPure]at h
 | .elem _ _,_,h,_=>by simp [Sh.isPure]at h
 | .one _,_,_,h=>h
 | .at _ _ _,_,h,_=>by simp [Sh.isPure]at h
 | .sat _,_,_,h=>h
 | .made _ _ _ _,_,h,_=>by simp [Sh.isPure]at h
theorem Tell.pure {c:Nat}{shs:List Sh}{d d':Nat→Bool}{x:Nat→Value}{w w':World}{i:Nat}(hp:shs.all Sh.isPure=true): ∀j,j≠i→Tell c shs d j (x j) w→Tell c shs d' j (x j) w':=by
 intro j _ h
 refine Sh.pure _ _ ?_ h
 rcases Nat.lt_or_ge j shs.length with hl|hl
 ·simp only [List.all_eq_true]at hp
  have:shs.getD j .any=shs[j]:=by simp [List.getD,hl]
  rw [this]
  exact hp _ (List.getElem_mem hl)
 ·simp [List.getD,List.getElem?_eq_none hl,Sh.isPure]
def Sh.offT (z:Nat)(T:TypeId):Sh→Bool
 | .row T' _=>T' !=T
 | .elem T' _=>T' !=T
 | .made z' T' _ _=>z' !=z&&T' !=T
 | .at _ _ _=>false
 | _=>true
theorem var_ne {T T':TypeId}{w:World}{b b':Nat}{vs vs':List Value}(h:Var T w b vs)(h':Var T' w b' vs')(hT:(T' !=T)=true):b'≠b:=by
 intro e
 subst e
 have h1:w.heap[b']? =_:=h
 have h2:w.heap[b']? =_:=h'
 rw [h1]at h2
 injection h2 with h2
 injection h2 with _ h3 _
 subst h3
 simp at hT
theorem Tell.gave {c b z:Nat}{shs:List Sh}{d:Nat→Bool}{x:Nat→Value}{w w':World}(m:Nat){T:TypeId}{zs vs zs0:List Value}{p:List Value→Prop}(hs:shs.getD m .any=.made z T zs p)(ho:(List.range shs.length).all (fun j=>j==m||(shs.getD j .any).offT z T)=true)(k:Draw.Kept b w w')(hbx:x m=.pointer (some ⟨b,0,none⟩))(hv0:Var T w b zs0)(hv:Var T w' b vs)(hp:p vs)(hbc:c<b):
  ∀j,j≠z→Tell c shs d j (x j) w→Tell c shs (fun j=>j==z||d j) j (x j) w':=by
 intro j hj h
 by_cases hjm:j=m
 ·subst hjm
  unfold Tell at h ⊢
  rw [hs]at h ⊢
  refine⟨b,hbc,hbx,fun hd'=>absurd hd' (by simp),fun _=>⟨vs,hp,hv⟩⟩
 ·rcases Nat.lt_or_ge j shs.length with hl|hl
  ·simp only [List.all_eq_true,List.mem_range]at ho
   have ho':=ho j hl
   unfold Tell at h ⊢
   generalize shs.getD j .any=s at *
   generalize x j=u at *
   have ho2:s.offT z T=true:=by simpa [hjm]using ho'
   cases s with
   | any=>exact h
   | eq _=>exact h
   | int _ _=>exact h
   | num=>exact h
   | flag=>exact h
   | str _=>exact h
   | one _=>exact h
   | sat _=>exact h
   | «at» _ _ _=>simp [Sh.offT]at ho2
   | row T' vs'=>
    obtain⟨b',hb',hv',hr⟩:=h
    exact⟨b',hb',hv',hr.kept k (var_ne hv0 hr (by simpa [Sh.offT]using ho2))⟩
   | elem T' vs'=>
    obtain⟨b',i',hb',hi',hv',hr⟩:=h
    exact⟨b',i',hb',hi',hv',hr.kept k (var_ne hv0 hr (by simpa [Sh.offT]using ho2))⟩
   | made z' T' zs' p'=>
    obtain⟨b',hb',hv',h0,h1⟩:=h
    simp only [Sh.offT,Bool.and_eq_true]at ho2
    have hzi:(z'==z)=false:=by simpa using ho2.1
    refine⟨b',hb',hv',fun hd'=>?_,fun hd'=>?_⟩
    ·have q:=h0 (by simpa [hzi]using hd')
     exact q.kept k (var_ne hv0 q ho2.2)
    ·obtain⟨vs',hp',hr⟩:=h1 (by simpa [hzi]using hd')
     exact⟨vs',hp',hr.kept k (var_ne hv0 hr ho2.2)⟩
  ·unfold Tell
   simp [List.getD,List.getElem?_eq_none hl,Sh.ok]
theorem int_cell {T:TypeId}{w:World}{b i:Nat}{ns:List Int}(h:Var T w b (ns.map (Value.int .i64)))(hi:i<(ns.map (Value.int .i64)).length): ∃n:Int,w.cell? ⟨b,i,none⟩=some (.int .i64 n):=by
 have hi':i<ns.length:=by simpa using hi
 exact⟨ns[i],h.cell (by simp [hi'])⟩
theorem int_sat {T:TypeId}{w:World}{b i:Nat}{ns:List Int}(h:Var T w b (ns.map (Value.int .i64)))(hi:i<(ns.map (Value.int .i64)).length): ∃n:Int,n∈ns∧w.cell? ⟨b,i,none⟩=some (.int .i64 n):=by
 have hi':i<ns.length:=by simpa using hi
 exact⟨ns[i],List.getElem_mem hi',h.cell (by simp [hi'])⟩
end Go.Proofs.YtfejobjgbadfjaaGreat.RegJ
