/- Contracts of this seat's functions, and their mathematics (GivC HopJ). -/
import Derived.Test.YtfejobjgbadfjaaGreatK3
import Derived.Test.YtfejobjgbadfjaaGreatK10
import Derived.Test.YtfejobjgbadfjaaGreatK11
set_option linter.unusedVariables false
set_option linter.unusedSimpArgs false
set_option maxRecDepth 10000
set_option maxHeartbeats 8000000
namespace Go.Proofs.YtfejobjgbadfjaaGreat.Giv
open Go.RowKit RowG
def upB (g:Gv)(limit:Int):Bool:=Num.plB limit&&decide (g.lm<limit)
def lmT (g:Gv)(base limit:Int):Int:=if (if upB g limit then limit else g.lm)<base then base else(if upB g limit then limit else g.lm)
def dnB (g:Gv)(base:Int)(done:Bool):Bool:=done&&(g.en&&(decide ((g.bs.extract (base-g.ba).toNat g.bs.size).size=0)&& !g.dn))
def hearG (g:Gv)(base limit:Int)(done:Bool):Gv×Bool:=if base<g.ba∨g.ba+g.bs.size<base then(g,false)else
 (⟨base,g.bs.extract (base-g.ba).toNat g.bs.size,g.cp,lmT g base limit,g.en,g.dn||dnB g base done⟩,(decide (g.ba<base)||upB g limit)||dnB g base done)
theorem hear_ok {g:Gv}(h:g.ok=true)(base limit:Int)(done:Bool):(hearG g base limit done).1.ok=true:=by
 obtain⟨h1,h2,h3,h4,h5,h6,h7⟩:=ok_iff.1 h
 unfold hearG
 split
 ·exact h
 ·rename_i hc
  have e:(g.bs.extract (base-g.ba).toNat g.bs.size).size=g.bs.size-(base-g.ba).toNat:=ext_size _ _ _ (Nat.le_refl _)
  have hl:(0≤lmT g base limit∧lmT g base limit≤1000000000)∧base≤lmT g base limit:=by
   unfold lmT
   cases hu:upB g limit
   ·simp only [Bool.false_eq_true,if_false];split <;>omega
   ·simp only [upB,Bool.and_eq_true]at hu
    have:=Num.pl_t hu.1
    simp only [if_true];split <;>omega
  refine ok_iff.2 ⟨h1,by dsimp only;omega,by dsimp only;rw [e];omega,by dsimp only;rw [e];omega,hl.1,hl.2,fun hd=>?_⟩
  dsimp only at hd ⊢
  rcases Bool.or_eq_true _ _▸hd with hd|hd
  ·have:=h7 hd
   exact⟨this.1,by rw [e];omega⟩
  ·simp only [dnB,Bool.and_eq_true,decide_eq_true_eq]at hd
   exact⟨hd.2.1,hd.2.2.1⟩
theorem l6HearW {T:TypeId}{pre post:List Value}{ow:Nat}(k:Nat)(g:Gv)(base limit:Int)(done:Bool)(w:World)(hv:Win T pre post ow w k g.c)(hok:g.ok=true):
  Calls Tryz.prog 105 #[.pointer (some ⟨k,ow,none⟩),.int .i64 base,.int .i64 limit,.bool done] w fun x w'=>x=.returned (.bool (hearG g base limit done).2)∧Win T pre post ow w' k (hearG g base limit done).1.c∧Draw.Kept k w w':=by
 have hmix:=mix
 obtain⟨⟨i8,i9⟩,⟨j1,j2⟩,i3,i4,⟨j3,j4⟩,i6,i7⟩:=ok_iff.1 hok
 have hE:=fun w'=>l6End g w' ⟨⟨by omega,by omega⟩,by omega⟩
 have HR:Hid (hearG g base limit done=if base<g.ba∨g.ba+g.bs.size<base then(g,false)else(⟨base,g.bs.extract (base-g.ba).toNat g.bs.size,g.cp,lmT g base limit,g.en,g.dn||dnB g base done⟩,(decide (g.ba<base)||upB g limit)||dnB g base done)):=rfl
 have HU:Hid (upB g limit=(Num.plB limit&&decide (g.lm<limit))):=rfl
 have HL:Hid (lmT g base limit=if (if upB g limit then limit else g.lm)<base then base else(if upB g limit then limit else g.lm)):=rfl
 have HD:Hid (dnB g base done=(done&&(g.en&&(decide ((g.bs.extract (base-g.ba).toNat g.bs.size).size=0)&& !g.dn)))):=rfl
 generalize hearG g base limit done=R at *
 generalize upB g limit=up at *
 generalize lmT g base limit=LM at *
 generalize dnB g base done=D at *
 clear hok i7
 obtain⟨ba,bs,cp,lm,en,dn⟩:=g
 dsimp only [Gv.c,Gv.v]at *
 have e0:=hv.cell0 rfl
 have e1:=hv.cell (i:=1) rfl
 have e2:=hv.cell (i:=2) rfl
 have e3:=hv.cell (i:=3) rfl
 have e4:=hv.cell (i:=4) rfl
 have e5:=hv.cell (i:=5) rfl
 go_enter Tryz.func105,Tryz.ntmps105
 by_cases h1:base<ba
 case pos=>
  go_wp2_with fail
  go_ret
  rw [HR.out,if_pos (.inl h1)]
  exact⟨rfl,hv,Draw.Kept.refl _ _⟩
 go_wp2_with fail
 refine(hE _).mono ?_
 rintro x w1 ⟨rfl,bw⟩
 replace hv:=hv.later bw
 have K1:Draw.Kept k w w1:=Draw.Kept.ofBelow bw (Nat.le_refl _)
 clear bw hE e0 e1 e2 e3 e4 e5
 have e0:=hv.cell0 rfl
 have e1:=hv.cell (i:=1) rfl
 have x1:=hv.free 1
 by_cases h2:ba+bs.size<base
 case pos=>
  go_wp2_with fail
  go_ret
  rw [HR.out,if_pos (.inr h2)]
  exact⟨rfl,hv,K1⟩
 replace HR:Hid (R=(⟨base,bs.extract (base-ba).toNat bs.size,cp,LM,en,dn||D⟩,(decide (ba<base)||up)||D)):=by
  have:=HR.out
  rw [if_neg (by omega)]at this
  exact this
 have h3:0≤base-ba:=by omega
 have h4:base-ba≤bs.size:=by omega
 have ew:IntKind.i64.wrap (base-ba)=base-ba:=by rw [IntKind.wrap_i64];omega
 go_wp2_with fail
 refine Draw.wp_region_Y (S:=(fun w'=>w'.cell? ⟨k,ow,none⟩=some (.int .i64 ba)∧w'.cell? ⟨k,ow+1,none⟩=some (.string bs))) 14 (by kernel_rfl) ?_ (fun hHeld=>?_)
 focus ((try dsimp only) <;>(first|with_reducible exact hHeld|exact⟨e0,e1⟩))
 refine Draw.wpAnyY_take (i:=0) (v:=?_) rfl (by kernel_rfl) (by kernel_rfl) (by kernel_rfl) (by kernel_rfl) (fun _ _ _ h=>h) (Or.inl ⟨by rfl,?_⟩) (by assumption) ?_
 rotate_left 1
 focus (intro s h;(try dsimp only at h);go_simp;(try apply And.intro) <;>with_reducible rfl)
 (try simp only [Act.put,Draw.lays])
 refine Draw.wpAnyY_take (i:=1) (v:=?_) rfl (by kernel_rfl) (by kernel_rfl) (by kernel_rfl) (by kernel_rfl) (fun _ _ _ h=>h) (Or.inl ⟨by rfl,?_⟩) (by assumption) ?_
 rotate_left 1
 focus (intro s h;(try dsimp only at h);go_simp;(try apply And.intro) <;>with_reducible rfl)
 (try simp only [Act.put,Draw.lays])
 refine Draw.wpAnyY_take (i:=2) (v:=?_) rfl (by kernel_rfl) (by kernel_rfl) (by kernel_rfl) (by kernel_rfl) (fun _ _ _ h=>h) (Or.inl ⟨by rfl,?_⟩) (by assumption) ?_
 rotate_left 1
 focus (intro s h;(try dsimp only at h);go_simp;(try apply And.intro) <;>with_reducible rfl)
 (try simp only [Act.put,Draw.lays])
 refine Draw.wpAnyY_take (i:=3) (v:=?_) rfl (by kernel_rfl) (by kernel_rfl) (by kernel_rfl) (by kernel_rfl) (fun _ _ _ h=>h) (Or.inl ⟨by rfl,?_⟩) (by assumption) ?_
 rotate_left 1
 focus (intro s h;(try dsimp only at h);go_simp;(try apply And.intro) <;>with_reducible rfl)
 (try simp only [Act.put,Draw.lays])
 refine Draw.wpAnyY_take (i:=4) (v:=?_) rfl (by kernel_rfl) (by kernel_rfl) (by kernel_rfl) (by kernel_rfl) (fun _ _ _ h=>h) (Or.inl ⟨by rfl,?_⟩) (by assumption) ?_
 rotate_left 1
 focus (intro s h;(try dsimp only at h);go_simp;(try apply And.intro) <;>with_reducible rfl)
 (try simp only [Act.put,Draw.lays])
 refine Draw.wpAnyY_take (i:=5) (v:=?_) rfl (by kernel_rfl) (by kernel_rfl) (by kernel_rfl) (by kernel_rfl) (fun _ _ _ h=>h) (Or.inl ⟨by rfl,?_⟩) (by assumption) ?_
 rotate_left 1
 focus (intro s h;(try dsimp only at h);go_simp;(try apply And.intro) <;>with_reducible rfl)
 (try simp only [Act.put,Draw.lays])
 refine Draw.wpAnyY_take (i:=6) (v:=?_) rfl (by kernel_rfl) (by kernel_rfl) (by kernel_rfl) (by kernel_rfl) (fun _ _ _ h=>h) (Or.inl ⟨by rfl,?_⟩) (by assumption) ?_
 rotate_left 1
 focus (intro s h;(try dsimp only at h);go_simp;(try apply And.intro) <;>with_reducible rfl)
 (try simp only [Act.put,Draw.lays])
 refine Draw.wpAnyY_take (i:=7) (v:=?_) rfl (by kernel_rfl) (by kernel_rfl) (by kernel_rfl) (by kernel_rfl) (fun _ _ _ h=>h) (Or.inl ⟨by rfl,?_⟩) (by assumption) ?_
 rotate_left 1
 focus (intro s h;(try dsimp only at h);go_simp;(try apply And.intro) <;>with_reducible rfl)
 (try simp only [Act.put,Draw.lays])
 refine Draw.wpAnyY_take (i:=8) (v:=?_) rfl (by kernel_rfl) (by kernel_rfl) (by kernel_rfl) (by kernel_rfl) (fun _ _ _ h=>h) (Or.inl ⟨by rfl,?_⟩) (by assumption) ?_
 rotate_left 1
 focus (intro s h;(try dsimp only at h);go_simp;(try apply And.intro) <;>with_reducible rfl)
 (try simp only [Act.put,Draw.lays])
 refine Draw.wpAnyY_take (i:=9) (v:=?_) rfl (by kernel_rfl) (by kernel_rfl) (by kernel_rfl) (by kernel_rfl) (fun _ _ _ h=>h) (Or.inl ⟨by rfl,?_⟩) (by assumption) ?_
 rotate_left 1
 focus (intro s h;(try dsimp only at h);go_simp;(try apply And.intro) <;>with_reducible rfl)
 (try simp only [Act.put,Draw.lays])
 refine Draw.wpAnyY_take (i:=10) (v:=?_) rfl (by kernel_rfl) (by kernel_rfl) (by kernel_rfl) (by kernel_rfl) (fun _ _ _ h=>h) (Or.inl ⟨by rfl,?_⟩) (by assumption) ?_
 rotate_left 1
 focus (intro s h;(try dsimp only at h);go_simp;(try apply And.intro) <;>with_reducible rfl)
 (try simp only [Act.put,Draw.lays])
 refine Draw.wpAnyY_take (i:=11) (v:=?_) rfl (by kernel_rfl) (by kernel_rfl) (by kernel_rfl) (by kernel_rfl) (fun _ _ _ h=>h) (Or.inl ⟨by rfl,?_⟩) (by assumption) ?_
 rotate_left 1
 focus (intro s h;(try dsimp only at h);go_simp;(try apply And.intro) <;>with_reducible rfl)
 (try simp only [Act.put,Draw.lays])
 refine Draw.wpAnyY_takeT (i:=12) (v:=?_) rfl (by kernel_rfl) (by kernel_rfl) (by kernel_rfl) (fun _ _ _ h=>h) (Or.inl ⟨by rfl,?_⟩) ?_
 rotate_left 1
 focus (intro s h;(try dsimp only at h);go_simp;(try apply And.intro) <;>with_reducible rfl)
 (try simp only [Act.put,Draw.lays])
 refine Draw.wpAnyY_takeT (i:=13) (v:=?_) rfl (by kernel_rfl) (by kernel_rfl) (by kernel_rfl) (fun _ _ _ h=>h) (Or.inl ⟨by rfl,?_⟩) ?_
 rotate_left 1
 focus (intro s h;(try dsimp only at h);go_simp;(try apply And.intro) <;>with_reducible rfl)
 (try simp only [Act.put,Draw.lays])
 refine Draw.wpAnyY_ready (rs:=[14]) (by kernel_rfl) (by simp) ?_
 refine Draw.AllReadyY.cons rfl (fun K hK=>?_) Draw.AllReadyY.nil
 go_simp
 refine hK.out _ _ (fun h=>absurd rfl h) (fun hHeld2=>?_)
 clear hK K hHeld hHeld2
 (try simp only [Act.put,Draw.lays])
 refine Draw.wpAnyY_done (by kernel_rfl) ?_ _
 clear e0 e1 x1
 replace hv:Win T pre post ow ((w1.setCell ⟨k,ow+1,none⟩ (.string (bs.extract (base-ba).toNat bs.size))).drew) k [.int .i64 ba,.string (bs.extract (base-ba).toNat bs.size),.int .i64 cp,.int .i64 lm,.bool en,.bool dn]:=(hv.set 1 _).drew
 replace K1:Draw.Kept k w ((w1.setCell ⟨k,ow+1,none⟩ (.string (bs.extract (base-ba).toNat bs.size))).drew):=(K1.setCell (.inl rfl) _).drew
 generalize (w1.setCell ⟨k,ow+1,none⟩ (.string (bs.extract (base-ba).toNat bs.size))).drew=W1 at *
 clear ew h3 h4
 have hse:=isEmpty_eq (bs.extract (base-ba).toNat bs.size)
 generalize bs.extract (base-ba).toNat bs.size=b2 at *
 have e0:=hv.cell0 rfl
 have x0:=hv.free0
 go_upto_region 6 with(fail)
 replace hv:Win T pre post ow (W1.setCell ⟨k,ow,none⟩ (.int .i64 base)) k [.int .i64 base,.string b2,.int .i64 cp,.int .i64 lm,.bool en,.bool dn]:=hv.set0 _
 replace K1:Draw.Kept k w (W1.setCell ⟨k,ow,none⟩ (.int .i64 base)):=K1.setCell (.inl rfl) _
 clear e0 x0
 generalize W1.setCell ⟨k,ow,none⟩ (.int .i64 base)=W2 at *
 obtain⟨l1,hl1⟩: ∃l1,(if up then limit else lm)=l1:=⟨_,rfl⟩
 have HL1:Hid _:=hl1
 have HSE:Hid _:=hse
 replace HL:Hid (LM=if l1<base then base else l1):=by have:=HL.out;rw [hl1]at this;exact this
 clear hl1 hse
 have e3:=hv.cell (i:=3) rfl
 have x3:=hv.free 3
 go_cut [57]from 48 (fun v wr=>wr=W2∧v=.bool up)
 case first=>
  go_wp2_with fail
  refine(Num.l1Place limit _).mono ?_
  rintro x w3 ⟨rfl,rfl⟩
  cases hpl:Num.plB limit
  case false=>
   have hu:up=false:=by rw [HU.out,hpl];rfl
   go_wp2_with fail
   go_meet
   exact⟨rfl,by rw [hu]⟩
  have hu:up=decide (lm<limit):=by rw [HU.out,hpl];rfl
  go_wp2_with fail
  go_meet
  exact⟨rfl,by rw [hu]⟩
 case rest=>
  obtain⟨rfl,rfl⟩:=hcut
  go_upto_if 57 with(fail)
  go_cut [9]from 58 (fun v wr=>v=.bool (decide (ba<base)||up)∧Win T pre post ow wr k [.int .i64 base,.string b2,.int .i64 cp,.int .i64 l1,.bool en,.bool dn]∧Draw.Kept k w wr)
  case first=>
   cases up
   case false=>
    have hl:lm=l1:=HL1.out
    subst hl
    go_wp2_with fail
    go_meet
    exact⟨by rw [Bool.or_false],hv,K1⟩
   case true=>
    have hl:limit=l1:=HL1.out
    subst hl
    go_wp2_with fail
    go_meet
    exact⟨by rw [Bool.or_true],hv.set 3 _,K1.setCell (.inl rfl) _⟩
  case rest=>
   obtain⟨rfl,hv2,K2⟩:=hcut
   clear hv K1 e3 x3
   have e0:=hv2.cell0 rfl
   have e3:=hv2.cell (i:=3) rfl
   have x3:=hv2.free 3
   go_wp2_with fail
   refine wp_region_held_drew (S:=(fun w'=>w'.cell? ⟨k,ow,none⟩=some (.int .i64 base)∧w'.cell? ⟨k,ow+3,none⟩=some (.int .i64 l1))) (by kernel_rfl) ?_ (fun hHeld=>?_)
   focus ((try dsimp only) <;>(exact⟨e0,e3⟩))
   refine wpAnyH_take (i:=0) (v:=?_) rfl (by kernel_rfl) (by kernel_rfl) (by kernel_rfl) (fun _ _ _ h=>h) (Or.inl ⟨by rfl,?_⟩) (by assumption) ?_
   rotate_left 1
   focus (intro s h;(try dsimp only at h);go_simp;(try apply And.intro) <;>with_reducible rfl)
   (try simp only [Act.put,Draw.lays])
   refine wpAnyH_take (i:=1) (v:=?_) rfl (by kernel_rfl) (by kernel_rfl) (by kernel_rfl) (fun _ _ _ h=>h) (Or.inl ⟨by rfl,?_⟩) (by assumption) ?_
   rotate_left 1
   focus (intro s h;(try dsimp only at h);go_simp;(try apply And.intro) <;>with_reducible rfl)
   (try simp only [Act.put,Draw.lays])
   refine wpAnyH_take (i:=2) (v:=?_) rfl (by kernel_rfl) (by kernel_rfl) (by kernel_rfl) (fun _ _ _ h=>h) (Or.inl ⟨by rfl,?_⟩) (by assumption) ?_
   rotate_left 1
   focus (intro s h;(try dsimp only at h);go_simp;(try apply And.intro) <;>with_reducible rfl)
   (try simp only [Act.put,Draw.lays])
   refine wpAnyH_take (i:=3) (v:=?_) rfl (by kernel_rfl) (by kernel_rfl) (by kernel_rfl) (fun _ _ _ h=>h) (Or.inl ⟨by rfl,?_⟩) (by assumption) ?_
   rotate_left 1
   focus (intro s h;(try dsimp only at h);go_simp;(try apply And.intro) <;>with_reducible rfl)
   (try simp only [Act.put,Draw.lays])
   refine wpAnyH_take (i:=4) (v:=?_) rfl (by kernel_rfl) (by kernel_rfl) (by kernel_rfl) (fun _ _ _ h=>h) (Or.inl ⟨by rfl,?_⟩) (by assumption) ?_
   rotate_left 1
   focus (intro s h;(try dsimp only at h);go_simp;(try apply And.intro) <;>with_reducible rfl)
   (try simp only [Act.put,Draw.lays])
   refine wpAnyH_take (i:=5) (v:=?_) rfl (by kernel_rfl) (by kernel_rfl) (by kernel_rfl) (fun _ _ _ h=>h) (Or.inl ⟨by rfl,?_⟩) (by assumption) ?_
   rotate_left 1
   focus (intro s h;(try dsimp only at h);go_simp;(try apply And.intro) <;>with_reducible rfl)
   (try simp only [Act.put,Draw.lays])
   refine wpAnyH_take (i:=6) (v:=?_) rfl (by kernel_rfl) (by kernel_rfl) (by kernel_rfl) (fun _ _ _ h=>h) (Or.inl ⟨by rfl,?_⟩) (by assumption) ?_
   rotate_left 1
   focus (intro s h;(try dsimp only at h);go_simp;(try apply And.intro) <;>with_reducible rfl)
   (try simp only [Act.put,Draw.lays])
   refine wpAnyH_take (i:=7) (v:=?_) rfl (by kernel_rfl) (by kernel_rfl) (by kernel_rfl) (fun _ _ _ h=>h) (Or.inl ⟨by rfl,?_⟩) (by assumption) ?_
   rotate_left 1
   focus (intro s h;(try dsimp only at h);go_simp;(try apply And.intro) <;>with_reducible rfl)
   (try simp only [Act.put,Draw.lays])
   refine wpAnyH_take (i:=8) (v:=?_) rfl (by kernel_rfl) (by kernel_rfl) (by kernel_rfl) (fun _ _ _ h=>h) (Or.inl ⟨by rfl,?_⟩) (by assumption) ?_
   rotate_left 1
   focus (intro s h;(try dsimp only at h);go_simp;(try apply And.intro) <;>with_reducible rfl)
   (try simp only [Act.put,Draw.lays])
   refine wpAnyH_done (by kernel_rfl) ?_ _
   go_upto_if 70 with(fail)
   go_cut []from 71 (fun wr=>Win T pre post ow wr k [.int .i64 base,.string b2,.int .i64 cp,.int .i64 LM,.bool en,.bool dn]∧Draw.Kept k w wr)
   case first=>
    by_cases hlb:l1<base
    case neg=>
     have hl:LM=l1:=by rw [HL.out,if_neg hlb]
     subst hl
     go_wp2_with fail
     go_meet
     exact⟨hv2.drew,K2.drew⟩
    case pos=>
     have hl:LM=base:=by rw [HL.out,if_pos hlb]
     subst hl
     go_wp2_with fail
     go_meet
     exact⟨hv2.drew.set 3 _,K2.drew.setCell (.inl rfl) _⟩
   case rest=>
    obtain⟨hv3,K3⟩:=hcut
    clear hv2 K2 e0 e3 x3
    have e1:=hv3.cell (i:=1) rfl
    have e4:=hv3.cell (i:=4) rfl
    have e5:=hv3.cell (i:=5) rfl
    have x5:=hv3.free 5
    have hse:=HSE.out
    cases done
    case false=>
     have hd:D=false:=HD.out
     subst hd
     go_wp2_with fail
     go_ret
     rw [HR.out]
     exact⟨Num.ret_bool (by simp),by simpa using hv3,K3⟩
    cases en
    case false=>
     have hd:D=false:=HD.out
     subst hd
     go_wp2_with fail
     go_ret
     rw [HR.out]
     exact⟨Num.ret_bool (by simp),by simpa using hv3,K3⟩
    by_cases hz:b2.size=0
    case neg=>
     have hd:D=false:=by rw [HD.out,decide_eq_false hz];rfl
     rw [decide_eq_false hz]at hse
     subst hd
     go_wp2_with fail
     go_ret
     rw [HR.out]
     exact⟨Num.ret_bool (by simp),by simpa using hv3,K3⟩
    rw [decide_eq_true hz]at hse
    cases dn
    case true=>
     have hd:D=false:=by rw [HD.out,decide_eq_true hz];rfl
     subst hd
     go_wp2_with fail
     go_ret
     rw [HR.out]
     exact⟨Num.ret_bool (by simp),by simpa using hv3,K3⟩
    have hd:D=true:=by rw [HD.out,decide_eq_true hz];rfl
    subst hd
    go_wp2_with fail
    go_ret
    rw [HR.out]
    exact⟨Num.ret_bool (by simp),hv3.set 5 _,K3.setCell (.inl rfl) _⟩
theorem l6Hear (k:Nat)(g:Gv)(base limit:Int)(done:Bool)(w:World)(hv:Var 41 w k g.c)(hok:g.ok=true):
  Calls Tryz.prog 105 #[.pointer (some ⟨k,0,none⟩),.int .i64 base,.int .i64 limit,.bool done] w fun x w'=>x=.returned (.bool (hearG g base limit done).2)∧Var 41 w' k (hearG g base limit done).1.c∧Draw.Kept k w w':=
 (l6HearW k g base limit done w hv.win hok).mono fun _ _ ⟨h1,h2,h3⟩=>⟨h1,h2.whole,h3⟩
end Go.Proofs.YtfejobjgbadfjaaGreat.Giv
namespace Go.Proofs.YtfejobjgbadfjaaGreat.Hop
open Go.RowKit RowG
theorem _root_.Go.Proofs.YtfejobjgbadfjaaGreat.RowG.Win.sub {T:TypeId}{pre post a b c:List Value}{o:Nat}{w:World}{k:Nat}(h:Win T pre post o w k (a++b++c)):Win T (pre++a) (c++post) (o+a.length) w k b:=by
 refine⟨by simp [h.len],?_⟩
 have:=h.blk
 simpa [List.append_assoc]using this
theorem _root_.Go.Proofs.YtfejobjgbadfjaaGreat.RowG.Win.up {T:TypeId}{pre post a b c:List Value}{o:Nat}{w:World}{k:Nat}(h:Win T (pre++a) (c++post) (o+a.length) w k b):Win T pre post o w k (a++b++c):=by
 refine⟨by have:=h.len;simp at this;omega,?_⟩
 have:=h.blk
 simpa [List.append_assoc]using this
theorem _root_.Go.Proofs.YtfejobjgbadfjaaGreat.RowG.Win.fst {T:TypeId}{pre post b c:List Value}{o:Nat}{w:World}{k:Nat}(h:Win T pre post o w k (b++c)):Win T pre (c++post) o w k b:=⟨h.len,by have:=h.blk;simpa [List.append_assoc]using this⟩
theorem _root_.Go.Proofs.YtfejobjgbadfjaaGreat.RowG.Win.unfst {T:TypeId}{pre post b c:List Value}{o:Nat}{w:World}{k:Nat}(h:Win T pre (c++post) o w k b):Win T pre post o w k (b++c):=⟨h.len,by have:=h.blk;simpa [List.append_assoc]using this⟩
def comeH (h:Hp)(n:Int):Hp×Bool:=match outH h n with
 | (y,x,true)=>(if x.bk then⟨(Giv.hearG y.g x.pl x.lm x.dn).1,y.t,y.ws⟩else⟨y.g,(Tak.takeT y.t x.pl x.bs x.en).1,y.ws⟩,true)
 | (y,_,false)=>(y,false)
theorem outH_in {h:Hp}{n:Int}{y:Hp}{x:Lt}(he:outH h n=(y,x,true)):x∈h.ws∧y.g=h.g∧y.t=h.t∧(∀z∈y.ws,z∈h.ws)∧y.ws.length+1=h.ws.length:=by
 unfold outH at he
 split at he
 ·split at he
  ·rename_i z hz
   simp only [Prod.mk.injEq]at he
   obtain⟨rfl,rfl,-⟩:=he
   have hl:=(List.getElem?_eq_some_iff.1 hz).1
   refine⟨List.mem_of_getElem? hz,rfl,rfl,fun q hq=>?_,by simp;omega⟩
   rcases List.mem_append.1 hq with q1|q1
   ·exact List.mem_of_mem_take q1
   ·exact List.mem_of_mem_drop q1
  ·simp at he
 ·simp at he
theorem let_in {x:Lt}(h:letB x=true):(0≤x.pl∧x.pl≤1000000000)∧x.bs.size≤40:=by
 unfold letB at h
 simp only [Bool.and_eq_true,decide_eq_true_eq,Num.plB]at h
 obtain⟨-,hp,h⟩:=h
 refine⟨hp,?_⟩
 split at h
 ·simp only [Bool.and_eq_true,decide_eq_true_eq]at h
  omega
 ·simp only [Bool.and_eq_true,decide_eq_true_eq]at h
  exact h.2.2.1
theorem comeL {T:TypeId}{pre post:List Value}{ow:Nat}(hT:T≠75)(hT2:T≠123)(k B:Nat)(h:Hp)(aT:Option Addr)(cT:Nat)(aW:Option Addr)(cW:Nat)(n:Int)(w:World)(v:Win T pre post ow w k (h.c aT cT aW cW))(o1:Tak.partE.Own 123 w B aT cT h.t.l)(o2:letE.Own 75 w B aW cW h.ws)(hB:B≤w.heap.size)(hb:hopB h=true):
  Calls Tryz.prog 89 #[.pointer (some ⟨k,ow,none⟩),.int .i64 n] w fun e w'=>e=.returned (.bool (comeH h n).2)∧(∃aT' cT' aW' cW',Win T pre post ow w' k ((comeH h n).1.c aT' cT' aW' cW')∧Tak.partE.Own 123 w' B aT' cT' (comeH h n).1.t.l∧letE.Own 75 w' B aW' cW' (comeH h n).1.ws∧Locd w.heap.size aW aW')∧Draw.Kept k w w':=by
 have hmix:=mix
 obtain⟨hn30,hgo,hto,hlo⟩:=hop_ok hb
 have hO:=l7OutL hT k B h aT cT aW cW n w v o2 hB (by omega)
 have hne:=own_win hT2 o1 v
 unfold comeH
 obtain⟨⟨y,x,is⟩,hR⟩: ∃R,outH h n=R:=⟨_,rfl⟩
 rw [hR]at hO ⊢
 have HR:Hid _:=hR
 clear hR hb
 dsimp only [Lt.v]at hO ⊢
 go_enter Tryz.func89,Tryz.ntmps89
 go_wp2_with fail
 refine hO.mono ?_
 rintro e w1 ⟨aW',cW',rfl,v1,o2',k1,loc⟩
 have o1':=o1.kept k1 hne
 have v5:Var 75 (w1.alloc (.cells #[.bool x.bk,.int .i64 x.rd,.int .i64 x.pl,.string x.bs,.bool x.en,.int .i64 x.lm,.bool x.dn] 75)) w1.heap.size [.bool x.bk,.int .i64 x.rd,.int .i64 x.pl,.string x.bs,.bool x.en,.int .i64 x.lm,.bool x.dn]:=Var.new w1 _
 have vA:=v1.alloc (.cells #[.bool x.bk,.int .i64 x.rd,.int .i64 x.pl,.string x.bs,.bool x.en,.int .i64 x.lm,.bool x.dn] 75)
 have oA:=o2'.alloc (.cells #[.bool x.bk,.int .i64 x.rd,.int .i64 x.pl,.string x.bs,.bool x.en,.int .i64 x.lm,.bool x.dn] 75)
 have oB:=o1'.alloc (.cells #[.bool x.bk,.int .i64 x.rd,.int .i64 x.pl,.string x.bs,.bool x.en,.int .i64 x.lm,.bool x.dn] 75)
 have K1:=k1.alloc (.cells #[.bool x.bk,.int .i64 x.rd,.int .i64 x.pl,.string x.bs,.bool x.en,.int .i64 x.lm,.bool x.dn] 75)
 have hkk:k<w1.heap.size:=v1.lt
 clear hO v1 o2' o1' k1 v o1 o2 hne
 go_upto_region 2 with(fail)
 generalize w1.alloc (.cells #[.bool x.bk,.int .i64 x.rd,.int .i64 x.pl,.string x.bs,.bool x.en,.int .i64 x.lm,.bool x.dn] 75)=W at *
 generalize w1.heap.size=k5 at *
 have hBW:B≤W.heap.size:=Nat.le_trans hB K1.size
 obtain⟨e0,e1,e2,e3,e4,e5,e6⟩:=v5.c7
 cases is
 case false=>
  have hy:y=h:=by
   have:=HR.out
   unfold outH at this
   split at this
   ·split at this
    ·simp at this
    ·simp only [Prod.mk.injEq]at this;exact this.1.symm
   ·simp only [Prod.mk.injEq]at this;exact this.1.symm
  subst hy
  go_wp2_with fail
  go_ret
  exact⟨rfl,⟨aT,cT,aW',cW',vA,oB,oA,loc⟩,K1⟩
 obtain⟨hxm,hyg,hyt,hyw,hyl⟩:=outH_in HR.out
 have hxl:=let_in (hlo x hxm)
 obtain⟨yg,yt,yw⟩:=y
 dsimp only at hyg hyt
 subst hyg hyt
 dsimp only at *
 have hT1:=own_win hT2 oB vA
 obtain⟨xk,xr,xp,xb,xe,xm,xd⟩:=x
 dsimp only at *
 clear HR hlo hxm
 cases xk
 case true=>
  have vG:Win T pre ([.int .i64 h.t.nx,.string h.t.bs,.slice aT h.t.l.length cT,.int .i64 h.t.cp,.int .i64 h.t.fi,.bool h.t.en]++[.slice aW' yw.length cW']++post) ow W k h.g.c:=Win.fst (b:=h.g.c) (c:=[.int .i64 h.t.nx,.string h.t.bs,.slice aT h.t.l.length cT,.int .i64 h.t.cp,.int .i64 h.t.fi,.bool h.t.en]++[.slice aW' yw.length cW']) vA
  go_wp2_with fail
  refine Draw.wp_region_Y (S:=(fun w'=>w'.cell? ⟨k5,0,none⟩=some (.bool true)∧w'.cell? ⟨k5,1,none⟩=some (.int .i64 xr)∧w'.cell? ⟨k5,2,none⟩=some (.int .i64 xp)∧w'.cell? ⟨k5,3,none⟩=some (.string xb)∧w'.cell? ⟨k5,4,none⟩=some (.bool xe)∧w'.cell? ⟨k5,5,none⟩=some (.int .i64 xm)∧w'.cell? ⟨k5,6,none⟩=some (.bool xd))) 9 (by kernel_rfl) ?_ (fun hHeld=>?_)
  focus ((try dsimp only) <;>(first|with_reducible exact hHeld|with_reducible exact hS2|exact⟨e0,e1,e2,e3,e4,e5,e6⟩))
  refine Draw.wpAnyY_takeT (i:=0) (v:=?_) rfl (by kernel_rfl) (by kernel_rfl) (by kernel_rfl) (fun _ _ _ h=>h) (Or.inl ⟨by rfl,?_⟩) ?_
  rotate_left 1
  focus (intro s h;(try dsimp only at h);go_simp;(try apply And.intro) <;>with_reducible rfl)
  (try simp only [Act.put,Draw.lays])
  refine Draw.wpAnyY_takeT (i:=1) (v:=?_) rfl (by kernel_rfl) (by kernel_rfl) (by kernel_rfl) (fun _ _ _ h=>h) (Or.inl ⟨by rfl,?_⟩) ?_
  rotate_left 1
  focus (intro s h;(try dsimp only at h);go_simp;(try apply And.intro) <;>with_reducible rfl)
  (try simp only [Act.put,Draw.lays])
  refine Draw.wpAnyY_takeT (i:=2) (v:=?_) rfl (by kernel_rfl) (by kernel_rfl) (by kernel_rfl) (fun _ _ _ h=>h) (Or.inl ⟨by rfl,?_⟩) ?_
  rotate_left 1
  focus (intro s h;(try dsimp only at h);go_simp;(try apply And.intro) <;>with_reducible rfl)
  (try simp only [Act.put,Draw.lays])
  refine Draw.wpAnyY_takeT (i:=3) (v:=?_) rfl (by kernel_rfl) (by kernel_rfl) (by kernel_rfl) (fun _ _ _ h=>h) (Or.inl ⟨by rfl,?_⟩) ?_
  rotate_left 1
  focus (intro s h;(try dsimp only at h);go_simp;(try apply And.intro) <;>with_reducible rfl)
  (try simp only [Act.put,Draw.lays])
  refine Draw.wpAnyY_take (i:=4) (v:=?_) rfl (by kernel_rfl) (by kernel_rfl) (by kernel_rfl) (by kernel_rfl) (fun _ _ _ h=>h) (Or.inl ⟨by rfl,?_⟩) (by assumption) ?_
  rotate_left 1
  focus (intro s h;(try dsimp only at h);go_simp;(try apply And.intro) <;>with_reducible rfl)
  (try simp only [Act.put,Draw.lays])
  refine Draw.wpAnyY_takeT (i:=5) (v:=?_) rfl (by kernel_rfl) (by kernel_rfl) (by kernel_rfl) (fun _ _ _ h=>h) (Or.inl ⟨by rfl,?_⟩) ?_
  rotate_left 1
  focus (intro s h;(try dsimp only at h);go_simp;(try apply And.intro) <;>with_reducible rfl)
  (try simp only [Act.put,Draw.lays])
  refine Draw.wpAnyY_take (i:=6) (v:=?_) rfl (by kernel_rfl) (by kernel_rfl) (by kernel_rfl) (by kernel_rfl) (fun _ _ _ h=>h) (Or.inl ⟨by rfl,?_⟩) (by assumption) ?_
  rotate_left 1
  focus (intro s h;(try dsimp only at h);go_simp;(try apply And.intro) <;>with_reducible rfl)
  (try simp only [Act.put,Draw.lays])
  refine Draw.wpAnyY_takeT (i:=7) (v:=?_) rfl (by kernel_rfl) (by kernel_rfl) (by kernel_rfl) (fun _ _ _ h=>h) (Or.inl ⟨by rfl,?_⟩) ?_
  rotate_left 1
  focus (intro s h;(try dsimp only at h);go_simp;(try apply And.intro) <;>with_reducible rfl)
  (try simp only [Act.put,Draw.lays])
  refine Draw.wpAnyY_take (i:=8) (v:=?_) rfl (by kernel_rfl) (by kernel_rfl) (by kernel_rfl) (by kernel_rfl) (fun _ _ _ h=>h) (Or.inl ⟨by rfl,?_⟩) (by assumption) ?_
  rotate_left 1
  focus (intro s h;(try dsimp only at h);go_simp;(try apply And.intro) <;>with_reducible rfl)
  (try simp only [Act.put,Draw.lays])
  refine Draw.wpAnyY_ready (rs:=[9]) (by kernel_rfl) (by simp) ?_
  refine Draw.AllReadyY.cons rfl (fun K hK=>?_) Draw.AllReadyY.nil
  (go_simp;refine(Giv.l6HearW k h.g xp xm xd _ vG.drew hgo).mono ?_;rintro e w3 ⟨rfl,v3,k3⟩;have v53:=v5.drew.kept k3 (by omega);have K3:=K1.drew.trans k3;have oA3:=oA.drew.kept k3 (own_win hT oA vA);have oB3:=oB.drew.kept k3 hT1)
  refine hK.out _ _ (fun h=>absurd rfl h) (fun hHeld2=>?_)
  clear hK K hHeld hHeld2
  (try simp only [Act.put,Draw.lays])
  refine Draw.wpAnyY_done (by kernel_rfl) ?_ _
  have v7:=Win.unfst (b:=(Giv.hearG h.g xp xm xd).1.c) (c:=[.int .i64 h.t.nx,.string h.t.bs,.slice aT h.t.l.length cT,.int .i64 h.t.cp,.int .i64 h.t.fi,.bool h.t.en]++[.slice aW' yw.length cW']) v3
  clear v3 vG vA e0 e1 e2 e3 e4 e5 e6
  obtain⟨e0,e1,e2,e3,e4,e5,e6⟩:=v53.c7
  go_wp2_with fail
  go_ret
  exact⟨rfl,⟨aT,cT,aW',cW',v7,oB3,oA3,loc⟩,K3⟩
 case false=>
  have vK:Win T (pre++[.int .i64 h.g.ba,.string h.g.bs,.int .i64 h.g.cp,.int .i64 h.g.lm,.bool h.g.en,.bool h.g.dn]) ([.slice aW' yw.length cW']++post) (ow+6) W k [.int .i64 h.t.nx,.string h.t.bs,.slice aT h.t.l.length cT,.int .i64 h.t.cp,.int .i64 h.t.fi,.bool h.t.en]:=Win.sub (a:=[.int .i64 h.g.ba,.string h.g.bs,.int .i64 h.g.cp,.int .i64 h.g.lm,.bool h.g.en,.bool h.g.dn]) (b:=[.int .i64 h.t.nx,.string h.t.bs,.slice aT h.t.l.length cT,.int .i64 h.t.cp,.int .i64 h.t.fi,.bool h.t.en]) (c:=[.slice aW' yw.length cW']) vA
  obtain⟨hbd,htot⟩:=Tak.ok_small hto
  have hin:Tak.inT h.t.nx h.t.bs h.t.l h.t.cp:=by
   have q:=hto
   unfold Tak.Tk.ok Tak.takerB at q
   simp only [Bool.and_eq_true,decide_eq_true_eq]at q
   exact q.1
  unfold Tak.inT at hin
  have HTK:Hid _:=fun w' v' o' b' n'=>Tak.l5TakeW (T:=T) (pre:=pre++[.int .i64 h.g.ba,.string h.g.bs,.int .i64 h.g.cp,.int .i64 h.g.lm,.bool h.g.en,.bool h.g.dn]) (post:=[.slice aW' yw.length cW']++post) (ow:=ow+6) k B h.t.nx h.t.bs aT cT h.t.cp h.t.fi h.t.en h.t.l xp xb xe w' v' o' b' n' (by omega) hbd (by omega) ⟨by omega,by omega⟩ ⟨by omega,by omega⟩ ⟨by omega,by omega⟩ (by omega)
  go_wp2_with fail
  refine Draw.wp_region_Y (S:=(fun w'=>w'.cell? ⟨k5,0,none⟩=some (.bool false)∧w'.cell? ⟨k5,1,none⟩=some (.int .i64 xr)∧w'.cell? ⟨k5,2,none⟩=some (.int .i64 xp)∧w'.cell? ⟨k5,3,none⟩=some (.string xb)∧w'.cell? ⟨k5,4,none⟩=some (.bool xe)∧w'.cell? ⟨k5,5,none⟩=some (.int .i64 xm)∧w'.cell? ⟨k5,6,none⟩=some (.bool xd))) 9 (by kernel_rfl) ?_ (fun hHeld=>?_)
  focus ((try dsimp only) <;>(first|with_reducible exact hHeld|with_reducible exact hS2|exact⟨e0,e1,e2,e3,e4,e5,e6⟩))
  refine Draw.wpAnyY_takeT (i:=0) (v:=?_) rfl (by kernel_rfl) (by kernel_rfl) (by kernel_rfl) (fun _ _ _ h=>h) (Or.inl ⟨by rfl,?_⟩) ?_
  rotate_left 1
  focus (intro s h;(try dsimp only at h);go_simp;(try apply And.intro) <;>with_reducible rfl)
  (try simp only [Act.put,Draw.lays])
  refine Draw.wpAnyY_takeT (i:=1) (v:=?_) rfl (by kernel_rfl) (by kernel_rfl) (by kernel_rfl) (fun _ _ _ h=>h) (Or.inl ⟨by rfl,?_⟩) ?_
  rotate_left 1
  focus (intro s h;(try dsimp only at h);go_simp;(try apply And.intro) <;>with_reducible rfl)
  (try simp only [Act.put,Draw.lays])
  refine Draw.wpAnyY_takeT (i:=2) (v:=?_) rfl (by kernel_rfl) (by kernel_rfl) (by kernel_rfl) (fun _ _ _ h=>h) (Or.inl ⟨by rfl,?_⟩) ?_
  rotate_left 1
  focus (intro s h;(try dsimp only at h);go_simp;(try apply And.intro) <;>with_reducible rfl)
  (try simp only [Act.put,Draw.lays])
  refine Draw.wpAnyY_takeT (i:=3) (v:=?_) rfl (by kernel_rfl) (by kernel_rfl) (by kernel_rfl) (fun _ _ _ h=>h) (Or.inl ⟨by rfl,?_⟩) ?_
  rotate_left 1
  focus (intro s h;(try dsimp only at h);go_simp;(try apply And.intro) <;>with_reducible rfl)
  (try simp only [Act.put,Draw.lays])
  refine Draw.wpAnyY_take (i:=4) (v:=?_) rfl (by kernel_rfl) (by kernel_rfl) (by kernel_rfl) (by kernel_rfl) (fun _ _ _ h=>h) (Or.inl ⟨by rfl,?_⟩) (by assumption) ?_
  rotate_left 1
  focus (intro s h;(try dsimp only at h);go_simp;(try apply And.intro) <;>with_reducible rfl)
  (try simp only [Act.put,Draw.lays])
  refine Draw.wpAnyY_takeT (i:=5) (v:=?_) rfl (by kernel_rfl) (by kernel_rfl) (by kernel_rfl) (fun _ _ _ h=>h) (Or.inl ⟨by rfl,?_⟩) ?_
  rotate_left 1
  focus (intro s h;(try dsimp only at h);go_simp;(try apply And.intro) <;>with_reducible rfl)
  (try simp only [Act.put,Draw.lays])
  refine Draw.wpAnyY_take (i:=6) (v:=?_) rfl (by kernel_rfl) (by kernel_rfl) (by kernel_rfl) (by kernel_rfl) (fun _ _ _ h=>h) (Or.inl ⟨by rfl,?_⟩) (by assumption) ?_
  rotate_left 1
  focus (intro s h;(try dsimp only at h);go_simp;(try apply And.intro) <;>with_reducible rfl)
  (try simp only [Act.put,Draw.lays])
  refine Draw.wpAnyY_takeT (i:=7) (v:=?_) rfl (by kernel_rfl) (by kernel_rfl) (by kernel_rfl) (fun _ _ _ h=>h) (Or.inl ⟨by rfl,?_⟩) ?_
  rotate_left 1
  focus (intro s h;(try dsimp only at h);go_simp;(try apply And.intro) <;>with_reducible rfl)
  (try simp only [Act.put,Draw.lays])
  refine Draw.wpAnyY_take (i:=8) (v:=?_) rfl (by kernel_rfl) (by kernel_rfl) (by kernel_rfl) (by kernel_rfl) (fun _ _ _ h=>h) (Or.inl ⟨by rfl,?_⟩) (by assumption) ?_
  rotate_left 1
  focus (intro s h;(try dsimp only at h);go_simp;(try apply And.intro) <;>with_reducible rfl)
  (try simp only [Act.put,Draw.lays])
  refine Draw.wpAnyY_ready (rs:=[9]) (by kernel_rfl) (by simp) ?_
  refine Draw.AllReadyY.cons rfl (fun K hK=>?_) Draw.AllReadyY.nil
  (go_simp;refine(HTK.out _ vK.drew oB.drew hBW hT1).mono ?_;rintro e w3 ⟨a',c',rfl,v3,o3,k3,n3⟩;have v53:=v5.drew.kept k3 (by omega);have K3:=K1.drew.trans k3;have oA3:=oA.drew.kept k3 (own_win hT oA vA))
  refine hK.out _ _ (fun h=>absurd rfl h) (fun hHeld2=>?_)
  clear hK K hHeld hHeld2
  (try simp only [Act.put,Draw.lays])
  refine Draw.wpAnyY_done (by kernel_rfl) ?_ _
  have v7:=Win.up (a:=[.int .i64 h.g.ba,.string h.g.bs,.int .i64 h.g.cp,.int .i64 h.g.lm,.bool h.g.en,.bool h.g.dn]) (b:=[.int .i64 (Tak.takeT h.t xp xb xe).1.nx,.string (Tak.takeT h.t xp xb xe).1.bs,.slice a' (Tak.takeT h.t xp xb xe).1.l.length c',.int .i64 (Tak.takeT h.t xp xb xe).1.cp,.int .i64 (Tak.takeT h.t xp xb xe).1.fi,.bool (Tak.takeT h.t xp xb xe).1.en]) (c:=[.slice aW' yw.length cW']) v3
  clear v3 vK vA e0 e1 e2 e3 e4 e5 e6
  obtain⟨e0,e1,e2,e3,e4,e5,e6⟩:=v53.c7
  go_wp2_with fail
  go_ret
  exact⟨rfl,⟨a',c',aW',cW',v7,o3,oA3,loc⟩,K3⟩
theorem comeLay {T:TypeId}{pre post:List Value}{ow:Nat}(hT:T≠75)(hT2:T≠123)(k B:Nat)(h:Hp)(n:Int)(w:World)(hl:Lay T pre post ow w B k h)(hB:B≤w.heap.size)(hb:hopB h=true):
  Calls Tryz.prog 89 #[.pointer (some ⟨k,ow,none⟩),.int .i64 n] w fun e w'=>e=.returned (.bool (comeH h n).2)∧Lay T pre post ow w' B k (comeH h n).1∧KB B k w w':=by
 obtain⟨aT,cT,aW,cW,v,o1,o2⟩:=hl
 exact(comeL hT hT2 k B h aT cT aW cW n w v o1 o2 hB hb).mono fun e w' ⟨h1,⟨a1,a2,a3,a4,h2,h3,h4,_⟩,h5⟩=>⟨h1,⟨a1,a2,a3,a4,h2,h3,h4⟩,KB.ofKept h5 hB⟩
end Go.Proofs.YtfejobjgbadfjaaGreat.Hop
