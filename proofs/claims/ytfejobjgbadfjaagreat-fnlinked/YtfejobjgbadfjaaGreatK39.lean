/- Contracts of this seat's functions, and their mathematics (DrawZ). -/
import Derived.Test.YtfejobjgbadfjaaGreatK35
import Derived.Test.YtfejobjgbadfjaaGreatK37
import Derived.Test.YtfejobjgbadfjaaGreatK38
import Derived.Test.YtfejobjgbadfjaaGreatK7
set_option linter.unusedVariables false
set_option linter.unusedSimpArgs false
set_option maxRecDepth 10000
set_option maxHeartbeats 16000000
namespace Go.Proofs.YtfejobjgbadfjaaGreat.Hop
open Go.RowKit RowG
theorem l1From (c:Nat)(a b:Int)(w:World)(h:Draw.Cur w c):
  Calls Tryz.prog 75 #[.pointer (some ⟨c,0,none⟩),.int .i64 a,.int .i64 b] w fun e w'=> ∃x:Int,e=.returned (.int .i64 x)∧Draw.Cur w' c∧Draw.Kept c w w':=by
 go_enter Tryz.func75,Tryz.ntmps75
 go_wp2_with fail
 refine(Draw.l1Below _ _ _ h).mono ?_
 rintro e wa ⟨y,y0,y1,rfl,cua,ka⟩
 go_wp2_with fail
 go_ret
 exact⟨_,rfl,cua,ka⟩
structure Su (c k3:Nat)(w wr:World)(h:Hp):Prop where
 sm:h.Sm
 wl:h.ws.length≤31
 lay:Lay 47 [] [] 0 wr (w.heap.size+1) k3 h
 v2:Var 47 wr w.heap.size [.int .i64 0,.string ⟨#[]⟩,.int .i64 0,.int .i64 0,.bool false,.bool false,.int .i64 0,.string ⟨#[]⟩,.slice none 0 0,.int .i64 0,.int .i64 0,.bool false,.slice none 0 0]
 cu:Draw.Cur wr c
 K:Draw.Kept c w wr
 h1:c<w.heap.size
 h2:w.heap.size<k3
theorem Su.drawn {c k3:Nat}{w wr wa:World}{h:Hp}(s:Su c k3 w wr h)(cua:Draw.Cur wa c)(ka:Draw.Kept c wr wa):Su c k3 w wa h:=
 ⟨s.sm,s.wl,s.lay.kept ka (by have:=s.h1;have:=s.h2;omega) (by have:=s.h1;have:=s.h2;omega),s.v2.kept ka (by have:=s.h1;omega),cua,s.K.trans ka,s.h1,s.h2⟩
theorem Su.drew {c k3:Nat}{w wr:World}{h:Hp}(s:Su c k3 w wr h):Su c k3 w wr.drew h:=⟨s.sm,s.wl,s.lay.drew,s.v2.drew,s.cu.drew,s.K.drew,s.h1,s.h2⟩
theorem Su.done {c k3:Nat}{w wr wa:World}{h h':Hp}(s:Su c k3 w wr h)(sm:h'.Sm)(wl:h'.ws.length≤31)(l:Lay 47 [] [] 0 wa (w.heap.size+1) k3 h')(kb:KB (w.heap.size+1) k3 wr wa):Su c k3 w wa h':=
 ⟨sm,wl,l,kb.var s.v2 (by have:=s.h2;omega) (by have:=s.h2;omega),s.cu.upto (fun i hi=>kb.block i (by have:=s.h1;have:=s.h2;omega) (by have:=s.h1;have:=s.h2;omega)),
  ⟨kb.os.trans s.K.os,kb.tape.trans s.K.tape,kb.output.trans s.K.output,Nat.le_trans s.K.size kb.size,fun i hi hc=>(kb.block i (by have:=s.h2;omega) (by have:=s.h2;omega)).trans (s.K.block i hi hc)⟩,s.h1,s.h2⟩
theorem Su.lt {c k3:Nat}{w wr:World}{h:Hp}(s:Su c k3 w wr h):k3<wr.heap.size:=s.lay.lt
theorem sm_more {h:Hp}(s:h.Sm)(hl:h.ws.length≤30){x:Lt}(hx:x.bs.size≤2097152):Hp.Sm ⟨h.g,h.t,h.ws++[x]⟩:=
 ⟨s.gb,s.tb,s.tl,s.bd,by simp;omega,fun y hy=>by
  rcases List.mem_append.1 hy with q|q
  ·exact s.wb y q
  ·simp at q
   subst q
   exact hx⟩
theorem l7DrawAny (c:Nat)(w:World)(hc:Draw.Cur w c):
  Calls Tryz.prog 49 #[.pointer (some ⟨c,0,none⟩)] w fun e w'=> ∃(h:Hp) (aT:Option Addr) (cT:Nat) (aW:Option Addr) (cW:Nat),h.Sm∧h.ws.length≤31∧e=.returned (h.v aT cT aW cW)∧Tak.partE.Own 123 w' w.heap.size aT cT h.t.l∧letE.Own 75 w' w.heap.size aW cW h.ws∧Draw.Cur w' c∧Draw.Kept c w w':=by
 have hmix:=mix
 have hcl:=hc.lt
 have v2:Var 47 (w.alloc (.cells #[.int .i64 0,.string ⟨#[]⟩,.int .i64 0,.int .i64 0,.bool false,.bool false,.int .i64 0,.string ⟨#[]⟩,.slice none 0 0,.int .i64 0,.int .i64 0,.bool false,.slice none 0 0] 47)) w.heap.size [.int .i64 0,.string ⟨#[]⟩,.int .i64 0,.int .i64 0,.bool false,.bool false,.int .i64 0,.string ⟨#[]⟩,.slice none 0 0,.int .i64 0,.int .i64 0,.bool false,.slice none 0 0]:=Var.new w _
 have K0:Draw.Kept c w (w.alloc (.cells #[.int .i64 0,.string ⟨#[]⟩,.int .i64 0,.int .i64 0,.bool false,.bool false,.int .i64 0,.string ⟨#[]⟩,.slice none 0 0,.int .i64 0,.int .i64 0,.bool false,.slice none 0 0] 47)):=(Draw.Kept.refl _ _).alloc _
 have cu0:=hc.alloc (.cells #[.int .i64 0,.string ⟨#[]⟩,.int .i64 0,.int .i64 0,.bool false,.bool false,.int .i64 0,.string ⟨#[]⟩,.slice none 0 0,.int .i64 0,.int .i64 0,.bool false,.slice none 0 0] 47)
 go_enter Tryz.func49,Tryz.ntmps49
 go_upto_region 1 with(fail)
 generalize w.alloc (.cells #[.int .i64 0,.string ⟨#[]⟩,.int .i64 0,.int .i64 0,.bool false,.bool false,.int .i64 0,.string ⟨#[]⟩,.slice none 0 0,.int .i64 0,.int .i64 0,.bool false,.slice none 0 0] 47)=V at *
 have hVl:w.heap.size<V.heap.size:=v2.lt
 go_wp2_with fail
 refine(l7Draw c _ cu0).mono ?_
 rintro e w1 ⟨h,aT,cT,aW,cW,hb,rfl,o1,o2,cu1,k1⟩
 have SU:Su c w1.heap.size w (w1.alloc (.cells #[.int .i64 h.g.ba,.string h.g.bs,.int .i64 h.g.cp,.int .i64 h.g.lm,.bool h.g.en,.bool h.g.dn,.int .i64 h.t.nx,.string h.t.bs,.slice aT h.t.l.length cT,.int .i64 h.t.cp,.int .i64 h.t.fi,.bool h.t.en,.slice aW h.ws.length cW] 47)) h:=⟨sm_ok hb,by have:=(hop_ok hb).1;omega,⟨aT,cT,aW,cW,(Var.new w1 [.int .i64 h.g.ba,.string h.g.bs,.int .i64 h.g.cp,.int .i64 h.g.lm,.bool h.g.en,.bool h.g.dn,.int .i64 h.t.nx,.string h.t.bs,.slice aT h.t.l.length cT,.int .i64 h.t.cp,.int .i64 h.t.fi,.bool h.t.en,.slice aW h.ws.length cW]).win,(o1.mono (by omega)).alloc _,(o2.mono (by omega)).alloc _⟩,(v2.kept k1 (by omega)).alloc _,cu1.alloc _,(K0.trans k1).alloc _,hcl,Nat.lt_of_lt_of_le hVl k1.size⟩
 have hw30:h.ws.length≤30:=(hop_ok hb).1
 clear hb o1 o2 cu1 k1 v2 K0 cu0 hVl hc
 go_upto_region 2 with(fail)
 generalize w1.alloc (.cells #[.int .i64 h.g.ba,.string h.g.bs,.int .i64 h.g.cp,.int .i64 h.g.lm,.bool h.g.en,.bool h.g.dn,.int .i64 h.t.nx,.string h.t.bs,.slice aT h.t.l.length cT,.int .i64 h.t.cp,.int .i64 h.t.fi,.bool h.t.en,.slice aW h.ws.length cW] 47)=W1 at *
 generalize w1.heap.size=k3 at *
 go_wp2_with fail
 refine(Draw.l1Once _ _ _ SU.cu).mono ?_
 rintro e wa ⟨b1,rfl,cua,ka⟩
 replace SU:=SU.drawn cua ka
 clear cua ka
 go_upto_if 7 with(fail)
 go_cut []from 8 (fun wr=> ∃h:Hp,Su c k3 w wr h)
 case first=>
  cases b1
  focus
   go_wp2_with fail
   go_meet
   exact⟨h,SU⟩
  focus
   go_wp2_with fail
   refine(Draw.l1Below _ 3 _ SU.cu).mono ?_
   rintro e wa ⟨y,y0,y1,rfl,cua,ka⟩
   replace SU:=SU.drawn cua ka
   clear cua ka
   have hy:y=0∨y=1∨y=2:=by omega
   clear y0 y1
   rcases hy with rfl|rfl|rfl
   focus
    go_wp2_with fail
    refine(Giv.l6DrawAny _ _ SU.cu).mono ?_
    rintro e wa ⟨g,hg,rfl,cua,ka⟩
    replace SU:=SU.drawn cua ka
    clear cua ka
    obtain⟨aT,cT,aW,cW,vw,o1,o2⟩:=SU.lay
    have vh:=vw.whole
    dsimp only [Giv.Gv.v]
    have e0:=vh.cell (i:=0) rfl
    have e1:=vh.cell (i:=1) rfl
    have e2:=vh.cell (i:=2) rfl
    have e3:=vh.cell (i:=3) rfl
    have e4:=vh.cell (i:=4) rfl
    have e5:=vh.cell (i:=5) rfl
    have y0:=vh.free 0
    have y1:=vh.free 1
    have y2:=vh.free 2
    have y3:=vh.free 3
    have y4:=vh.free 4
    have y5:=vh.free 5
    go_wp2_with fail
    have vf:Var 47 (((((((wa.setCell ⟨k3,0,none⟩ (.int .i64 g.ba)).setCell ⟨k3,1,none⟩ (.string g.bs)).setCell ⟨k3,2,none⟩ (.int .i64 g.cp)).setCell ⟨k3,3,none⟩ (.int .i64 g.lm)).setCell ⟨k3,4,none⟩ (.bool g.en)).setCell ⟨k3,5,none⟩ (.bool g.dn))) k3 (Hp.c ⟨g,h.t,h.ws⟩ aT cT aW cW):=((((((vh.set 0 _).set 1 _).set 2 _).set 3 _).set 4 _).set 5 _)
    have kf:Draw.Kept k3 wa (((((((wa.setCell ⟨k3,0,none⟩ (.int .i64 g.ba)).setCell ⟨k3,1,none⟩ (.string g.bs)).setCell ⟨k3,2,none⟩ (.int .i64 g.cp)).setCell ⟨k3,3,none⟩ (.int .i64 g.lm)).setCell ⟨k3,4,none⟩ (.bool g.en)).setCell ⟨k3,5,none⟩ (.bool g.dn))):=(Draw.Kept.setCell (Draw.Kept.setCell (Draw.Kept.setCell (Draw.Kept.setCell (Draw.Kept.setCell (Draw.Kept.setCell (Draw.Kept.refl k3 wa) (p:=⟨k3,0,none⟩) (.inl rfl) _) (p:=⟨k3,1,none⟩) (.inl rfl) _) (p:=⟨k3,2,none⟩) (.inl rfl) _) (p:=⟨k3,3,none⟩) (.inl rfl) _) (p:=⟨k3,4,none⟩) (.inl rfl) _) (p:=⟨k3,5,none⟩) (.inl rfl) _)
    go_meet
    exact⟨⟨g,h.t,h.ws⟩,SU.done ⟨by dsimp only;omega,SU.sm.tb,SU.sm.tl,SU.sm.bd,SU.sm.wl,SU.sm.wb⟩ SU.wl ⟨aT,cT,aW,cW,vf.win,o1.kept kf (own_win (by decide) o1 vw),o2.kept kf (own_win (by decide) o2 vw)⟩ (KB.ofKept kf (by have:=SU.lt;have:=SU.h2;omega))⟩
   focus
    go_wp2_with fail
    refine(Tak.l5DrawAny _ _ SU.cu).mono ?_
    rintro e wa ⟨t,hg,a',c',rfl,ot,cua,ka⟩
    have hwl:w.heap.size+1≤wa.heap.size:=by have:=ka.size;have:=SU.lt;have:=SU.h2;omega
    have hwl2:=SU.lt
    have hwl3:=SU.h2
    replace SU:=SU.drawn cua ka
    clear cua ka
    obtain⟨aT,cT,aW,cW,vw,o1,o2⟩:=SU.lay
    have vh:=vw.whole
    dsimp only [Tak.Tk.v]
    have e6:=vh.cell (i:=6) rfl
    have y6:=vh.free 6
    have e7:=vh.cell (i:=7) rfl
    have y7:=vh.free 7
    have e8:=vh.cell (i:=8) rfl
    have y8:=vh.free 8
    have e9:=vh.cell (i:=9) rfl
    have y9:=vh.free 9
    have e10:=vh.cell (i:=10) rfl
    have y10:=vh.free 10
    have e11:=vh.cell (i:=11) rfl
    have y11:=vh.free 11
    go_wp2_with fail
    have vf:Var 47 (((((((wa.setCell ⟨k3,6,none⟩ (.int .i64 t.nx)).setCell ⟨k3,7,none⟩ (.string t.bs)).setCell ⟨k3,8,none⟩ (.slice a' t.l.length c')).setCell ⟨k3,9,none⟩ (.int .i64 t.cp)).setCell ⟨k3,10,none⟩ (.int .i64 t.fi)).setCell ⟨k3,11,none⟩ (.bool t.en))) k3 (Hp.c ⟨h.g,t,h.ws⟩ a' c' aW cW):=((((((vh.set 6 _).set 7 _).set 8 _).set 9 _).set 10 _).set 11 _)
    have kf:Draw.Kept k3 wa (((((((wa.setCell ⟨k3,6,none⟩ (.int .i64 t.nx)).setCell ⟨k3,7,none⟩ (.string t.bs)).setCell ⟨k3,8,none⟩ (.slice a' t.l.length c')).setCell ⟨k3,9,none⟩ (.int .i64 t.cp)).setCell ⟨k3,10,none⟩ (.int .i64 t.fi)).setCell ⟨k3,11,none⟩ (.bool t.en))):=(Draw.Kept.setCell (Draw.Kept.setCell (Draw.Kept.setCell (Draw.Kept.setCell (Draw.Kept.setCell (Draw.Kept.setCell (Draw.Kept.refl k3 wa) (p:=⟨k3,6,none⟩) (.inl rfl) _) (p:=⟨k3,7,none⟩) (.inl rfl) _) (p:=⟨k3,8,none⟩) (.inl rfl) _) (p:=⟨k3,9,none⟩) (.inl rfl) _) (p:=⟨k3,10,none⟩) (.inl rfl) _) (p:=⟨k3,11,none⟩) (.inl rfl) _)
    go_meet
    exact⟨⟨h.g,t,h.ws⟩,SU.done ⟨SU.sm.gb,by dsimp only;have:=hg.2.2.1;omega,by dsimp only;have:=hg.2.1;omega,hg.1,SU.sm.wl,SU.sm.wb⟩ SU.wl ⟨a',c',aW,cW,vf.win,(ot.mono (by omega)).kept kf (own_win (by decide) ot vw),o2.kept kf (own_win (by decide) o2 vw)⟩ (KB.ofKept kf hwl)⟩
   focus
    obtain⟨aT,cT,aW,cW,vw,o1,o2⟩:=SU.lay
    have S0:=SU.drew
    have vh0:=vw.whole.drew
    have p0:=o1.drew
    have q0:=o2.drew
    have e12:=vh0.cell (i:=12) rfl
    have hU1:=SU.h1
    have hU2:=SU.h2
    have hkw:=own_win (by decide) o2 vw
    have hk1:some k3≠blk aW:=by
     cases aW with
     | none=>simp [blk]
     | some y=>simp [blk];exact fun e=>hkw y rfl e.symm
    go_wp2_with fail
    refine Draw.wp_region_Y (S:=(fun w'=>w'.cell? ⟨k3,12,none⟩=some (.slice aW h.ws.length cW))) 20 (by kernel_rfl) ?_ (fun hHeld=>?_)
    focus ((try dsimp only) <;>(first|with_reducible exact hHeld|with_reducible exact hS2|exact e12|exact alloc_cell hHeld _))
    refine Draw.wpAnyY_takeT (i:=0) (v:=?_) rfl (by kernel_rfl) (by kernel_rfl) (by kernel_rfl) (fun _ _ _ h=>h) (Or.inl ⟨by rfl,?_⟩) ?_
    rotate_left 1
    focus (intro s h;(try dsimp only at h);go_simp;(try apply And.intro) <;>with_reducible rfl)
    (try simp only [Act.put,Draw.lays])
    refine Draw.wpAnyY_takeP (ps:=[18]) (i:=1) (v:=?_) rfl (by kernel_rfl) (by kernel_rfl) (by kernel_rfl) (by kernel_rfl) (by kernel_rfl) (fun _ _ _ h=>h) (Or.inl ⟨by rfl,?_⟩) (by assumption) ?_
    rotate_left 1
    focus (intro s h;(try dsimp only at h);go_simp;(try apply And.intro) <;>with_reducible rfl)
    (try simp only [Act.put,Draw.lays])
    refine Draw.wpAnyY_takeT (i:=2) (v:=?_) rfl (by kernel_rfl) (by kernel_rfl) (by kernel_rfl) (fun _ _ _ h=>h) (Or.inl ⟨by rfl,?_⟩) ?_
    rotate_left 1
    focus (intro s h;(try dsimp only at h);go_simp;(try apply And.intro) <;>with_reducible rfl)
    (try simp only [Act.put,Draw.lays])
    refine Draw.wpAnyY_takeT (i:=4) (v:=?_) rfl (by kernel_rfl) (by kernel_rfl) (by kernel_rfl) (fun _ _ _ h=>h) (Or.inl ⟨by rfl,?_⟩) ?_
    rotate_left 1
    focus (intro s h;(try dsimp only at h);go_simp;(try apply And.intro) <;>with_reducible rfl)
    (try simp only [Act.put,Draw.lays])
    refine Draw.wpAnyY_takeT (i:=6) (v:=?_) rfl (by kernel_rfl) (by kernel_rfl) (by kernel_rfl) (fun _ _ _ h=>h) (Or.inl ⟨by rfl,?_⟩) ?_
    rotate_left 1
    focus (intro s h;(try dsimp only at h);go_simp;(try apply And.intro) <;>with_reducible rfl)
    (try simp only [Act.put,Draw.lays])
    refine Draw.wpAnyY_takeT (i:=8) (v:=?_) rfl (by kernel_rfl) (by kernel_rfl) (by kernel_rfl) (fun _ _ _ h=>h) (Or.inl ⟨by rfl,?_⟩) ?_
    rotate_left 1
    focus (intro s h;(try dsimp only at h);go_simp;(try apply And.intro) <;>with_reducible rfl)
    (try simp only [Act.put,Draw.lays])
    refine Draw.wpAnyY_takeT (i:=10) (v:=?_) rfl (by kernel_rfl) (by kernel_rfl) (by kernel_rfl) (fun _ _ _ h=>h) (Or.inl ⟨by rfl,?_⟩) ?_
    rotate_left 1
    focus (intro s h;(try dsimp only at h);go_simp;(try apply And.intro) <;>with_reducible rfl)
    (try simp only [Act.put,Draw.lays])
    refine Draw.wpAnyY_takeT (i:=12) (v:=?_) rfl (by kernel_rfl) (by kernel_rfl) (by kernel_rfl) (fun _ _ _ h=>h) (Or.inl ⟨by rfl,?_⟩) ?_
    rotate_left 1
    focus (intro s h;(try dsimp only at h);go_simp;(try apply And.intro) <;>with_reducible rfl)
    (try simp only [Act.put,Draw.lays])
    refine Draw.wpAnyY_takeT (i:=14) (v:=?_) rfl (by kernel_rfl) (by kernel_rfl) (by kernel_rfl) (fun _ _ _ h=>h) (Or.inl ⟨by rfl,?_⟩) ?_
    rotate_left 1
    focus (intro s h;(try dsimp only at h);go_simp;(try apply And.intro) <;>with_reducible rfl)
    (try simp only [Act.put,Draw.lays])
    refine Draw.wpAnyY_ready (rs:=[3]) (by kernel_rfl) (by simp) ?_
    refine Draw.AllReadyY.cons rfl (fun K hK=>?_) Draw.AllReadyY.nil
    (go_simp;refine(Draw.l1Once _ _ _ S0.cu).mono ?_;rintro e wa1 ⟨b1,rfl,cua,ka⟩;have S1:=S0.drawn cua ka;have vh1:=vh0.kept ka (by omega);have p1:=p0.kept ka (fun x hx=>by have:=(p0.lt x hx).1;omega);have q1:=q0.kept ka (fun x hx=>by have:=(q0.lt x hx).1;omega);have hS2:=vh1.cell (i:=12) rfl)
    refine hK.out _ _ ?_ (fun hHeld2=>?_)
    focus (intro _ _;(try dsimp only) <;>(first|with_reducible exact hHeld|with_reducible exact hS2|exact e12|exact alloc_cell hHeld _))
    clear hK K
    replace hHeld:=hHeld2 (by decide) hHeld
    clear hHeld2
    (try simp only [Act.put,Draw.lays])
    refine Draw.wpAnyY_ready (rs:=[5]) (by kernel_rfl) (by simp) ?_
    refine Draw.AllReadyY.cons rfl (fun K hK=>?_) Draw.AllReadyY.nil
    (go_simp;refine(l1From _ _ _ _ S1.cu).mono ?_;rintro e wa2 ⟨n2,rfl,cua,ka⟩;have S2:=S1.drawn cua ka;have vh2:=vh1.kept ka (by omega);have p2:=p1.kept ka (fun x hx=>by have:=(p1.lt x hx).1;omega);have q2:=q1.kept ka (fun x hx=>by have:=(q1.lt x hx).1;omega);have hS2:=vh2.cell (i:=12) rfl)
    refine hK.out _ _ ?_ (fun hHeld2=>?_)
    focus (intro _ _;(try dsimp only) <;>(first|with_reducible exact hHeld|with_reducible exact hS2|exact e12|exact alloc_cell hHeld _))
    clear hK K
    replace hHeld:=hHeld2 (by decide) hHeld
    clear hHeld2
    (try simp only [Act.put,Draw.lays])
    refine Draw.wpAnyY_ready (rs:=[7]) (by kernel_rfl) (by simp) ?_
    refine Draw.AllReadyY.cons rfl (fun K hK=>?_) Draw.AllReadyY.nil
    (go_simp;refine(Draw.l1DrawPlace _ _ S2.cu).mono ?_;rintro e wa3 ⟨n3,rfl,cua,ka⟩;have S3:=S2.drawn cua ka;have vh3:=vh2.kept ka (by omega);have p3:=p2.kept ka (fun x hx=>by have:=(p2.lt x hx).1;omega);have q3:=q2.kept ka (fun x hx=>by have:=(q2.lt x hx).1;omega);have hS2:=vh3.cell (i:=12) rfl)
    refine hK.out _ _ ?_ (fun hHeld2=>?_)
    focus (intro _ _;(try dsimp only) <;>(first|with_reducible exact hHeld|with_reducible exact hS2|exact e12|exact alloc_cell hHeld _))
    clear hK K
    replace hHeld:=hHeld2 (by decide) hHeld
    clear hHeld2
    (try simp only [Act.put,Draw.lays])
    refine Draw.wpAnyY_ready (rs:=[9]) (by kernel_rfl) (by simp) ?_
    refine Draw.AllReadyY.cons rfl (fun K hK=>?_) Draw.AllReadyY.nil
    (go_simp;refine(Draw.l1DrawText _ _ _ _ S3.cu (by decide) (by decide) (by decide) (by decide)).mono ?_;rintro e wa4 ⟨s4,hs4,rfl,cua,ka⟩;have S4:=S3.drawn cua ka;have vh4:=vh3.kept ka (by omega);have p4:=p3.kept ka (fun x hx=>by have:=(p3.lt x hx).1;omega);have q4:=q3.kept ka (fun x hx=>by have:=(q3.lt x hx).1;omega);have hS2:=vh4.cell (i:=12) rfl)
    refine hK.out _ _ ?_ (fun hHeld2=>?_)
    focus (intro _ _;(try dsimp only) <;>(first|with_reducible exact hHeld|with_reducible exact hS2|exact e12|exact alloc_cell hHeld _))
    clear hK K
    replace hHeld:=hHeld2 (by decide) hHeld
    clear hHeld2
    (try simp only [Act.put,Draw.lays])
    refine Draw.wpAnyY_ready (rs:=[11]) (by kernel_rfl) (by simp) ?_
    refine Draw.AllReadyY.cons rfl (fun K hK=>?_) Draw.AllReadyY.nil
    (go_simp;refine(Draw.l1Once _ _ _ S4.cu).mono ?_;rintro e wa5 ⟨b5,rfl,cua,ka⟩;have S5:=S4.drawn cua ka;have vh5:=vh4.kept ka (by omega);have p5:=p4.kept ka (fun x hx=>by have:=(p4.lt x hx).1;omega);have q5:=q4.kept ka (fun x hx=>by have:=(q4.lt x hx).1;omega);have hS2:=vh5.cell (i:=12) rfl)
    refine hK.out _ _ ?_ (fun hHeld2=>?_)
    focus (intro _ _;(try dsimp only) <;>(first|with_reducible exact hHeld|with_reducible exact hS2|exact e12|exact alloc_cell hHeld _))
    clear hK K
    replace hHeld:=hHeld2 (by decide) hHeld
    clear hHeld2
    (try simp only [Act.put,Draw.lays])
    refine Draw.wpAnyY_ready (rs:=[13]) (by kernel_rfl) (by simp) ?_
    refine Draw.AllReadyY.cons rfl (fun K hK=>?_) Draw.AllReadyY.nil
    (go_simp;refine(Draw.l1Below _ _ _ S5.cu).mono ?_;rintro e wa6 ⟨n6,n60,n61,rfl,cua,ka⟩;have S6:=S5.drawn cua ka;have vh6:=vh5.kept ka (by omega);have p6:=p5.kept ka (fun x hx=>by have:=(p5.lt x hx).1;omega);have q6:=q5.kept ka (fun x hx=>by have:=(q5.lt x hx).1;omega);have hS2:=vh6.cell (i:=12) rfl)
    refine hK.out _ _ ?_ (fun hHeld2=>?_)
    focus (intro _ _;(try dsimp only) <;>(first|with_reducible exact hHeld|with_reducible exact hS2|exact e12|exact alloc_cell hHeld _))
    clear hK K
    replace hHeld:=hHeld2 (by decide) hHeld
    clear hHeld2
    (try simp only [Act.put,Draw.lays])
    refine Draw.wpAnyY_ready (rs:=[15]) (by kernel_rfl) (by simp) ?_
    refine Draw.AllReadyY.cons rfl (fun K hK=>?_) Draw.AllReadyY.nil
    (go_simp;refine(Draw.l1Once _ _ _ S6.cu).mono ?_;rintro e wa7 ⟨b7,rfl,cua,ka⟩;have S7:=S6.drawn cua ka;have vh7:=vh6.kept ka (by omega);have p7:=p6.kept ka (fun x hx=>by have:=(p6.lt x hx).1;omega);have q7:=q6.kept ka (fun x hx=>by have:=(q6.lt x hx).1;omega);have hS2:=vh7.cell (i:=12) rfl)
    refine hK.out _ _ ?_ (fun hHeld2=>?_)
    focus (intro _ _;(try dsimp only) <;>(first|with_reducible exact hHeld|with_reducible exact hS2|exact e12|exact alloc_cell hHeld _))
    clear hK K
    replace hHeld:=hHeld2 (by decide) hHeld
    clear hHeld2
    (try simp only [Act.put,Draw.lays])
    refine Draw.wpAnyY_takeT (i:=16) (v:=?_) rfl (by kernel_rfl) (by kernel_rfl) (by kernel_rfl) (fun _ _ _ h=>h) (Or.inl ⟨by rfl,?_⟩) ?_
    rotate_left 1
    focus (intro s h;(try dsimp only at h);go_simp;(try apply And.intro) <;>with_reducible rfl)
    (try simp only [Act.put,Draw.lays])
    refine Draw.wpAnyY_ready (rs:=[17]) (by kernel_rfl) (by simp) ?_
    refine Draw.AllReadyY.cons rfl (fun K hK=>?_) Draw.AllReadyY.nil
    go_simp
    refine hK.out _ _ ?_ (fun hHeld2=>?_)
    focus (intro _ _;(try dsimp only) <;>(first|with_reducible exact hHeld|with_reducible exact hS2|exact e12|exact alloc_cell hHeld _))
    clear hK K
    replace hHeld:=hHeld2 (by decide) hHeld
    clear hHeld2
    (try simp only [Act.put,Draw.lays])
    refine Draw.wpAnyY_ready (rs:=[18]) (by kernel_rfl) (by simp) ?_
    refine Draw.AllReadyY.cons rfl (fun K hK=>?_) Draw.AllReadyY.nil
    (refine step_app typ (by decide) (by rfl) _ _ (by rfl) (w.heap.size+1) aW cW h.ws.length h.ws [⟨b1,n2,n3,s4,b5,n6,b7⟩] rfl (by rfl) (q7.alloc _) (by have:=S7.lt;simp;omega) (some ⟨wa7.heap.size,0,none⟩) 1 1 rfl (by rfl) (El.lies_new rfl) (by simp) (by simp;omega) ?_;intro a8 c8 w8 o8 g8;have v8:=(vh7.alloc (.cells #[.bool b1,.int .i64 n2,.int .i64 n3,.string s4,.bool b5,.int .i64 n6,.bool b7] 75)).grown g8 (by intro g hg e;exact hk1 (by rw [e,hg]));have k8:Keep k3 (blk aW) wa7 w8:=((Keep.refl k3 (blk aW) wa7).alloc (.cells #[.bool b1,.int .i64 n2,.int .i64 n3,.string s4,.bool b5,.int .i64 n6,.bool b7] 75)).grown g8;have t8:=(p7.alloc (.cells #[.bool b1,.int .i64 n2,.int .i64 n3,.string s4,.bool b5,.int .i64 n6,.bool b7] 75)).grown g8 (own_two (by decide) p7 q7);have hS2:=v8.cell (i:=12) rfl;have y12:=v8.free 12)
    refine hK.out _ _ ?_ (fun hHeld2=>?_)
    focus (intro _ _;(try dsimp only) <;>(first|with_reducible exact hHeld|with_reducible exact hS2|exact e12|exact alloc_cell hHeld _))
    clear hK K
    replace hHeld:=hHeld2 (by decide) hHeld
    clear hHeld2
    (try simp only [Act.put,Draw.lays])
    refine Draw.wpAnyY_takeT (i:=19) (v:=?_) rfl (by kernel_rfl) (by kernel_rfl) (by kernel_rfl) (fun _ _ _ h=>h) (Or.inl ⟨by rfl,?_⟩) ?_
    rotate_left 1
    focus (intro s h;(try dsimp only at h);go_simp;(try apply And.intro) <;>with_reducible rfl)
    (try simp only [Act.put,Draw.lays])
    refine Draw.wpAnyY_ready (rs:=[20]) (by kernel_rfl) (by simp) ?_
    refine Draw.AllReadyY.cons rfl (fun K hK=>?_) Draw.AllReadyY.nil
    go_simp
    refine hK.out _ _ (fun h=>absurd rfl h) (fun hHeld2=>?_)
    clear hK K hHeld hHeld2
    (try simp only [Act.put,Draw.lays])
    refine Draw.wpAnyY_done (by kernel_rfl) ?_ _
    go_wp2_with fail
    go_meet
    have hlen:(h.ws++[(⟨b1,n2,n3,s4,b5,n6,b7⟩:Lt)]).length=h.ws.length+1:=by simp
    exact⟨⟨h.g,h.t,h.ws++[⟨b1,n2,n3,s4,b5,n6,b7⟩]⟩,S7.done (sm_more SU.sm hw30 (by dsimp only;omega)) (by dsimp only;omega) ⟨aT,cT,a8,c8,(by have q:=(v8.set 12 (.slice a8 (h.ws.length+1) c8)).win;simp only [Hp.c,hlen];exact q),t8.setCell (fun y e=>own_win (by decide) t8 v8.win y e) _,o8.setCell (fun y e=>own_win (by decide) o8 v8.win y e) _⟩ (KB.ofKeep (k8.setCell (p:=⟨k3,12,none⟩) (.inl rfl) _) (by have:=S7.lt;omega) (blk_ge q7))⟩
 case rest=>
  clear SU hw30
  obtain⟨h,SU⟩:=hcut
  go_wp2_with fail
  refine(Draw.l1Once _ _ _ SU.cu).mono ?_
  rintro e wa ⟨b2,rfl,cua,ka⟩
  replace SU:=SU.drawn cua ka
  clear cua ka
  go_upto_if 43 with(fail)
  go_cut []from 44 (fun wr=> ∃h:Hp,Su c k3 w wr h)
  case first=>
   cases b2
   focus
    go_wp2_with fail
    go_meet
    exact⟨h,SU⟩
   focus
    go_wp2_with fail
    go_loopw [] (fun wr=> ∃h:Hp,Su c k3 w wr h) (fun wr=>31-Tak.lenAt k3 10 wr)
    case atStart=>exact⟨h,SU⟩
    case round=>
     clear SU
     obtain⟨h,SU⟩:=hrel
     obtain⟨aT,cT,aW,cW,vw,o1,o2⟩:=SU.lay
     have hU1:=SU.h1
     have hU2:=SU.h2
     have HLN:Hid (Tak.lenAt k3 10 wr=h.ws.length):=Tak.lenAt_is (vw.whole.cell (i:=12) rfl)
     go_wp2_with fail
     refine RegJ.wp_region_J (W:=fun d wr=>Su c k3 w wr h∧Var 47 wr k3 (h.c aT cT aW cW)∧Tak.partE.Own 123 wr (w.heap.size+1) aT cT h.t.l∧letE.Own 75 wr (w.heap.size+1) aW cW h.ws) (RegJ.Tell (c) [.eq (.pointer (some ⟨k3,12,none⟩)),.eq (.slice aW h.ws.length cW),.eq (.int .i64 h.ws.length),.eq (.pointer (some ⟨c,0,none⟩)),.int 0 1,.int 30 31,.sat (fun v=> ∃b:Bool,v=.bool b∧(b=true→h.ws.length≤30))]) [some 44,some 45,some 46,some 47,some 48,some 49,some 50] (F:=?_) (is:=[0,1,2,3,4,5,6]) hmix (by kernel_rfl) (by kernel_rfl) (by kernel_rfl) (by kernel_rfl) (fun x=>?_) (⟨SU.drew,vw.whole.drew,o1.drew,o2.drew⟩) ?_ (fun d x wR hWR hdR hJR=>?_)
     rotate_left 1
     focus (simp only [RegJ.lay,Act.put,Nat.reduceAdd,Nat.zero_add,Draw.lays];rfl)
     focus
      iterate 7 (refine RegJ.Steps.cons (RegJ.StepAt.mk rfl (fun d x w1 hW1 hJ1 hx1 K hK=>?_)) ?_;simp only [Draw.lays]at hK;rotate_left 1)
      exact RegJ.Steps.nil
      ·go_simp;exact hK.out _ _ hW1 RegJ.Tell.same rfl
      ·have j0:x 0=_:=(hJ1.out 0 (by kernel_rfl));rw [j0]at hK;obtain⟨-,v1,-⟩:=id hW1;have e12:=v1.cell (i:=12) rfl;go_simp;exact hK.out _ _ hW1 RegJ.Tell.same rfl
      ·have j1:x 1=_:=(hJ1.out 1 (by kernel_rfl));rw [j1]at hK;go_simp;exact hK.out _ _ hW1 RegJ.Tell.same rfl
      ·go_simp;exact hK.out _ _ hW1 RegJ.Tell.same rfl
      ·obtain⟨S1,v1,p1,q1⟩:=id hW1;have j3:x 3=_:=(hJ1.out 3 (by kernel_rfl));rw [j3]at hK;go_simp;refine(Draw.l1Below _ _ _ S1.cu).mono ?_;rintro e wa ⟨y,y0,y1,rfl,cua,ka⟩;go_simp;exact hK.out _ _ ⟨S1.drawn cua ka,v1.kept ka (by omega),p1.kept ka (fun x hx=>by have:=(p1.lt x hx).1;omega),q1.kept ka (fun x hx=>by have:=(q1.lt x hx).1;omega)⟩ (RegJ.Tell.pure (by kernel_rfl)) ⟨y,y0,by omega,rfl⟩
      ·obtain⟨y,y0,y1,j4⟩:=(hJ1.out 4 (by kernel_rfl));rw [j4]at hK;have ew:IntKind.i64.wrap (30+y)=30+y:=(by rw [IntKind.wrap_i64];omega);go_simp;exact hK.out (.int .i64 (30+y)) _ hW1 RegJ.Tell.same ⟨30+y,by omega,by omega,rfl⟩
      ·have j2:x 2=_:=(hJ1.out 2 (by kernel_rfl));rw [j2]at hK;obtain⟨y,y0,y1,j5⟩:=(hJ1.out 5 (by kernel_rfl));rw [j5]at hK;go_simp;exact hK.out (.bool (decide ((h.ws.length:Int)<y))) _ hW1 RegJ.Tell.same ⟨_,rfl,fun q=>by have:=of_decide_eq_true q;omega⟩
     obtain⟨b,j6,hbl⟩:=hJR 6 (by simp)
     rw [j6]
     clear hJR hdR
     clear vw o1 o2 SU
     obtain⟨SU,vh,o1,o2⟩:=hWR
     cases b
     focus
      go_wp2_with fail
      go_meet
      exact⟨h,SU⟩
     focus
      have hw30:=hbl rfl
      clear hbl
      have hkw:=own_win (by decide) o2 vh.win
      have hk1:some k3≠blk aW:=by
       cases aW with
       | none=>simp [blk]
       | some y=>simp [blk];exact fun e=>hkw y rfl e.symm
      have e12:=vh.cell (i:=12) rfl
      have e6:=vh.cell (i:=6) rfl
      have f12:=vh.free 12
      have hz:h.ws.length+ [(⟨true,0,h.t.nx,⟨#[]⟩,false,0,false⟩:Lt)].length≤4194304:=by simp;omega
      have hBA:w.heap.size+1≤(wR.alloc (.cells #[.bool true,.int .i64 0,.int .i64 h.t.nx,.string ⟨#[]⟩,.bool false,.int .i64 0,.bool false] 75)).heap.size:=by have:=SU.lt;simp;omega
      have lx:letE.Lies (wR.alloc (.cells #[.bool true,.int .i64 0,.int .i64 h.t.nx,.string ⟨#[]⟩,.bool false,.int .i64 0,.bool false] 75)) (some ⟨wR.heap.size,0,none⟩) [(⟨true,0,h.t.nx,⟨#[]⟩,false,0,false⟩:Lt)]:=El.lies_new rfl
      go_wp2_with (at_builtin;refine wpList_app typ (by decide) (by rfl) _ _ (by rfl) (w.heap.size+1) aW cW h.ws.length h.ws [(⟨true,0,h.t.nx,⟨#[]⟩,false,0,false⟩:Lt)] rfl (by rfl) (o2.alloc _) hBA (some ⟨wR.heap.size,0,none⟩) 1 1 rfl (by rfl) lx (by simp) hz ?_;intro a8 c8 w8 o8 g8;refine Tak.stand ?_)
      have v8:=(vh.alloc (.cells #[.bool true,.int .i64 0,.int .i64 h.t.nx,.string ⟨#[]⟩,.bool false,.int .i64 0,.bool false] 75)).grown g8 (by intro g hg e;exact hk1 (by rw [e,hg]))
      have k8:Keep k3 (blk aW) wR w8:=((Keep.refl k3 (blk aW) wR).alloc (.cells #[.bool true,.int .i64 0,.int .i64 h.t.nx,.string ⟨#[]⟩,.bool false,.int .i64 0,.bool false] 75)).grown g8
      have t8:=(o1.alloc (.cells #[.bool true,.int .i64 0,.int .i64 h.t.nx,.string ⟨#[]⟩,.bool false,.int .i64 0,.bool false] 75)).grown g8 (own_two (by decide) o1 o2)
      clear e12 e6 f12 hz hBA lx g8
      show wpList _ _ _ _ _ _
      have e12:=v8.cell (i:=12) rfl
      have f12:=v8.free 12
      go_wp2_with fail
      have hlen:(h.ws++[(⟨true,0,h.t.nx,⟨#[]⟩,false,0,false⟩:Lt)]).length=h.ws.length+1:=by simp
      have v9:=v8.set 12 (.slice a8 (h.ws.length+1) c8)
      have HM:Hid (Tak.lenAt k3 10 (w8.setCell ⟨k3,12,none⟩ (.slice a8 (h.ws.length+1) c8))=h.ws.length+1):=Tak.lenAt_is (v9.cell (i:=12) rfl)
      go_roundw
      case measure=>have h1:=HLN.out;have h2:=HM.out;omega
      case rel=>exact⟨⟨h.g,h.t,h.ws++[⟨true,0,h.t.nx,⟨#[]⟩,false,0,false⟩]⟩,SU.done (sm_more SU.sm hw30 (Nat.zero_le _)) (by dsimp only;omega) ⟨aT,cT,a8,c8,(by simp only [Hp.c,hlen];exact v9.win),t8.setCell (fun y e=>own_win (by decide) t8 v8.win y e) _,o8.setCell (fun y e=>own_win (by decide) o8 v8.win y e) _⟩ (KB.ofKeep (k8.setCell (p:=⟨k3,12,none⟩) (.inl rfl) _) (by have:=SU.lt;omega) (blk_ge o2))⟩
  case rest=>
   clear SU
   obtain⟨h,SU⟩:=hcut
   generalize hwr:wc=wr at *
   obtain⟨aT,cT,aW,cW,vw,o1,o2⟩:=SU.lay
   have vh:=vw.whole
   have vz:=SU.v2
   have hST1:=SU.h1
   have hST2:=SU.h2
   obtain⟨e0,e1,e2,e3,e4,e5,e6,e7,e8,e9,e10,e11,e12⟩:=vh.c13
   obtain⟨f0,f1,f2,f3,f4,f5,f6,f7,f8,f9,f10,f11,f12⟩:=vz.c13
   obtain⟨y0,y1,y2,y3,y4,y5,y6,y7,y8,y9,y10,y11,y12⟩:=vz.f13
   go_wp2_with fail
   obtain⟨W4,hW4⟩: ∃z,Hid (z=((((((((((((wr.setCell ⟨w.heap.size,0,none⟩ (.int .i64 h.g.ba)).setCell ⟨w.heap.size,1,none⟩ (.string h.g.bs)).setCell ⟨w.heap.size,2,none⟩ (.int .i64 h.g.cp)).setCell ⟨w.heap.size,3,none⟩ (.int .i64 h.g.lm)).setCell ⟨w.heap.size,4,none⟩ (.bool h.g.en)).setCell ⟨w.heap.size,5,none⟩ (.bool h.g.dn)).setCell ⟨w.heap.size,6,none⟩ (.int .i64 h.t.nx)).setCell ⟨w.heap.size,7,none⟩ (.string h.t.bs)).setCell ⟨w.heap.size,8,none⟩ (.slice aT h.t.l.length cT)).setCell ⟨w.heap.size,9,none⟩ (.int .i64 h.t.cp)).setCell ⟨w.heap.size,10,none⟩ (.int .i64 h.t.fi)).setCell ⟨w.heap.size,11,none⟩ (.bool h.t.en)).setCell ⟨w.heap.size,12,none⟩ (.slice aW h.ws.length cW)):=⟨_,rfl⟩
   have r2:Var 47 (W4) w.heap.size [.int .i64 h.g.ba,.string h.g.bs,.int .i64 h.g.cp,.int .i64 h.g.lm,.bool h.g.en,.bool h.g.dn,.int .i64 h.t.nx,.string h.t.bs,.slice aT h.t.l.length cT,.int .i64 h.t.cp,.int .i64 h.t.fi,.bool h.t.en,.slice aW h.ws.length cW]:=by rw [hW4.out];exact(((((((((((((vz.set 0 _).set 1 _).set 2 _).set 3 _).set 4 _).set 5 _).set 6 _).set 7 _).set 8 _).set 9 _).set 10 _).set 11 _).set 12 _)
   have rT:Tak.partE.Own 123 (W4) w.heap.size aT cT h.t.l:=by
    rw [hW4.out]
    iterate 13 (refine El.Own.setCell ?_ (fun x hx=>by have:=(own_win (by decide) o1 vz.win x hx);exact this) _)
    exact o1.mono (by omega)
   have rW:letE.Own 75 (W4) w.heap.size aW cW h.ws:=by
    rw [hW4.out]
    iterate 13 (refine El.Own.setCell ?_ (fun x hx=>by have:=(own_win (by decide) o2 vz.win x hx);exact this) _)
    exact o2.mono (by omega)
   have rK:Draw.Kept c w (W4):=by rw [hW4.out];exact(Draw.Kept.setCell (Draw.Kept.setCell (Draw.Kept.setCell (Draw.Kept.setCell (Draw.Kept.setCell (Draw.Kept.setCell (Draw.Kept.setCell (Draw.Kept.setCell (Draw.Kept.setCell (Draw.Kept.setCell (Draw.Kept.setCell (Draw.Kept.setCell (Draw.Kept.setCell SU.K (p:=⟨w.heap.size,0,none⟩) (.inr (Nat.le_refl _)) _) (p:=⟨w.heap.size,1,none⟩) (.inr (Nat.le_refl _)) _) (p:=⟨w.heap.size,2,none⟩) (.inr (Nat.le_refl _)) _) (p:=⟨w.heap.size,3,none⟩) (.inr (Nat.le_refl _)) _) (p:=⟨w.heap.size,4,none⟩) (.inr (Nat.le_refl _)) _) (p:=⟨w.heap.size,5,none⟩) (.inr (Nat.le_refl _)) _) (p:=⟨w.heap.size,6,none⟩) (.inr (Nat.le_refl _)) _) (p:=⟨w.heap.size,7,none⟩) (.inr (Nat.le_refl _)) _) (p:=⟨w.heap.size,8,none⟩) (.inr (Nat.le_refl _)) _) (p:=⟨w.heap.size,9,none⟩) (.inr (Nat.le_refl _)) _) (p:=⟨w.heap.size,10,none⟩) (.inr (Nat.le_refl _)) _) (p:=⟨w.heap.size,11,none⟩) (.inr (Nat.le_refl _)) _) (p:=⟨w.heap.size,12,none⟩) (.inr (Nat.le_refl _)) _)
   have rk2:Draw.Kept w.heap.size wr (W4):=by rw [hW4.out];exact(Draw.Kept.setCell (Draw.Kept.setCell (Draw.Kept.setCell (Draw.Kept.setCell (Draw.Kept.setCell (Draw.Kept.setCell (Draw.Kept.setCell (Draw.Kept.setCell (Draw.Kept.setCell (Draw.Kept.setCell (Draw.Kept.setCell (Draw.Kept.setCell (Draw.Kept.setCell (Draw.Kept.refl w.heap.size wr) (p:=⟨w.heap.size,0,none⟩) (.inl rfl) _) (p:=⟨w.heap.size,1,none⟩) (.inl rfl) _) (p:=⟨w.heap.size,2,none⟩) (.inl rfl) _) (p:=⟨w.heap.size,3,none⟩) (.inl rfl) _) (p:=⟨w.heap.size,4,none⟩) (.inl rfl) _) (p:=⟨w.heap.size,5,none⟩) (.inl rfl) _) (p:=⟨w.heap.size,6,none⟩) (.inl rfl) _) (p:=⟨w.heap.size,7,none⟩) (.inl rfl) _) (p:=⟨w.heap.size,8,none⟩) (.inl rfl) _) (p:=⟨w.heap.size,9,none⟩) (.inl rfl) _) (p:=⟨w.heap.size,10,none⟩) (.inl rfl) _) (p:=⟨w.heap.size,11,none⟩) (.inl rfl) _) (p:=⟨w.heap.size,12,none⟩) (.inl rfl) _)
   have rC:Draw.Cur (W4) c:=SU.cu.upto (fun i hi=>rk2.block i (by have:=SU.cu.lt;omega) (by omega))
   have hW4o:=hW4.out
   clear hW4
   subst hW4o
   generalize (((((((((((((wr.setCell ⟨w.heap.size,0,none⟩ (.int .i64 h.g.ba)).setCell ⟨w.heap.size,1,none⟩ (.string h.g.bs)).setCell ⟨w.heap.size,2,none⟩ (.int .i64 h.g.cp)).setCell ⟨w.heap.size,3,none⟩ (.int .i64 h.g.lm)).setCell ⟨w.heap.size,4,none⟩ (.bool h.g.en)).setCell ⟨w.heap.size,5,none⟩ (.bool h.g.dn)).setCell ⟨w.heap.size,6,none⟩ (.int .i64 h.t.nx)).setCell ⟨w.heap.size,7,none⟩ (.string h.t.bs)).setCell ⟨w.heap.size,8,none⟩ (.slice aT h.t.l.length cT)).setCell ⟨w.heap.size,9,none⟩ (.int .i64 h.t.cp)).setCell ⟨w.heap.size,10,none⟩ (.int .i64 h.t.fi)).setCell ⟨w.heap.size,11,none⟩ (.bool h.t.en)).setCell ⟨w.heap.size,12,none⟩ (.slice aW h.ws.length cW))=W4 at *
   obtain⟨s0,s1,s2,s3,s4,s5,s6,s7,s8,s9,s10,s11,s12⟩:=r2.c13
   refine bodyPost_ret (v:=h.v aT cT aW cW) (by rw [res_one rfl];clear r2 rT rW rK rk2 rC vh vz vw o1 o2 e0 f0 y0 e1 f1 y1 e2 f2 y2 e3 f3 y3 e4 f4 y4 e5 f5 y5 e6 f6 y6 e7 f7 y7 e8 f8 y8 e9 f9 y9 e10 f10 y10 e11 f11 y11 e12 f12 y12;go_simp;done) rfl ⟨h,aT,cT,aW,cW,SU.sm,SU.wl,rfl,rT,rW,rC,rK⟩
end Go.Proofs.YtfejobjgbadfjaaGreat.Hop
