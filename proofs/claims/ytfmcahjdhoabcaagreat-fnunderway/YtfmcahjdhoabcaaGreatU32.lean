/- Contracts of this seat's functions, and their mathematics (WorN WorP WorQ). -/
import Derived.Test.YtfmcahjdhoabcaaGreatU31
import Derived.Test.YtfmcahjdhoabcaaGreatU19
set_option linter.unusedVariables false
set_option linter.unusedSimpArgs false
set_option maxRecDepth 10000
set_option maxHeartbeats 8000000
namespace Go.Proofs.YtfmcahjdhoabcaaGreat.Wor
open Go.RowKit RowG Hop Roa Pum Lin
theorem doTurn {T:TypeId}{pre post:List Value}{ow:Nat}(hTa:T≠70)(k B:Nat)(W:Wd)(hp ro pl n:Int)(tx:ByteArray)(htx:tx.size≤2097152)(w:World){g:Nat}(lay:WLay T pre post ow w B k g W)(hB:B≤w.heap.size)(hkB:NT T)(ok:okW W=true):
  Calls Tryz.prog 60 #[.pointer (some ⟨k,ow,none⟩),(⟨10,hp,ro,pl,n,tx⟩:Ac).v] w fun x w'=>x=.returned (.bool (doW W ⟨10,hp,ro,pl,n,tx⟩).2)∧WLay T pre post ow w' B k g (doW W ⟨10,hp,ro,pl,n,tx⟩).1∧KW B k g w w':=by
 obtain⟨cH,xs,aR,cR,A⟩:=lay
 have hmix:=Tak.mix
 obtain⟨okh,oks⟩:=ok_parts.1 ok
 obtain⟨ya,hx,hxh⟩:=A.hop okh (show 0<3 by omega)
 obtain⟨hxo,hxr⟩:=at_ok okh (show 0<3 by omega)
 rw [←hxh]at hxo hxr
 obtain⟨hw30,hgo,hto,hlo⟩:=hop_ok hxo
 have HXH:Hid (ya.h=W.at 0):=hxh
 clear hxh
 obtain⟨s1,s2,s3,s4⟩:=stream_iff.1 oks
 have bW:=(Below.refl w.heap.size w).alloc (Nat.le_refl _) (.cells #[.int .i64 10,.int .i64 hp,.int .i64 ro,.int .i64 pl,.int .i64 n,.string tx] 70)
 have v0:Var 70 (w.alloc (.cells #[.int .i64 10,.int .i64 hp,.int .i64 ro,.int .i64 pl,.int .i64 n,.string tx] 70)) w.heap.size [.int .i64 10,.int .i64 hp,.int .i64 ro,.int .i64 pl,.int .i64 n,.string tx]:=Var.new w _
 replace A:=A.later bW
 have e0:=A.v.cell0 rfl
 obtain⟨d0,d1,d2,d3,d4,d5⟩:=v0.c6
 have hIn: ∀w',Calls Tryz.prog 70 #[.int .i64 10,.int .i64 3,.int .i64 8] w' fun x w''=>x=.returned (.bool (decide (3≤10∧10≤8)))∧w'=w'':=fun w'=>Tak.l1In _ _ _ w'
 have HIN:Hid _:=hIn
 clear hIn
 go_enter Tryz.func60,Tryz.ntmps60
 go_upto_region 1 with(fail)
 generalize w.alloc (.cells #[.int .i64 10,.int .i64 hp,.int .i64 ro,.int .i64 pl,.int .i64 n,.string tx] 70)=V at *
 go_wp2_with fail
 refine(HIN.out _).mono ?_
 rintro e w1 ⟨rfl,rfl⟩
 clear HIN
 have e1:=A.v.cell (i:=1) rfl
 have hR:Hid (doW W ⟨10,hp,ro,pl,n,tx⟩=({W with rs:=turnL W.rs ro (decide (n=1))},turnB W.rs ro (decide (n=1)))):=by
  show _=_
  simp [doW]
 have hrl:W.rs.length≤2097152:=by have:=(hops_iff.1 okh).2.1;simp only [roadsB,Bool.and_eq_true,decide_eq_true_eq]at this;omega
 have hBV:B≤V.heap.size:=Nat.le_trans hB bW.size
 have hnc:=A.R.none_cap
 have hkV:k<V.heap.size:=A.v.lt
 have haV:w.heap.size<V.heap.size:=v0.lt
 go_wp2_with fail
 refine wp_region_held_drew (S:=(fun w'=>w'.cell? ⟨k,ow+1,none⟩=some (.slice aR W.rs.length cR)∧w'.cell? ⟨w.heap.size,2,none⟩=some (.int .i64 ro)∧w'.cell? ⟨w.heap.size,4,none⟩=some (.int .i64 n))) (by kernel_rfl) ?_ (fun hHeld=>?_)
 focus ((try dsimp only) <;>(first|exact⟨e1,d2,d4⟩|exact hHeld|exact hS2))
 refine wpAnyH_take (i:=0) (v:=?_) rfl (by kernel_rfl) (by kernel_rfl) (by kernel_rfl) (fun _ _ _ h=>h) (Or.inl ⟨by rfl,?_⟩) (by assumption) ?_
 rotate_left 1
 focus (intro s h;(try dsimp only at h);go_simp;(try apply And.intro) <;>with_reducible rfl)
 (try simp only [Act.put,Draw.lays])
 refine wpAnyH_take (i:=1) (v:=?_) rfl (by kernel_rfl) (by kernel_rfl) (by kernel_rfl) (fun _ _ _ h=>h) (Or.inl ⟨by rfl,?_⟩) (by assumption) ?_
 rotate_left 1
 focus (intro s h;(try dsimp only at h);go_simp;(try apply And.intro) <;>with_reducible rfl)
 (try simp only [Act.put,Draw.lays])
 refine wpAnyH_take (i:=2) (v:=?_) rfl (by kernel_rfl) (by kernel_rfl) (by kernel_rfl) (fun _ _ _ h=>h) (Or.inl ⟨by rfl,?_⟩) (by assumption) ?_
 rotate_left 1
 focus (intro s h;(try dsimp only at h);go_simp;(try apply And.intro) <;>with_reducible rfl)
 (try simp only [Act.put,Draw.lays])
 refine wpAnyH_take (i:=3) (v:=?_) rfl (by kernel_rfl) (by kernel_rfl) (by kernel_rfl) (fun _ _ _ h=>h) (Or.inl ⟨by rfl,?_⟩) (by assumption) ?_
 rotate_left 1
 focus (intro s h;(try dsimp only at h);go_simp;(try apply And.intro) <;>with_reducible rfl)
 (try simp only [Act.put,Draw.lays])
 refine wpAnyH_take (i:=4) (v:=?_) rfl (by kernel_rfl) (by kernel_rfl) (by kernel_rfl) (fun _ _ _ h=>h) (Or.inl ⟨by rfl,?_⟩) (by assumption) ?_
 rotate_left 1
 focus (intro s h;(try dsimp only at h);go_simp;(try apply And.intro) <;>with_reducible rfl)
 (try simp only [Act.put,Draw.lays])
 refine wpAnyH_take (i:=5) (v:=?_) rfl (by kernel_rfl) (by kernel_rfl) (by kernel_rfl) (fun _ _ _ h=>h) (Or.inl ⟨by rfl,?_⟩) (by assumption) ?_
 rotate_left 1
 focus (intro s h;(try dsimp only at h);go_simp;(try apply And.intro) <;>with_reducible rfl)
 (try simp only [Act.put,Draw.lays])
 refine wpAnyH_take (i:=6) (v:=?_) rfl (by kernel_rfl) (by kernel_rfl) (by kernel_rfl) (fun _ _ _ h=>h) (Or.inl ⟨by rfl,?_⟩) (by assumption) ?_
 rotate_left 1
 focus (intro s h;(try dsimp only at h);go_simp;(try apply And.intro) <;>with_reducible rfl)
 (try simp only [Act.put,Draw.lays])
 refine wpAnyH_take (i:=7) (v:=?_) rfl (by kernel_rfl) (by kernel_rfl) (by kernel_rfl) (fun _ _ _ h=>h) (Or.inl ⟨by rfl,?_⟩) (by assumption) ?_
 rotate_left 1
 focus (intro s h;(try dsimp only at h);go_simp;(try apply And.intro) <;>with_reducible rfl)
 (try simp only [Act.put,Draw.lays])
 refine wpAnyH_take (i:=8) (v:=?_) rfl (by kernel_rfl) (by kernel_rfl) (by kernel_rfl) (fun _ _ _ h=>h) (Or.inl ⟨by rfl,?_⟩) (by assumption) ?_
 rotate_left 1
 focus (intro s h;(try dsimp only at h);go_simp;(try apply And.intro) <;>with_reducible rfl)
 (try simp only [Act.put,Draw.lays])
 refine wpAnyH_take (i:=9) (v:=?_) rfl (by kernel_rfl) (by kernel_rfl) (by kernel_rfl) (fun _ _ _ h=>h) (Or.inl ⟨by rfl,?_⟩) (by assumption) ?_
 rotate_left 1
 focus (intro s h;(try dsimp only at h);go_simp;(try apply And.intro) <;>with_reducible rfl)
 (try simp only [Act.put,Draw.lays])
 refine wpAnyH_ready (rs:=[10]) (by kernel_rfl) (by simp) ?_
 refine AllReadyH.cons rfl (fun K hK=>?_) AllReadyH.nil
 (go_simp;refine(Roa.specTurn aR W.rs.length cR W.rs ro (n==1) _ rfl A.R.drew.lies hnc hrl).mono ?_;rintro x wa ⟨gR,cR',rfl,oR,ba⟩;have hS2:=And.intro ((ba.cell (p:=⟨k,ow+1,none⟩) hkV).trans e1) (And.intro ((ba.cell (p:=⟨w.heap.size,2,none⟩) haV).trans d2) ((ba.cell (p:=⟨w.heap.size,4,none⟩) haV).trans d4));have A3:WAt T pre post ow wa B k g cH xs aR cR W:=⟨A.v.drew.later ba,A.L.drew.later ba,A.hs,A.R.drew.later ba⟩)
 refine hK.out _ _ ?_ (fun hHeld=>?_)
 focus ((try dsimp only) <;>(first|exact⟨e1,d2,d4⟩|exact hHeld|exact hS2))
 clear hK K
 (try simp only [Act.put,Draw.lays])
 refine wpAnyH_take (i:=11) (v:=?_) rfl (by kernel_rfl) (by kernel_rfl) (by kernel_rfl) (fun _ _ _ h=>h) (Or.inl ⟨by rfl,?_⟩) (by assumption) ?_
 rotate_left 1
 focus (intro s h;(try dsimp only at h);go_simp;(try apply And.intro) <;>with_reducible rfl)
 (try simp only [Act.put,Draw.lays])
 refine wpAnyH_take (i:=12) (v:=?_) rfl (by kernel_rfl) (by kernel_rfl) (by kernel_rfl) (fun _ _ _ h=>h) (Or.inl ⟨by rfl,?_⟩) (by assumption) ?_
 rotate_left 1
 focus (intro s h;(try dsimp only at h);go_simp;(try apply And.intro) <;>with_reducible rfl)
 (try simp only [Act.put,Draw.lays])
 refine wpAnyH_take (i:=13) (v:=?_) rfl (by kernel_rfl) (by kernel_rfl) (by kernel_rfl) (fun _ _ _ h=>h) (Or.inl ⟨by rfl,?_⟩) (by assumption) ?_
 rotate_left 1
 focus (intro s h;(try dsimp only at h);go_simp;(try apply And.intro) <;>with_reducible rfl)
 (try simp only [Act.put,Draw.lays])
 refine wpAnyH_take (i:=14) (v:=?_) rfl (by kernel_rfl) (by kernel_rfl) (by kernel_rfl) (fun _ _ _ h=>h) (Or.inl ⟨by rfl,?_⟩) (by assumption) ?_
 rotate_left 1
 focus (intro s h;(try dsimp only at h);go_simp;(try apply And.intro) <;>with_reducible rfl)
 (try simp only [Act.put,Draw.lays])
 refine wpAnyH_take (i:=15) (v:=?_) rfl (by kernel_rfl) (by kernel_rfl) (by kernel_rfl) (fun _ _ _ h=>h) (Or.inl ⟨by rfl,?_⟩) (by assumption) ?_
 rotate_left 1
 focus (intro s h;(try dsimp only at h);go_simp;(try apply And.intro) <;>with_reducible rfl)
 (try simp only [Act.put,Draw.lays])
 refine wpAnyH_done (by kernel_rfl) ?_ _
 have e1':=A3.v.cell (i:=1) rfl
 have f1':=A3.v.free 1
 have k1:Draw.Kept k wa (wa.setCell ⟨k,ow+1,none⟩ (.slice (some ⟨gR,0,none⟩) (turnL W.rs ro (n==1)).length cR')):=(Draw.Kept.refl k wa).setCell (p:=⟨k,ow+1,none⟩) (.inl rfl) _
 have v1:=A3.v.set 1 (.slice (some ⟨gR,0,none⟩) (turnL W.rs ro (n==1)).length cR')
 have oR':Roa.E.Own 100 wa B (some ⟨gR,0,none⟩) cR' (turnL W.rs ro (n==1)):=El.Own.mono (E:=Roa.E) oR hBV
 have A4:WAt T pre post ow (wa.setCell ⟨k,ow+1,none⟩ (.slice (some ⟨gR,0,none⟩) (turnL W.rs ro (n==1)).length cR')) B k g cH xs (some ⟨gR,0,none⟩) cR' {W with rs:=turnL W.rs ro (n==1)}:=⟨v1,A3.L.keptW A3.v hkB k1,A3.hs,oR'.kept k1 (own_win hkB.r oR' A3.v)⟩
 have K4:KW B k g w (wa.setCell ⟨k,ow+1,none⟩ (.slice (some ⟨gR,0,none⟩) (turnL W.rs ro (n==1)).length cR')):=((KW.ofBelow bW.drew hB).trans (KW.ofBelow ba hBV)).trans (KW.ofKept k1 (Nat.le_trans hBV ba.size))
 have HA4:Hid _:=A4
 have HK4:Hid _:=K4
 clear A4 K4 oR' v1 k1 A3 oR ba hHeld hS2 A v0 bW e1 d2 d4 d0 d1 d3 d5 e0
 go_wp2_with fail
 go_ret
 exact⟨by rw [hR.out];rfl,by rw [hR.out];exact⟨cH,xs,_,cR',HA4.out⟩,HK4.out⟩
theorem l16Do {T:TypeId}{pre post:List Value}{ow:Nat}(hTa:T≠70)(k B:Nat)(W:Wd)(a:Ac)(htx:a.tx.size≤2097152)(w:World){g:Nat}(lay:WLay T pre post ow w B k g W)(hB:B≤w.heap.size)(hkB:NT T)(ok:okW W=true):
  Calls Tryz.prog 60 #[.pointer (some ⟨k,ow,none⟩),a.v] w fun x w'=>x=.returned (.bool (doW W a).2)∧WLay T pre post ow w' B k g (doW W a).1∧KW B k g w w':=by
 obtain⟨kd,hp,ro,pl,n,tx⟩:=a
 by_cases h1:kd<1∨11<kd
 ·exact doNone hTa k B W kd hp ro pl n h1 tx htx w lay hB hkB ok
 by_cases h2:3≤kd∧kd≤8
 ·exact doHop hTa k B W kd hp ro pl n h2 tx htx w lay hB hkB ok
 have h3:kd=1∨kd=2∨kd=9∨kd=10∨kd=11:=by omega
 rcases h3 with rfl|rfl|rfl|rfl|rfl
 ·exact doWrite hTa k B W hp ro pl n tx htx w lay hB hkB ok
 ·exact doEnd hTa k B W hp ro pl n tx htx w lay hB hkB ok
 ·exact doRead hTa k B W hp ro pl n tx htx w lay hB hkB ok
 ·exact doTurn hTa k B W hp ro pl n tx htx w lay hB hkB ok
 ·exact doLook hTa k B W hp ro pl n tx htx w lay hB hkB ok
end Go.Proofs.YtfmcahjdhoabcaaGreat.Wor
namespace Go.Proofs.YtfmcahjdhoabcaaGreat.Wor
open Go.RowKit RowG Hop Roa Pum Lin
abbrev Wd.c (W:Wd)(aH:Option Addr)(n cH:Nat)(aR:Option Addr)(m cR:Nat):List Value:=[.slice aH n cH,.slice aR m cR,.string W.tx,.int .i64 W.rd,.bool W.en,.bool W.dn,.bool W.sn]
structure WAs (w:World)(B g cH:Nat)(xs:List Ha)(aR:Option Addr)(cR:Nat)(W:Wd):Prop where
 L:LineLay w B (some ⟨g,0,none⟩) cH xs
 hs:xs.map (·.h)=W.hs
 R:Roa.E.Own 100 w B aR cR W.rs
 ok:okW W=true
def WHold (w:World)(B:Nat)(v:Value)(W:Wd):Prop:= ∃g cH xs aR cR,v=.agg #[.slice (some ⟨g,0,none⟩) 3 cH,.slice aR W.rs.length cR,.string W.tx,.int .i64 W.rd,.bool W.en,.bool W.dn,.bool W.sn]∧WAs w B g cH xs aR cR W
theorem WAs.later {w w':World}{B g cH:Nat}{xs:List Ha}{aR:Option Addr}{cR:Nat}{W:Wd}(h:WAs w B g cH xs aR cR W)(b:Below w.heap.size w w'):WAs w' B g cH xs aR cR W:=⟨h.L.later b,h.hs,h.R.later b,h.ok⟩
theorem WHold.later {w w':World}{B:Nat}{v:Value}{W:Wd}(h:WHold w B v W)(b:Below w.heap.size w w'):WHold w' B v W:=by
 obtain⟨g,cH,xs,aR,cR,h1,h2⟩:=h
 exact⟨g,cH,xs,aR,cR,h1,h2.later b⟩
theorem WAs.len {w:World}{B g cH:Nat}{xs:List Ha}{aR:Option Addr}{cR:Nat}{W:Wd}(h:WAs w B g cH xs aR cR W):xs.length=3:=by
 have:=congrArg List.length h.hs
 rw [List.length_map,(hops_iff.1 (ok_parts.1 h.ok).1).1]at this
 exact this
theorem few_of {W:Wd}(ok:okW W=true){xs:List Ha}(h:xs.map (·.h)=W.hs): ∀x∈xs,Few x:=by
 intro x hx
 have hm:x.h∈W.hs:=by rw [←h];exact List.mem_map_of_mem hx
 obtain⟨i,hi,he⟩:=List.getElem_of_mem hm
 have h3:=hops_iff.1 (ok_parts.1 ok).1
 have hb:=(h3.2.2 i (by omega)).1
 have e:W.hs.getD i zeroH=x.h:=by rw [List.getD_eq_getElem?_getD,List.getElem?_eq_getElem hi,he];rfl
 rw [e]at hb
 have hs:=sm_ok hb
 exact⟨hs.tl,hs.wl⟩
def TieW (B:Nat)(W:Wd)(v:Value)(w:World):Prop:= ∃g cH xs aR cR,v=.agg #[.slice (some ⟨g,0,none⟩) 3 cH,.slice aR W.rs.length cR]∧WAs w B g cH xs aR cR W
theorem TieW.later {B:Nat}{W:Wd}{v:Value}{w w':World}(t:TieW B W v w)(b:Below w.heap.size w w'):TieW B W v w':=by
 obtain⟨g,cH,xs,aR,cR,h1,h2⟩:=t
 exact⟨g,cH,xs,aR,cR,h1,h2.later b⟩
structure CoW (w:World)(l1:List Value)(W:Wd)(d:Nat→Bool)(wr:World):Prop where
 v1:Var 31 wr w.heap.size l1
 b:Below w.heap.size w wr
 var:d 6=false→Var 31 wr (w.heap.size+1) [.slice none 0 0,.slice none 0 0,.string ⟨#[]⟩,.int .i64 0,.bool false,.bool false,.bool false]
 new:d 6=true→ ∃g cH xs aR cR,Var 31 wr (w.heap.size+1) [.slice (some ⟨g,0,none⟩) 3 cH,.slice aR W.rs.length cR,.string W.tx,.int .i64 W.rd,.bool W.en,.bool W.dn,.bool W.sn]∧WAs wr w.heap.size g cH xs aR cR W
theorem CoW.later {w:World}{l1:List Value}{W:Wd}{d d':Nat→Bool}{wr w':World}(q:CoW w l1 W d wr)(b:Below wr.heap.size wr w')(h6:d' 6=d 6):CoW w l1 W d' w':=
 ⟨q.v1.later b,q.b.trans (b.mono q.b.size),fun e=>(q.var (h6▸e)).later b,fun e=>by
  obtain⟨g,cH,xs,aR,cR,h1,h2⟩:=q.new (h6▸e)
  exact⟨g,cH,xs,aR,cR,h1.later b,h2.later b⟩⟩
theorem WAs.keptV {T:TypeId}{w w':World}{B k g cH:Nat}{xs:List Ha}{aR:Option Addr}{cR:Nat}{W:Wd}{vs:List Value}(h:WAs w B g cH xs aR cR W)(v:Var T w k vs)(h1:T≠53)(h2:T≠127)(h3:T≠80)(h4:T≠100)(b:Draw.Kept k w w'):WAs w' B g cH xs aR cR W:=
 ⟨h.L.keptV v h1 h2 h3 b,h.hs,h.R.kept b (own_win h4 h.R v.win),h.ok⟩
theorem roads_len {l:List Rd}(h:roadsB l=true):1≤l.length∧l.length≤4:=by
 simp [roadsB]at h
 omega
theorem infoWorld:(Tryz.prog.info? 31).map (·.size)=some 7:=by kernel_rfl
theorem structWorld: ∃fs,Tryz.prog.underlying 31=some (.struct fs):=⟨_,Tryz.underlying31⟩
theorem Wone (W:Wd)(g cH:Nat)(aR:Option Addr)(cR:Nat): ∀v∈ [Value.slice (some ⟨g,0,none⟩) 3 cH,.slice aR W.rs.length cR,.string W.tx,.int .i64 W.rd,.bool W.en,.bool W.dn,.bool W.sn],v.oneCell'=true:=by
 intro u hu
 simp only [List.mem_cons,List.not_mem_nil,or_false]at hu
 rcases hu with rfl|rfl|rfl|rfl|rfl|rfl|rfl <;>rfl
theorem l16Copy (W:Wd)(aH aR:Option Addr)(cH cR:Nat)(xs:List Ha)(w:World)(L:LL w aH xs)(hs:xs.map (·.h)=W.hs)(R:Roa.E.Lies w aR W.rs)(hR:aR=none→cR=0)(ok:okW W=true):
  Calls Tryz.prog 41 #[.agg #[.slice aH 3 cH,.slice aR W.rs.length cR,.string W.tx,.int .i64 W.rd,.bool W.en,.bool W.dn,.bool W.sn]] w fun e w'=> ∃v,e=.returned v∧WHold w' w.heap.size v W∧Below w.heap.size w w':=by
 have hmix:=Roa.mix
 have few:=few_of ok hs
 have hl3:Hid (xs.length=3):=by
  show _=_
  have:=congrArg List.length hs
  rw [List.length_map,(hops_iff.1 (ok_parts.1 ok).1).1]at this
  exact this
 have hr:W.rs.length≤1000:=by
  have:=(hops_iff.1 (ok_parts.1 ok).1).2.1
  have:=roads_len this
  omega
 have tie: ∀ {wa:World} {a':Option Addr} {c':Nat} {ys:List Ha} {g' c'' B:Nat},LineLay wa B a' c' ys→ys.map (·.h)=xs.map (·.h)→Roa.E.Own 100 wa B (some ⟨g',0,none⟩) c'' W.rs→w.heap.size≤B→TieW w.heap.size W (.agg #[.slice a' 3 c',.slice (some ⟨g',0,none⟩) W.rs.length c'']) wa:=by
  intro wa a' c' ys g' c'' B La hma Ra hB
  rcases La.row.form with⟨_,_,h0⟩|⟨g,rfl,_⟩
  ·rw [h0]at hma
   have:=congrArg List.length hma
   simp [hl3.out]at this
  ·exact⟨g,c',ys,_,c'',rfl,La.mono hB,hma.trans hs,Ra.mono hB,ok⟩
 have v1:Var 31 ((w.alloc (.cells #[.slice aH 3 cH,.slice aR W.rs.length cR,.string W.tx,.int .i64 W.rd,.bool W.en,.bool W.dn,.bool W.sn] 31)).alloc (.cells #[.slice none 0 0,.slice none 0 0,.string ⟨#[]⟩,.int .i64 0,.bool false,.bool false,.bool false] 31)) w.heap.size [.slice aH 3 cH,.slice aR W.rs.length cR,.string W.tx,.int .i64 W.rd,.bool W.en,.bool W.dn,.bool W.sn]:=(Var.new w _).alloc _
 have v2:Var 31 ((w.alloc (.cells #[.slice aH 3 cH,.slice aR W.rs.length cR,.string W.tx,.int .i64 W.rd,.bool W.en,.bool W.dn,.bool W.sn] 31)).alloc (.cells #[.slice none 0 0,.slice none 0 0,.string ⟨#[]⟩,.int .i64 0,.bool false,.bool false,.bool false] 31)) (w.heap.size+1) [.slice none 0 0,.slice none 0 0,.string ⟨#[]⟩,.int .i64 0,.bool false,.bool false,.bool false]:=by
  have q:=Var.new (T:=31) (w.alloc (.cells #[.slice aH 3 cH,.slice aR W.rs.length cR,.string W.tx,.int .i64 W.rd,.bool W.en,.bool W.dn,.bool W.sn] 31)) [.slice none 0 0,.slice none 0 0,.string ⟨#[]⟩,.int .i64 0,.bool false,.bool false,.bool false]
  simpa using q
 have b0:Below w.heap.size w ((w.alloc (.cells #[.slice aH 3 cH,.slice aR W.rs.length cR,.string W.tx,.int .i64 W.rd,.bool W.en,.bool W.dn,.bool W.sn] 31)).alloc (.cells #[.slice none 0 0,.slice none 0 0,.string ⟨#[]⟩,.int .i64 0,.bool false,.bool false,.bool false] 31)):=((Below.refl _ _).alloc (Nat.le_refl _) _).alloc (by simp) _
 have hst: ∀q∈([(2,5,TieW w.heap.size W),(5,6,fun v w'=>WHold w' w.heap.size v W)]:List RegJ.Tie),∀v (w1 w2:World),Below w1.heap.size w1 w2→q.2.2 v w1→q.2.2 v w2:=by
  intro q hq v wa wb ba h
  simp only [List.mem_cons,List.not_mem_nil,or_false]at hq
  rcases hq with rfl|rfl
  ·exact TieW.later h ba
  ·exact WHold.later h ba
 have keepW: ∀(q:Nat) (d:Nat→Bool) (w':World),CoW w [.slice aH 3 cH,.slice aR W.rs.length cR,.string W.tx,.int .i64 W.rd,.bool W.en,.bool W.dn,.bool W.sn] W d w'→q≠6→CoW w [.slice aH 3 cH,.slice aR W.rs.length cR,.string W.tx,.int .i64 W.rd,.bool W.en,.bool W.dn,.bool W.sn] W (fun j=>j==q||d j) w':=fun q d w' h hq=>h.later (Below.refl _ _) (or_ne (Ne.symm hq))
 go_enter Tryz.func41,Tryz.ntmps41
 go_wp2_with fail
 generalize (w.alloc (.cells #[.slice aH 3 cH,.slice aR W.rs.length cR,.string W.tx,.int .i64 W.rd,.bool W.en,.bool W.dn,.bool W.sn] 31)).alloc (.cells #[.slice none 0 0,.slice none 0 0,.string ⟨#[]⟩,.int .i64 0,.bool false,.bool false,.bool false] 31)=V at *
 refine RegJ.wp_region_J (W:=CoW w [.slice aH 3 cH,.slice aR W.rs.length cR,.string W.tx,.int .i64 W.rd,.bool W.en,.bool W.dn,.bool W.sn] W) (RegJ.ValP [some (.pointer (some ⟨w.heap.size,0,none⟩)),some (.agg #[.slice aH 3 cH,.slice aR W.rs.length cR]),none,some (.pointer (some ⟨w.heap.size,2,none⟩)),some (.agg #[.string W.tx,.int .i64 W.rd,.bool W.en,.bool W.dn,.bool W.sn]),none,none] ([(2,5,TieW w.heap.size W),(5,6,fun v w'=>WHold w' w.heap.size v W)])) [some 3,some 4,some 5,some 6,some 7,some 8,none] (F:=?_) (is:=[0,1,2,3,4,5,6]) hmix (by kernel_rfl) (by kernel_rfl) (by kernel_rfl) (by kernel_rfl) (fun x=>?_) (⟨v1.drew,b0.drew,fun _=>v2.drew,fun e=>by cases e⟩) ?_ (fun dR xR wR hWR hdR hJR=>?_)
 rotate_left 1
 focus (simp only [RegJ.lay,Act.put,Nat.reduceAdd,Nat.zero_add,Draw.lays];rfl)
 focus
  iterate 7 (refine RegJ.Steps.cons (RegJ.StepAt.mk rfl (fun d x w1 hW1 hJ1 hx1 K hK=>?_)) ?_;simp only [Draw.lays]at hK;rotate_left 1)
  exact RegJ.Steps.nil
  ·go_simp;exact hK.out _ _ (keepW 0 d _ hW1 (by decide)) RegJ.ValP.same (RegJ.ValP.free (Or.inl rfl) rfl)
  ·have j0:x 0=_:=(hJ1.out 0 (by kernel_rfl)).val rfl;rw [j0]at hK;have c0:=hW1.v1.cell (i:=0) rfl;have c1:=hW1.v1.cell (i:=1) rfl;go_simp;exact hK.out _ _ (keepW 1 d _ hW1 (by decide)) RegJ.ValP.same (RegJ.ValP.free (Or.inl rfl) rfl)
  ·have j1:x 1=_:=(hJ1.out 1 (by kernel_rfl)).val rfl;rw [j1]at hK;go_simp;refine(Lin.l13Copy aH aR 3 W.rs.length cH cR xs W.rs _ hl3.out.symm rfl (L.later hW1.b) (R.later hW1.b) hR (by rw [hl3.out];decide) hr few).mono ?_;rintro e wa ⟨a',c',ys,g',c'',rfl,La,hma,Ra,ba⟩;have t:=tie La hma Ra hW1.b.size;go_simp;exact hK.out _ _ (hW1.later ba rfl) (RegJ.ValP.keep (fun q hq=>.inr (.inr (.inr fun v h=>hst q hq v _ _ ba h)))) (RegJ.ValP.this (Or.inr rfl) (by intro q hq he;simp only [List.mem_cons,List.not_mem_nil,or_false]at hq;rcases hq with rfl|rfl;exact t;cases he))
  ·go_simp;exact hK.out _ _ (keepW 3 d _ hW1 (by decide)) RegJ.ValP.same (RegJ.ValP.free (Or.inl rfl) rfl)
  ·have j3:x 3=_:=(hJ1.out 3 (by kernel_rfl)).val rfl;rw [j3]at hK;have c2:=hW1.v1.cell (i:=2) rfl;have c3:=hW1.v1.cell (i:=3) rfl;have c4:=hW1.v1.cell (i:=4) rfl;have c5:=hW1.v1.cell (i:=5) rfl;have c6:=hW1.v1.cell (i:=6) rfl;go_simp;exact hK.out _ _ (keepW 4 d _ hW1 (by decide)) RegJ.ValP.same (RegJ.ValP.free (Or.inl rfl) rfl)
  ·have j4:x 4=_:=(hJ1.out 4 (by kernel_rfl)).val rfl;rw [j4]at hK;obtain⟨g,cH',ys,aR',cR',j2,A2⟩:=(hJ1.out 2 (by kernel_rfl)).tie (2,5,TieW w.heap.size W) (by simp) rfl (hx1.out 5 (.inl rfl)).1;rw [j2]at hK;go_simp;exact hK.out _ _ (keepW 5 d _ hW1 (by decide)) RegJ.ValP.same (RegJ.ValP.this (Or.inr rfl) (by intro q hq he;simp only [List.mem_cons,List.not_mem_nil,or_false]at hq;rcases hq with rfl|rfl;cases he;exact⟨g,cH',ys,aR',cR',rfl,A2⟩))
  ·obtain⟨g,cH',ys,aR',cR',j5,A5⟩:=(hJ1.out 5 (by kernel_rfl)).tie (5,6,fun v w'=>WHold w' w.heap.size v W) (by simp) rfl (hx1.out 6 (.inl rfl)).1;have Vo:=hW1.var (hx1.out 6 (.inl rfl)).1;refine step_store_win (by rfl) _ _ (by rfl) (k:=w.heap.size+1) (vs:=[.slice (some ⟨g,0,none⟩) 3 cH',.slice aR' W.rs.length cR',.string W.tx,.int .i64 W.rd,.bool W.en,.bool W.dn,.bool W.sn]) (by rfl) (by exact j5) infoWorld Vo.win rfl (Wone W g cH' aR' cR') ?_;intro wa va ka;exact hK.out undef _ ⟨hW1.v1.kept ka (by omega),hW1.b.trans (ka.below (by omega) hW1.b.size),fun e=>absurd e (by simp),fun _=>⟨g,cH',ys,aR',cR',va.whole,A5.keptV Vo (by decide) (by decide) (by decide) (by decide) ka⟩⟩ (RegJ.ValP.keep (by intro q hq;simp only [List.mem_cons,List.not_mem_nil,or_false]at hq;rcases hq with rfl|rfl;exact .inr (.inr (.inl (hJ1.out 5 (by kernel_rfl)).done));exact .inr (.inl rfl))) (RegJ.ValP.free (Or.inr rfl) rfl)
 obtain⟨g,cH',ys,aR',cR',v3,A3⟩:=hWR.new (hdR 6 (by simp))
 have b3:=hWR.b
 clear hWR hJR hdR hst keepW tie
 obtain⟨e0,e1,e2,e3,e4,e5,e6⟩:=v3.c7
 go_wp2_with fail
 refine bodyPost_ret (v:=.agg #[.slice (some ⟨g,0,none⟩) 3 cH',.slice aR' W.rs.length cR',.string W.tx,.int .i64 W.rd,.bool W.en,.bool W.dn,.bool W.sn]) (by rw [Hop.res_one rfl];go_simp) rfl ⟨_,rfl,⟨g,cH',ys,aR',cR',rfl,A3⟩,b3⟩
end Go.Proofs.YtfmcahjdhoabcaaGreat.Wor
namespace Go.Proofs.YtfmcahjdhoabcaaGreat.Wor
open Go.RowKit RowG Hop Roa Pum Lin
abbrev put7 (w:World)(k:Nat)(x0 x1 x2 x3 x4 x5 x6:Value):World:=((((((w.setCell ⟨k,0,none⟩ x0).setCell ⟨k,1,none⟩ x1).setCell ⟨k,2,none⟩ x2).setCell ⟨k,3,none⟩ x3).setCell ⟨k,4,none⟩ x4).setCell ⟨k,5,none⟩ x5).setCell ⟨k,6,none⟩ x6
theorem var7 {T:TypeId}{w:World}{k:Nat}{a0 a1 a2 a3 a4 a5 a6:Value}(h:Var T w k [a0,a1,a2,a3,a4,a5,a6])(x0 x1 x2 x3 x4 x5 x6:Value):Var T (put7 w k x0 x1 x2 x3 x4 x5 x6) k [x0,x1,x2,x3,x4,x5,x6]:=((((((h.set 0 x0).set 1 x1).set 2 x2).set 3 x3).set 4 x4).set 5 x5).set 6 x6
theorem kept7 (w:World)(k:Nat)(x0 x1 x2 x3 x4 x5 x6:Value):Draw.Kept k w (put7 w k x0 x1 x2 x3 x4 x5 x6):=
 Draw.Kept.setCell (p:=⟨k,6,none⟩) (Draw.Kept.setCell (p:=⟨k,5,none⟩) (Draw.Kept.setCell (p:=⟨k,4,none⟩) (Draw.Kept.setCell (p:=⟨k,3,none⟩) (Draw.Kept.setCell (p:=⟨k,2,none⟩) (Draw.Kept.setCell (p:=⟨k,1,none⟩) (Draw.Kept.setCell (p:=⟨k,0,none⟩) (Draw.Kept.refl _ _) (.inl rfl) _) (.inl rfl) _) (.inl rfl) _) (.inl rfl) _) (.inl rfl) _) (.inl rfl) _) (.inl rfl) _
theorem l16Happen (B:Nat)(W:Wd)(a:Ac)(htx:a.tx.size≤2097152)(aR:Option Addr)(g cH cR:Nat)(xs:List Ha)(w:World)(A:WAs w B g cH xs aR cR W)(hB:B≤w.heap.size):
  Calls Tryz.prog 40 #[.agg #[.slice (some ⟨g,0,none⟩) 3 cH,.slice aR W.rs.length cR,.string W.tx,.int .i64 W.rd,.bool W.en,.bool W.dn,.bool W.sn],a.v] w fun e w'=> ∃v,e=.returned (.tuple #[v,.bool (happenW W a).2])∧WHold w' B v (happenW W a).1∧Below w.heap.size w w':=by
 have hmix:=Roa.mix
 have v0:Var 31 (((w.alloc (.cells #[.slice (some ⟨g,0,none⟩) 3 cH,.slice aR W.rs.length cR,.string W.tx,.int .i64 W.rd,.bool W.en,.bool W.dn,.bool W.sn] 31)).alloc (.cells #[.int .i64 a.kd,.int .i64 a.hp,.int .i64 a.ro,.int .i64 a.pl,.int .i64 a.n,.string a.tx] 70)).alloc (.cells #[.slice none 0 0,.slice none 0 0,.string ⟨#[]⟩,.int .i64 0,.bool false,.bool false,.bool false] 31)) w.heap.size [.slice (some ⟨g,0,none⟩) 3 cH,.slice aR W.rs.length cR,.string W.tx,.int .i64 W.rd,.bool W.en,.bool W.dn,.bool W.sn]:=((Var.new w _).alloc _).alloc _
 have v1:Var 70 (((w.alloc (.cells #[.slice (some ⟨g,0,none⟩) 3 cH,.slice aR W.rs.length cR,.string W.tx,.int .i64 W.rd,.bool W.en,.bool W.dn,.bool W.sn] 31)).alloc (.cells #[.int .i64 a.kd,.int .i64 a.hp,.int .i64 a.ro,.int .i64 a.pl,.int .i64 a.n,.string a.tx] 70)).alloc (.cells #[.slice none 0 0,.slice none 0 0,.string ⟨#[]⟩,.int .i64 0,.bool false,.bool false,.bool false] 31)) (w.heap.size+1) [.int .i64 a.kd,.int .i64 a.hp,.int .i64 a.ro,.int .i64 a.pl,.int .i64 a.n,.string a.tx]:=by
  have q:=Var.new (T:=70) (w.alloc (.cells #[.slice (some ⟨g,0,none⟩) 3 cH,.slice aR W.rs.length cR,.string W.tx,.int .i64 W.rd,.bool W.en,.bool W.dn,.bool W.sn] 31)) [.int .i64 a.kd,.int .i64 a.hp,.int .i64 a.ro,.int .i64 a.pl,.int .i64 a.n,.string a.tx]
  have q:=q.alloc (.cells #[.slice none 0 0,.slice none 0 0,.string ⟨#[]⟩,.int .i64 0,.bool false,.bool false,.bool false] 31)
  simpa using q
 have v2:Var 31 (((w.alloc (.cells #[.slice (some ⟨g,0,none⟩) 3 cH,.slice aR W.rs.length cR,.string W.tx,.int .i64 W.rd,.bool W.en,.bool W.dn,.bool W.sn] 31)).alloc (.cells #[.int .i64 a.kd,.int .i64 a.hp,.int .i64 a.ro,.int .i64 a.pl,.int .i64 a.n,.string a.tx] 70)).alloc (.cells #[.slice none 0 0,.slice none 0 0,.string ⟨#[]⟩,.int .i64 0,.bool false,.bool false,.bool false] 31)) (w.heap.size+1+1) [.slice none 0 0,.slice none 0 0,.string ⟨#[]⟩,.int .i64 0,.bool false,.bool false,.bool false]:=by
  have q:=Var.new (T:=31) ((w.alloc (.cells #[.slice (some ⟨g,0,none⟩) 3 cH,.slice aR W.rs.length cR,.string W.tx,.int .i64 W.rd,.bool W.en,.bool W.dn,.bool W.sn] 31)).alloc (.cells #[.int .i64 a.kd,.int .i64 a.hp,.int .i64 a.ro,.int .i64 a.pl,.int .i64 a.n,.string a.tx] 70)) [.slice none 0 0,.slice none 0 0,.string ⟨#[]⟩,.int .i64 0,.bool false,.bool false,.bool false]
  simpa using q
 have b0:Below w.heap.size w (((w.alloc (.cells #[.slice (some ⟨g,0,none⟩) 3 cH,.slice aR W.rs.length cR,.string W.tx,.int .i64 W.rd,.bool W.en,.bool W.dn,.bool W.sn] 31)).alloc (.cells #[.int .i64 a.kd,.int .i64 a.hp,.int .i64 a.ro,.int .i64 a.pl,.int .i64 a.n,.string a.tx] 70)).alloc (.cells #[.slice none 0 0,.slice none 0 0,.string ⟨#[]⟩,.int .i64 0,.bool false,.bool false,.bool false] 31)):=(((Below.refl _ _).alloc (Nat.le_refl _) _).alloc (by simp) _).alloc (by simp;omega) _
 go_enter Tryz.func40,Tryz.ntmps40
 go_wp2_with fail
 generalize (((w.alloc (.cells #[.slice (some ⟨g,0,none⟩) 3 cH,.slice aR W.rs.length cR,.string W.tx,.int .i64 W.rd,.bool W.en,.bool W.dn,.bool W.sn] 31)).alloc (.cells #[.int .i64 a.kd,.int .i64 a.hp,.int .i64 a.ro,.int .i64 a.pl,.int .i64 a.n,.string a.tx] 70)).alloc (.cells #[.slice none 0 0,.slice none 0 0,.string ⟨#[]⟩,.int .i64 0,.bool false,.bool false,.bool false] 31))=V at *
 have z2:=v2.lt
 refine(l16Copy W _ aR cH cR xs _ (A.L.ll.later b0) A.hs (A.R.lies.later b0) A.R.none_cap A.ok).mono ?_
 rintro e w1 ⟨v,rfl,⟨g2,h2,xs2,a2,r2,rfl,A2⟩,b1⟩
 replace v0:=(v0.later b1).alloc (.cells #[.slice (some ⟨g2,0,none⟩) 3 h2,.slice a2 W.rs.length r2,.string W.tx,.int .i64 W.rd,.bool W.en,.bool W.dn,.bool W.sn] 31)
 replace v1:=(v1.later b1).alloc (.cells #[.slice (some ⟨g2,0,none⟩) 3 h2,.slice a2 W.rs.length r2,.string W.tx,.int .i64 W.rd,.bool W.en,.bool W.dn,.bool W.sn] 31)
 replace v2:=(v2.later b1).alloc (.cells #[.slice (some ⟨g2,0,none⟩) 3 h2,.slice a2 W.rs.length r2,.string W.tx,.int .i64 W.rd,.bool W.en,.bool W.dn,.bool W.sn] 31)
 have B1:=b0.trans (b1.mono b0.size)
 have zz:=b1.size
 replace B1:=B1.alloc B1.size (.cells #[.slice (some ⟨g2,0,none⟩) 3 h2,.slice a2 W.rs.length r2,.string W.tx,.int .i64 W.rd,.bool W.en,.bool W.dn,.bool W.sn] 31)
 replace A2:=A2.later ((Below.refl _ _).alloc (Nat.le_refl _) (.cells #[.slice (some ⟨g2,0,none⟩) 3 h2,.slice a2 W.rs.length r2,.string W.tx,.int .i64 W.rd,.bool W.en,.bool W.dn,.bool W.sn] 31))
 obtain⟨V1,hV1⟩: ∃z,Hid (z=w1.alloc (.cells #[.slice (some ⟨g2,0,none⟩) 3 h2,.slice a2 W.rs.length r2,.string W.tx,.int .i64 W.rd,.bool W.en,.bool W.dn,.bool W.sn] 31)):=⟨_,rfl⟩
 have v3:Var 31 V1 w1.heap.size [.slice (some ⟨g2,0,none⟩) 3 h2,.slice a2 W.rs.length r2,.string W.tx,.int .i64 W.rd,.bool W.en,.bool W.dn,.bool W.sn]:=by rw [hV1.out];exact Var.new w1 _
 have z3:V.heap.size≤V1.heap.size:=by rw [hV1.out];simp;omega
 obtain⟨f0,f1,f2,f3,f4,f5⟩:=v1.c6
 go_wp2_with fail
 have hV1o:=hV1.out
 clear hV1
 subst hV1o
 generalize w1.alloc (.cells #[.slice (some ⟨g2,0,none⟩) 3 h2,.slice a2 W.rs.length r2,.string W.tx,.int .i64 W.rd,.bool W.en,.bool W.dn,.bool W.sn] 31)=V1 at *
 generalize w1.heap.size=k at *
 refine(l16Do (T:=31) (pre:=[]) (post:=[]) (ow:=0) (by decide) k V.heap.size W a htx _ ⟨h2,xs2,a2,r2,⟨v3.win,A2.L,A2.hs,A2.R⟩⟩ z3 ⟨by decide,by decide,by decide,by decide⟩ A2.ok).mono ?_
 rintro e w2 ⟨rfl,lay,kb⟩
 have ok2:=ok_do A2.ok a
 replace v0:=v0.same (kb.block w.heap.size (by omega) (by omega))
 replace v2:=v2.same (kb.block (w.heap.size+1+1) (by omega) (by omega))
 have B2:Below w.heap.size w w2:=B1.trans ⟨kb.os,kb.tape,kb.output,kb.size,fun i hi=>kb.block i (by omega) (by omega)⟩
 clear b0 b1 B1 v1 v3 A2 f0 f1 f2 f3 f4 f5
 obtain⟨y0,y1,y2,y3,y4,y5,y6⟩:=v2.f7
 cases hd:(doW W a).2
 ·have hh:happenW W a=(W,false):=by simp [happenW,hd]
  have HH:Hid _:=hh
  clear hh
  obtain⟨c0,c1,c2,c3,c4,c5,c6⟩:=v0.c7
  obtain⟨d0,d1,d2,d3,d4,d5,d6⟩:=v2.c7
  go_wp2_with fail
  obtain⟨WZ,hWZ⟩: ∃z,Hid (z=((((((w2.setCell ⟨w.heap.size+1+1,0,none⟩ (.slice (some ⟨g,0,none⟩) 3 cH)).setCell ⟨w.heap.size+1+1,1,none⟩ (.slice aR W.rs.length cR)).setCell ⟨w.heap.size+1+1,2,none⟩ (.string W.tx)).setCell ⟨w.heap.size+1+1,3,none⟩ (.int .i64 W.rd)).setCell ⟨w.heap.size+1+1,4,none⟩ (.bool W.en)).setCell ⟨w.heap.size+1+1,5,none⟩ (.bool W.dn)).setCell ⟨w.heap.size+1+1,6,none⟩ (.bool W.sn)):=⟨_,rfl⟩
  have ka:Draw.Kept (w.heap.size+1+1) w2 WZ:=by rw [hWZ.out];exact kept7 _ _ _ _ _ _ _ _ _
  have B3:=B2.trans (ka.below (by omega) B2.size)
  have vv:Var 31 WZ (w.heap.size+1+1) [.slice (some ⟨g,0,none⟩) 3 cH,.slice aR W.rs.length cR,.string W.tx,.int .i64 W.rd,.bool W.en,.bool W.dn,.bool W.sn]:=by rw [hWZ.out];exact var7 v2 _ _ _ _ _ _ _
  have A3:=A.later B3
  clear ka y0 y1 y2 y3 y4 y5 y6 c0 c1 c2 c3 c4 c5 c6 d0 d1 d2 d3 d4 d5 d6
  have hWZo:=hWZ.out
  clear hWZ
  subst hWZo
  generalize (((((((w2.setCell ⟨w.heap.size+1+1,0,none⟩ (.slice (some ⟨g,0,none⟩) 3 cH)).setCell ⟨w.heap.size+1+1,1,none⟩ (.slice aR W.rs.length cR)).setCell ⟨w.heap.size+1+1,2,none⟩ (.string W.tx)).setCell ⟨w.heap.size+1+1,3,none⟩ (.int .i64 W.rd)).setCell ⟨w.heap.size+1+1,4,none⟩ (.bool W.en)).setCell ⟨w.heap.size+1+1,5,none⟩ (.bool W.dn)).setCell ⟨w.heap.size+1+1,6,none⟩ (.bool W.sn))=WZ at *
  obtain⟨c0,c1,c2,c3,c4,c5,c6⟩:=vv.c7
  refine bodyPost_ret (v:=.tuple #[.agg #[.slice (some ⟨g,0,none⟩) 3 cH,.slice aR W.rs.length cR,.string W.tx,.int .i64 W.rd,.bool W.en,.bool W.dn,.bool W.sn],.bool false]) (by rw [Tak.res_cell_tmp rfl];go_simp) rfl ?_
  rw [HH.out]
  exact⟨_,rfl,⟨g,cH,xs,aR,cR,rfl,A3⟩,B3⟩
 ·have hh:happenW W a=((doW W a).1,true):=by
   have:happenW W a=doW W a:=by simp [happenW,hd]
   rw [this,←hd]
  have HH:Hid _:=hh
  clear hh
  generalize (doW W a).1=W' at *
  obtain⟨h4,xs4,a4,r4,A4⟩:=lay
  have v4:=A4.v.whole
  have A5:WAs w2 V.heap.size g2 h4 xs4 a4 r4 W':=⟨A4.L,A4.hs,A4.R,ok2⟩
  clear A4 kb
  obtain⟨c0,c1,c2,c3,c4,c5,c6⟩:=v4.c7
  obtain⟨d0,d1,d2,d3,d4,d5,d6⟩:=v2.c7
  go_wp2_with fail
  obtain⟨WZ,hWZ⟩: ∃z,Hid (z=((((((w2.setCell ⟨w.heap.size+1+1,0,none⟩ (.slice (some ⟨g2,0,none⟩) 3 h4)).setCell ⟨w.heap.size+1+1,1,none⟩ (.slice a4 W'.rs.length r4)).setCell ⟨w.heap.size+1+1,2,none⟩ (.string W'.tx)).setCell ⟨w.heap.size+1+1,3,none⟩ (.int .i64 W'.rd)).setCell ⟨w.heap.size+1+1,4,none⟩ (.bool W'.en)).setCell ⟨w.heap.size+1+1,5,none⟩ (.bool W'.dn)).setCell ⟨w.heap.size+1+1,6,none⟩ (.bool W'.sn)):=⟨_,rfl⟩
  have ka:Draw.Kept (w.heap.size+1+1) w2 WZ:=by rw [hWZ.out];exact kept7 _ _ _ _ _ _ _ _ _
  have B3:=B2.trans (ka.below (by omega) B2.size)
  have vv:Var 31 WZ (w.heap.size+1+1) [.slice (some ⟨g2,0,none⟩) 3 h4,.slice a4 W'.rs.length r4,.string W'.tx,.int .i64 W'.rd,.bool W'.en,.bool W'.dn,.bool W'.sn]:=by rw [hWZ.out];exact var7 v2 _ _ _ _ _ _ _
  have A6:=A5.keptV v2 (by decide) (by decide) (by decide) (by decide) ka
  clear ka A5 y0 y1 y2 y3 y4 y5 y6 c0 c1 c2 c3 c4 c5 c6 d0 d1 d2 d3 d4 d5 d6
  have hWZo:=hWZ.out
  clear hWZ
  subst hWZo
  generalize (((((((w2.setCell ⟨w.heap.size+1+1,0,none⟩ (.slice (some ⟨g2,0,none⟩) 3 h4)).setCell ⟨w.heap.size+1+1,1,none⟩ (.slice a4 W'.rs.length r4)).setCell ⟨w.heap.size+1+1,2,none⟩ (.string W'.tx)).setCell ⟨w.heap.size+1+1,3,none⟩ (.int .i64 W'.rd)).setCell ⟨w.heap.size+1+1,4,none⟩ (.bool W'.en)).setCell ⟨w.heap.size+1+1,5,none⟩ (.bool W'.dn)).setCell ⟨w.heap.size+1+1,6,none⟩ (.bool W'.sn))=WZ at *
  obtain⟨c0,c1,c2,c3,c4,c5,c6⟩:=vv.c7
  refine bodyPost_ret (v:=.tuple #[.agg #[.slice (some ⟨g2,0,none⟩) 3 h4,.slice a4 W'.rs.length r4,.string W'.tx,.int .i64 W'.rd,.bool W'.en,.bool W'.dn,.bool W'.sn],.bool true]) (by rw [Tak.res_cell_tmp rfl];go_simp) rfl ?_
  rw [HH.out]
  exact⟨_,rfl,⟨g2,h4,xs4,a4,r4,rfl,⟨A6.L.mono (by omega),A6.hs,A6.R.mono (by omega),A6.ok⟩⟩,B3⟩
end Go.Proofs.YtfmcahjdhoabcaaGreat.Wor
