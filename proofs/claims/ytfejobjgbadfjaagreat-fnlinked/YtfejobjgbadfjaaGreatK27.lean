/- Contracts of this seat's functions, and their mathematics (LinC WorP WorQ). -/
import Derived.Test.YtfejobjgbadfjaaGreatK18
import Derived.Test.YtfejobjgbadfjaaGreatK26
set_option linter.unusedVariables false
set_option linter.unusedSimpArgs false
set_option maxRecDepth 10000
set_option maxHeartbeats 4000000
namespace Go.Proofs.YtfejobjgbadfjaaGreat.Lin
open Go.RowKit RowG Hop
structure RL (w:World)(x:Ha):Prop where
 p:Tak.partE.Lies w x.aT x.h.t.l
 l:letE.Lies w x.aW x.h.ws
 np:x.aT=none→x.cT=0
 nl:x.aW=none→x.cW=0
structure LL (w:World)(a:Option Addr)(xs:List Ha):Prop where
 row:hopE.Lies w a xs
 rows: ∀x∈xs,RL w x
theorem RL.later {w w':World}{x:Ha}(h:RL w x)(b:Below w.heap.size w w'):RL w' x:=⟨h.p.later b,h.l.later b,h.np,h.nl⟩
theorem LL.later {w w':World}{a:Option Addr}{xs:List Ha}(h:LL w a xs)(b:Below w.heap.size w w'):LL w' a xs:=⟨h.row.later b,fun x hx=>(h.rows x hx).later b⟩
theorem LL.drew {w:World}{a:Option Addr}{xs:List Ha}(h:LL w a xs):LL w.drew a xs:=⟨h.row.drew,fun x hx=>⟨(h.rows x hx).p.drew,(h.rows x hx).l.drew,(h.rows x hx).np,(h.rows x hx).nl⟩⟩
theorem LineLay.ll {w:World}{B:Nat}{a:Option Addr}{c:Nat}{xs:List Ha}(L:LineLay w B a c xs):LL w a xs:=⟨L.row.lies,fun x hx=>⟨(L.rows x hx).p.lies,(L.rows x hx).l.lies,(L.rows x hx).p.none_cap,(L.rows x hx).l.none_cap⟩⟩
def Few (x:Ha):Prop:=x.h.t.l.length≤524288∧x.h.ws.length≤524288
structure CpW (w:World)(S0 k3:Nat)(l1 l2:List Value)(a:Option Addr)(xs:List Ha)(g' c'':Nat)(rs:List Roa.Rd)(k:Nat)(ao:Option Addr)(co:Nat)(ys:List Ha)(h:Hp)(d:Nat→Bool)(wr:World):Prop where
 v1:Var 27 wr w.heap.size l1
 v2:Var 27 wr (w.heap.size+1) l2
 L:LL wr a xs
 R:Roa.E.Own 95 wr w.heap.size (some ⟨g',0,none⟩) c'' rs
 b:Below w.heap.size w wr
 z:S0≤wr.heap.size
 old:d 9=false→LineLay wr w.heap.size ao co ys
 var:d 11=false→Var 27 wr k3 [.slice ao k co,.slice (some ⟨g',0,none⟩) rs.length c'']
 new:d 11=true→ ∃a' c' y,y.h=h∧Var 27 wr k3 [.slice a' (k+1) c',.slice (some ⟨g',0,none⟩) rs.length c'']∧LineLay wr w.heap.size a' c' (ys++[y])
def TieV (S:Nat)(h:Hp)(v:Value)(w:World):Prop:= ∃y:Ha,y.h=h∧v=.agg y.c.toArray∧Rows w S y
def TieS (S:Nat)(h:Hp)(v:Value)(w:World):Prop:= ∃(y:Ha) (m:Nat),S≤m∧y.h=h∧v=.slice (some ⟨m,0,none⟩) 1 1∧Var 47 w m y.c∧Rows w S y
def TieL (B:Nat)(n:Nat)(ys:List Ha)(h:Hp)(v:Value)(w:World):Prop:= ∃(y:Ha) (a:Option Addr) (c:Nat),y.h=h∧v=.slice a n c∧LineLay w B a c (ys++[y])
theorem TieV.later {S:Nat}{h:Hp}{v:Value}{w w':World}(t:TieV S h v w)(b:Below w.heap.size w w'):TieV S h v w':=by
 obtain⟨y,h1,h2,h3⟩:=t
 exact⟨y,h1,h2,h3.later b⟩
theorem TieS.later {S:Nat}{h:Hp}{v:Value}{w w':World}(t:TieS S h v w)(b:Below w.heap.size w w'):TieS S h v w':=by
 obtain⟨y,m,h0,h1,h2,h3,h4⟩:=t
 exact⟨y,m,h0,h1,h2,h3.later b,h4.later b⟩
theorem TieL.later {B n:Nat}{ys:List Ha}{h:Hp}{v:Value}{w w':World}(t:TieL B n ys h v w)(b:Below w.heap.size w w'):TieL B n ys h v w':=by
 obtain⟨y,a,c,h1,h2,h3⟩:=t
 exact⟨y,a,c,h1,h2,h3.later b⟩
theorem CpW.later {w:World}{S0 k3:Nat}{l1 l2:List Value}{a:Option Addr}{xs:List Ha}{g' c'':Nat}{rs:List Roa.Rd}{k:Nat}{ao:Option Addr}{co:Nat}{ys:List Ha}{h:Hp}{d d':Nat→Bool}{wr w':World}
  (q:CpW w S0 k3 l1 l2 a xs g' c'' rs k ao co ys h d wr) (b:Below wr.heap.size wr w') (h9:d' 9=d 9) (h11:d' 11=d 11):CpW w S0 k3 l1 l2 a xs g' c'' rs k ao co ys h d' w':=
 ⟨q.v1.later b,q.v2.later b,q.L.later b,q.R.later b,q.b.trans (b.mono q.b.size),Nat.le_trans q.z b.size,fun e=>(q.old (h9▸e)).later b,fun e=>(q.var (h11▸e)).later b,fun e=>by
  obtain⟨a',c',y,h1,h2,h3⟩:=q.new (h11▸e)
  exact⟨a',c',y,h1,h2.later b,h3.later b⟩⟩
theorem LineLay.snoc {w w':World}{B S:Nat}{ao a':Option Addr}{co c':Nat}{ys:List Ha}{y:Ha}(L:LineLay w B ao co ys)(o:hopE.Own 47 w' B a' c' (ys++[y]))(g:w.grownBy w' (blk ao))(R:Rows w S y)(hS:B≤S)(hy: ∀z∈ys,∀p,z.aW=some p→p.block<S):LineLay w' B a' c' (ys++[y]):=by
 have hne: ∀ {α:Type} {E:El α} {T:TypeId} {B' c:Nat} {a:Option Addr} {l:List α},T≠47→E.Own T w B' a c l→E.Own T w' B' a c l:=by
  intro α E T B' c a l hT h
  refine h.grown g (fun x hx e=>?_)
  cases hao:ao with
  | none=>rw [hao]at e;cases e
  | some p=>
   rw [hao]at e
   simp only [blk,Option.map_some,Option.some.injEq]at e
   obtain⟨cs,h1⟩:=own_row h x hx
   obtain⟨cs',h2⟩:=own_row L.row p hao
   rw [e]at h1
   rw [h1]at h2
   injection h2 with h2
   injection h2 with _ h3 _
   exact hT h3
 refine⟨o,fun x hx=>?_,?_⟩
 ·rcases List.mem_append.1 hx with hx|hx
  ·exact⟨hne (by decide) (L.rows x hx).p,hne (by decide) (L.rows x hx).l⟩
  ·obtain rfl:x=y:=by simpa using hx
   exact⟨(hne (by decide) R.p).mono hS,(hne (by decide) R.l).mono hS⟩
 ·have key: ∀z∈ys,Off z y∧Off y z:=by
   intro z hz
   have:Off z y:=fun p q hp hq=>by
    have h1:=hy z hz p hp
    have h2:=(R.l.lt q hq).1
    omega
   exact⟨this,fun p q hp hq=>Ne.symm (this q p hq hp)⟩
  intro i j x z hij hx hz
  rcases Nat.lt_or_ge i ys.length with hi|hi <;>rcases Nat.lt_or_ge j ys.length with hj|hj
  ·rw [List.getElem?_append_left hi]at hx
   rw [List.getElem?_append_left hj]at hz
   exact L.off i j x z hij hx hz
  ·rw [List.getElem?_append_left hi]at hx
   rw [List.getElem?_append_right hj]at hz
   obtain rfl:z=y:=by
    rcases Nat.eq_zero_or_pos (j-ys.length)with e|e
    ·rw [e]at hz;simpa using hz.symm
    ·rw [List.getElem?_eq_none (by simp;omega)]at hz;cases hz
   exact(key x (List.mem_of_getElem? hx)).1
  ·rw [List.getElem?_append_right hi]at hx
   rw [List.getElem?_append_left hj]at hz
   obtain rfl:x=y:=by
    rcases Nat.eq_zero_or_pos (i-ys.length)with e|e
    ·rw [e]at hx;simpa using hx.symm
    ·rw [List.getElem?_eq_none (by simp;omega)]at hx;cases hx
   exact(key z (List.mem_of_getElem? hz)).2
  ·rw [List.getElem?_append_right hi]at hx
   rw [List.getElem?_append_right hj]at hz
   have h1:=(List.getElem?_eq_some_iff.1 hx).1
   have h2:=(List.getElem?_eq_some_iff.1 hz).1
   simp at h1 h2
   omega
theorem LineLay.keptV {T:TypeId}{w w':World}{B k:Nat}{a:Option Addr}{c:Nat}{xs:List Ha}{vs:List Value}(L:LineLay w B a c xs)(v:Var T w k vs)(h1:T≠47)(h2:T≠123)(h3:T≠75)(b:Draw.Kept k w w'):LineLay w' B a c xs:=
 ⟨L.row.kept b (own_win h1 L.row v.win),fun x hx=>⟨(L.rows x hx).p.kept b (own_win h2 (L.rows x hx).p v.win),(L.rows x hx).l.kept b (own_win h3 (L.rows x hx).l v.win)⟩,L.off⟩
theorem lies_var {w:World}{m:Nat}{y:Ha}(v:Var 47 w m y.c):hopE.Lies w (some ⟨m,0,none⟩) [y]:=by
 refine .inr ⟨m,0,rfl,fun j u hu=>?_⟩
 rw [El.vals_one]at hu
 rw [Nat.zero_add]
 exact v.cell hu
theorem or_ne {d:Nat→Bool}{n q:Nat}(h:n≠q):(n==q||d n)=d n:=by simp [h]
theorem LineLay.nil (w:World)(B:Nat):LineLay w B none 0 []:=⟨El.Own.none _ _,(fun x hx=>by simp at hx),(fun i j x y _ hx=>by simp at hx)⟩
theorem infoHop2:(Tryz.prog.info? 47).map (·.size)=some 13:=by kernel_rfl
theorem structHop2: ∃fs,Tryz.prog.underlying 47=some (.struct fs):=⟨_,Tryz.underlying47⟩
theorem l13Copy (a aR:Option Addr)(n m cH cR:Nat)(xs:List Ha)(rs:List Roa.Rd)(w:World)(hn:n=xs.length)(hm:m=rs.length)(L:LL w a xs)(R:Roa.E.Lies w aR rs)(hR:aR=none→cR=0)(hl:xs.length≤1000)(hr:rs.length≤1000)(hf: ∀x∈xs,Few x):
  Calls Tryz.prog 47 #[.agg #[.slice a n cH,.slice aR m cR]] w fun e w'=> ∃a' c' ys g' c'',e=.returned (.agg #[.slice a' n c',.slice (some ⟨g',0,none⟩) m c''])∧LineLay w' w.heap.size a' c' ys∧ys.map (·.h)=xs.map (·.h)∧Roa.E.Own 95 w' w.heap.size (some ⟨g',0,none⟩) c'' rs∧Below w.heap.size w w':=by
 subst hn hm
 have hmix:=Roa.mix
 have v1:Var 27 ((w.alloc (.cells #[.slice a xs.length cH,.slice aR rs.length cR] 27)).alloc (.cells #[.slice none 0 0,.slice none 0 0] 27)) w.heap.size [.slice a xs.length cH,.slice aR rs.length cR]:=(Var.new w _).alloc _
 have v2:Var 27 ((w.alloc (.cells #[.slice a xs.length cH,.slice aR rs.length cR] 27)).alloc (.cells #[.slice none 0 0,.slice none 0 0] 27)) (w.heap.size+1) [.slice none 0 0,.slice none 0 0]:=by
  have q:=Var.new (T:=27) (w.alloc (.cells #[.slice a xs.length cH,.slice aR rs.length cR] 27)) [.slice none 0 0,.slice none 0 0]
  simpa using q
 have b0:Below w.heap.size w ((w.alloc (.cells #[.slice a xs.length cH,.slice aR rs.length cR] 27)).alloc (.cells #[.slice none 0 0,.slice none 0 0] 27)):=((Below.refl _ _).alloc (Nat.le_refl _) _).alloc (by simp) _
 go_enter Tryz.func47,Tryz.ntmps47
 go_wp2_with fail
 generalize (w.alloc (.cells #[.slice a xs.length cH,.slice aR rs.length cR] 27)).alloc (.cells #[.slice none 0 0,.slice none 0 0] 27)=V at *
 have v2V:=v2.lt
 refine(Roa.l10Copy _ _ _ rs _ rfl (R.later b0) hR (by omega)).mono ?_
 rintro e w1 ⟨g',c'',rfl,oR,b1⟩
 replace v1:=v1.later b1
 replace v2:=v2.later b1
 have B1:=b0.trans (b1.mono b0.size)
 have hV:w.heap.size+1<V.heap.size:=v2V
 clear b0 b1
 have v3:Var 27 (w1.alloc (.cells #[.slice none 0 0,.slice (some ⟨g',0,none⟩) rs.length c''] 27)) w1.heap.size [.slice none 0 0,.slice (some ⟨g',0,none⟩) rs.length c'']:=Var.new w1 _
 have R1:=(El.Own.mono (E:=Roa.E) oR (Nat.le_of_lt (Nat.lt_of_lt_of_le (Nat.lt_succ_self _) (Nat.le_of_lt hV)))).alloc (.cells #[.slice none 0 0,.slice (some ⟨g',0,none⟩) rs.length c''] 27)
 have b2:=B1.alloc B1.size (.cells #[.slice none 0 0,.slice (some ⟨g',0,none⟩) rs.length c''] 27)
 replace v1:=v1.alloc (.cells #[.slice none 0 0,.slice (some ⟨g',0,none⟩) rs.length c''] 27)
 have hk2:=v2.lt
 replace v2:=v2.alloc (.cells #[.slice none 0 0,.slice (some ⟨g',0,none⟩) rs.length c''] 27)
 go_wp2_with fail
 generalize w1.alloc (.cells #[.slice none 0 0,.slice (some ⟨g',0,none⟩) rs.length c''] 27)=V3 at *
 generalize w1.heap.size=k3 at *
 clear B1 oR
 go_loopw [4] (fun iv wr=> ∃(k co:Nat) (ao:Option Addr) (ys:List Ha),k≤xs.length∧iv=.int .i64 k∧Hid (ys.map (·.h)=(xs.take k).map (·.h))∧Var 27 wr w.heap.size [.slice a xs.length cH,.slice aR rs.length cR]∧Var 27 wr (w.heap.size+1) [.slice none 0 0,.slice none 0 0]∧Var 27 wr k3 [.slice ao k co,.slice (some ⟨g',0,none⟩) rs.length c'']∧LineLay wr w.heap.size ao co ys∧Roa.E.Own 95 wr w.heap.size (some ⟨g',0,none⟩) c'' rs∧Below w.heap.size w wr) (fun iv _=>xs.length-(intOf iv).toNat)
 case atStart=>exact⟨0,0,none,[],by omega,rfl,rfl,v1,v2,v3,LineLay.nil _ _,R1,b2⟩
 case round=>
  clear v1 v2 v3 R1 b2
  obtain⟨k,co,ao,ys,hk,rfl,hmap,v1,v2,v3,L1,R1,B1⟩:=hrel
  have e1:=v1.cell (i:=0) rfl
  by_cases hkx:k<xs.length
  ·have i0:(k:Int)<(xs.length:Int):=by omega
   have i1:(0:Int)≤(k:Int):=by omega
   obtain⟨x0,hx⟩: ∃x,xs[k]? =some x:=⟨xs[k],List.getElem?_eq_getElem hkx⟩
   have hxm:=List.mem_of_getElem? hx
   have Lw:=L.later B1
   obtain⟨b,off,rfl⟩: ∃b off,a=some ⟨b,off,none⟩:=by
    rcases Lw.row with hs|⟨b,off,rfl,_⟩
    ·simp [hs]at hkx
    ·exact⟨b,off,rfl⟩
   have hkl:Hid (k=ys.length):=by
    show _=_
    have:=congrArg List.length hmap.out
    simp at this
    omega
   obtain⟨S0,hS0,hS1,hS2,hys⟩: ∃S0,S0≤wr.drew.heap.size∧k3<S0∧w.heap.size≤S0∧ ∀z∈ys,∀p,z.aW=some p→p.block<S0:=⟨wr.heap.size,Nat.le_refl _,v3.lt,B1.size,fun z hz p hp=>((L1.rows z hz).l.lt p hp).2⟩
   have hst: ∀q∈([(7,8,TieV S0 x0.h),(8,9,TieS S0 x0.h),(9,11,TieL w.heap.size (k+1) ys x0.h)]:List RegJ.Tie),∀v (w1 w2:World),Below w1.heap.size w1 w2→q.2.2 v w1→q.2.2 v w2:=by
    intro q hq v wa wb ba h
    simp only [List.mem_cons,List.not_mem_nil,or_false]at hq
    rcases hq with rfl|rfl|rfl
    ·exact TieV.later h ba
    ·exact TieS.later h ba
    ·exact TieL.later h ba
   have keepW: ∀(q:Nat) (d:Nat→Bool) (w':World),CpW w S0 k3 [.slice (some ⟨b,off,none⟩) xs.length cH,.slice aR rs.length cR] [.slice none 0 0,.slice none 0 0] (some ⟨b,off,none⟩) xs g' c'' rs k ao co ys x0.h d w'→q≠9∧q≠11→CpW w S0 k3 [.slice (some ⟨b,off,none⟩) xs.length cH,.slice aR rs.length cR] [.slice none 0 0,.slice none 0 0] (some ⟨b,off,none⟩) xs g' c'' rs k ao co ys x0.h (fun j=>j==q||d j) w':=fun q d w' h hq=>h.later (Below.refl _ _) (or_ne (Ne.symm hq.1)) (or_ne (Ne.symm hq.2))
   go_wp2_with fail
   refine RegJ.wp_region_J (W:=CpW w S0 k3 [.slice (some ⟨b,off,none⟩) xs.length cH,.slice aR rs.length cR] [.slice none 0 0,.slice none 0 0] (some ⟨b,off,none⟩) xs g' c'' rs k ao co ys x0.h) (RegJ.ValP [some (.pointer (some ⟨k3,0,none⟩)),some (.slice ao k co),some (.pointer (some ⟨w.heap.size,0,none⟩)),some (.slice (some ⟨b,off,none⟩) xs.length cH),some (.int .i64 (k:Int)),some (.pointer (some ⟨b,off+k*13,none⟩)),some (x0.h.v x0.aT x0.cT x0.aW x0.cW),none,none,none,some (.pointer (some ⟨k3,0,none⟩)),none] ([(7,8,TieV S0 x0.h),(8,9,TieS S0 x0.h),(9,11,TieL w.heap.size (k+1) ys x0.h)])) [some 16,some 17,some 18,some 19,some 20,some 21,some 22,some 23,some 24,some 25,some 26,none] (F:=?_) (is:=[0,1,2,3,4,5,6,7,8,9,10,11]) hmix (by kernel_rfl) (by kernel_rfl) (by kernel_rfl) (by kernel_rfl) (fun x=>?_) (⟨v1.drew,v2.drew,Lw.drew,R1.drew,B1.drew,hS0,fun _=>L1.drew,fun _=>v3.drew,fun e=>by cases e⟩) ?_ (fun dR xR wR hWR hdR hJR=>?_)
   rotate_left 1
   focus (simp only [RegJ.lay,Act.put,Nat.reduceAdd,Nat.zero_add,Draw.lays];rfl)
   focus
    iterate 12 (refine RegJ.Steps.cons (RegJ.StepAt.mk rfl (fun d x w1 hW1 hJ1 hx1 K hK=>?_)) ?_;simp only [Draw.lays]at hK;rotate_left 1)
    exact RegJ.Steps.nil
    ·go_simp;exact hK.out _ _ (keepW 0 d _ hW1 (by decide)) RegJ.ValP.same (RegJ.ValP.free (Or.inl rfl) rfl)
    ·have j0:x 0=_:=(hJ1.out 0 (by kernel_rfl)).val rfl;rw [j0]at hK;have c0:=(hW1.var (hx1.out 11 (.inr (by kernel_rfl))).1).cell (i:=0) rfl;go_simp;exact hK.out _ _ (keepW 1 d _ hW1 (by decide)) RegJ.ValP.same (RegJ.ValP.free (Or.inl rfl) rfl)
    ·go_simp;exact hK.out _ _ (keepW 2 d _ hW1 (by decide)) RegJ.ValP.same (RegJ.ValP.free (Or.inl rfl) rfl)
    ·have j2:x 2=_:=(hJ1.out 2 (by kernel_rfl)).val rfl;rw [j2]at hK;have c0:=hW1.v1.cell (i:=0) rfl;go_simp;exact hK.out _ _ (keepW 3 d _ hW1 (by decide)) RegJ.ValP.same (RegJ.ValP.free (Or.inl rfl) rfl)
    ·go_simp;exact hK.out _ _ (keepW 4 d _ hW1 (by decide)) RegJ.ValP.same (RegJ.ValP.free (Or.inl rfl) rfl)
    ·have j3:x 3=_:=(hJ1.out 3 (by kernel_rfl)).val rfl;rw [j3]at hK;have j4:x 4=_:=(hJ1.out 4 (by kernel_rfl)).val rfl;rw [j4]at hK;go_simp;exact hK.out _ _ (keepW 5 d _ hW1 (by decide)) RegJ.ValP.same (RegJ.ValP.free (Or.inl rfl) rfl)
    ·have j5:x 5=_:=(hJ1.out 5 (by kernel_rfl)).val rfl;exact step_load_cells (by rfl) _ (by rfl) (by exact j5) (vs:=x0.c) infoHop2 structHop2 (El.Lies.cells hW1.L.row hx) (hK.out _ _ (keepW 6 d _ hW1 (by decide)) RegJ.ValP.same (RegJ.ValP.free (Or.inl rfl) rfl))
    ·obtain⟨q1,q2,qL,qR,qb,qz,qo,qv,qn⟩:=id hW1;have j6:x 6=_:=(hJ1.out 6 (by kernel_rfl)).val rfl;rw [j6]at hK;go_simp;refine(Hop.l7Copy x0.h x0.aT x0.cT x0.aW x0.cW _ (qL.rows x0 hxm).p (qL.rows x0 hxm).l (qL.rows x0 hxm).np (qL.rows x0 hxm).nl (hf x0 hxm).1 (hf x0 hxm).2).mono ?_;rintro e wa ⟨aT,cT,aW,cW,rfl,oT,oW,ba⟩;go_simp;exact hK.out _ _ (hW1.later ba rfl rfl) (RegJ.ValP.keep (fun q hq=>.inr (.inr (.inr fun v h=>hst q hq v _ _ ba h)))) (RegJ.ValP.this (Or.inr rfl) (by intro q hq he;simp only [List.mem_cons,List.not_mem_nil,or_false]at hq;rcases hq with rfl|rfl|rfl;exact⟨⟨x0.h,aT,cT,aW,cW⟩,rfl,rfl,oT.mono qz,oW.mono qz⟩;cases he;cases he))
    ·obtain⟨y,hy,j7,Ry⟩:=(hJ1.out 7 (by kernel_rfl)).tie (7,8,TieV S0 x0.h) (by simp) rfl (hx1.out 8 (.inl rfl)).1;have HY:Hid (y.h=x0.h):=hy;clear hy;rw [j7]at hK;go_simp;have ba:=(Below.refl w1.heap.size w1).alloc (Nat.le_refl _) (.cells y.c.toArray 47);exact hK.out _ _ (hW1.later ba rfl rfl) (RegJ.ValP.keep (fun q hq=>.inr (.inr (.inr fun v h=>hst q hq v _ _ ba h)))) (RegJ.ValP.this (Or.inr rfl) (by intro q hq he;simp only [List.mem_cons,List.not_mem_nil,or_false]at hq;rcases hq with rfl|rfl|rfl;cases he;exact⟨y,w1.heap.size,hW1.z,HY.out,rfl,Var.new _ _,Ry.later ba⟩;cases he))
    ·obtain⟨q1,q2,qL,qR,qb,qz,qo,qv,qn⟩:=id hW1;have j1:x 1=_:=(hJ1.out 1 (by kernel_rfl)).val rfl;obtain⟨y,m,hm,hy,j8,vy,Ry⟩:=(hJ1.out 8 (by kernel_rfl)).tie (8,9,TieS S0 x0.h) (by simp) rfl (hx1.out 9 (.inl rfl)).1;have Lo:=qo (hx1.out 9 (.inl rfl)).1;have Vo:=qv (hx1.out 11 (.inr (by kernel_rfl))).1;refine step_app typ (by decide) (by rfl) _ _ (by rfl) w.heap.size ao co k ys [y] hkl.out (by exact j1) Lo.row qb.size (some ⟨m,0,none⟩) 1 1 rfl (by exact j8) (lies_var vy) (fun e=>by cases e) (by rw [←hkl.out];simp;omega) ?_;intro a' c' wa oa ga;have La:=Lo.snoc oa ga Ry (by omega) hys;have hgk: ∀g,blk ao=some g→w.heap.size≤g:=blk_ge Lo.row;have ba:=grown_below qb (Nat.le_refl _) hgk ga;have nv: ∀ {T:TypeId} {kk:Nat} {vs:List Value},T≠47→Var T w1 kk vs→Var T wa kk vs:=(fun {T kk vs} hT v=>v.grown ga (fun g hg e=>by cases hao:ao with|none=>rw [hao]at hg;cases hg|some p=>(rw [hao]at hg;cases hg;exact own_win hT Lo.row v.win p hao e.symm)));exact hK.out _ _ ⟨nv (by decide) q1,nv (by decide) q2,L.later ba,qR.grown ga (fun y' hy' e=>by cases hao:ao with|none=>rw [hao]at e;cases e|some p=>(rw [hao]at e;simp only [blk,Option.map_some,Option.some.injEq]at e;cases hy';exact own_two (by decide) qR Lo.row _ rfl (by rw [hao];simp only [blk,Option.map_some,Option.some.injEq];exact e))),ba,Nat.le_trans qz ga.size,fun e=>absurd e (by simp),fun e=>nv (by decide) (qv (by simpa using e)),fun e=>absurd e (by simp [(hx1.out 11 (.inr (by kernel_rfl))).1])⟩ (RegJ.ValP.keep (by intro q hq;simp only [List.mem_cons,List.not_mem_nil,or_false]at hq;rcases hq with rfl|rfl|rfl;exact .inr (.inr (.inl (hJ1.out 8 (by kernel_rfl)).done));exact .inr (.inl rfl);exact .inl rfl)) (RegJ.ValP.this (Or.inr rfl) (by intro q hq he;simp only [List.mem_cons,List.not_mem_nil,or_false]at hq;rcases hq with rfl|rfl|rfl;cases he;cases he;exact⟨y,a',c',hy,rfl,La⟩))
    ·go_simp;exact hK.out _ _ (keepW 10 d _ hW1 (by decide)) RegJ.ValP.same (RegJ.ValP.free (Or.inl rfl) rfl)
    ·obtain⟨q1,q2,qL,qR,qb,qz,qo,qv,qn⟩:=id hW1;have j10:x 10=_:=(hJ1.out 10 (by kernel_rfl)).val rfl;rw [j10]at hK;obtain⟨y,a',c',hy,j9,La⟩:=(hJ1.out 9 (by kernel_rfl)).tie (9,11,TieL w.heap.size (k+1) ys x0.h) (by simp) rfl (hx1.out 11 (.inl rfl)).1;have HY:Hid (y.h=x0.h):=hy;clear hy;rw [j9]at hK;have Vo:=qv (hx1.out 11 (.inl rfl)).1;have c0:=Vo.cell (i:=0) rfl;have f0:=Vo.free 0;go_simp;have ka:Draw.Kept k3 w1 (w1.setCell ⟨k3,0,none⟩ (.slice a' (k+1) c')):=(Draw.Kept.refl _ _).setCell (p:=⟨k3,0,none⟩) (.inl rfl) _;have ba:=qb.trans (ka.below (by omega) qb.size);exact hK.out undef _ ⟨q1.kept ka (by omega),q2.kept ka (by omega),L.later ba,qR.kept ka (own_win (by decide) qR Vo.win),ba,Nat.le_trans qz ka.size,fun e=>absurd e (by simp [(hJ1.out 9 (by kernel_rfl)).done]),fun e=>absurd e (by simp),fun _=>⟨a',c',y,HY.out,Vo.set 0 _,La.keptV Vo (by decide) (by decide) (by decide) ka⟩⟩ (RegJ.ValP.keep (by intro q hq;simp only [List.mem_cons,List.not_mem_nil,or_false]at hq;rcases hq with rfl|rfl|rfl;exact .inr (.inr (.inl (hJ1.out 8 (by kernel_rfl)).done));exact .inr (.inr (.inl (hJ1.out 9 (by kernel_rfl)).done));exact .inr (.inl rfl))) (RegJ.ValP.free (Or.inr rfl) rfl)
   obtain⟨a',c',y,hy,v3',L3⟩:=hWR.new (hdR 11 (by simp))
   have hmap':(ys++[y]).map (·.h)=(xs.take (k+1)).map (·.h):=by
    rw [List.map_append,hmap.out,List.take_add_one,hx,List.map_append]
    simp [hy]
   have q1:=hWR.v1
   have q2:=hWR.v2
   have qR:=hWR.R
   have qb:=hWR.b
   clear hWR hJR hdR hst keepW v1 v2 v3 L1 R1 B1 e1 hmap
   have HM:Hid _:=hmap'
   clear hmap'
   go_wp2_with fail
   go_roundw
   case rel=>exact⟨k+1,c',a',ys++[y],by omega,by simp,HM.out,q1,q2,v3',L3,qR,qb⟩
   case measure=>simp [intOf];omega
  ·obtain rfl:k=xs.length:=by omega
   have i0: ¬(xs.length:Int)<(xs.length:Int):=by omega
   have f0:=v2.free 0
   have f1:=v2.free 1
   have z0:=v2.cell (i:=0) rfl
   have z1:=v2.cell (i:=1) rfl
   have y0:=v3.cell (i:=0) rfl
   have y1:=v3.cell (i:=1) rfl
   have ka:Draw.Kept (w.heap.size+1) wr ((wr.setCell ⟨w.heap.size+1,0,none⟩ (.slice ao xs.length co)).setCell ⟨w.heap.size+1,1,none⟩ (.slice (some ⟨g',0,none⟩) rs.length c'')):=((Draw.Kept.refl _ _).setCell (p:=⟨w.heap.size+1,0,none⟩) (.inl rfl) _).setCell (p:=⟨w.heap.size+1,1,none⟩) (.inl rfl) _
   have LZ:=L1.keptV v2 (by decide) (by decide) (by decide) ka
   have RZ:=R1.kept ka (own_win (by decide) R1 v2.win)
   have BZ:=B1.trans (ka.below (by omega) B1.size)
   have hm:=hmap.out
   rw [List.take_length]at hm
   have HM:Hid _:=hm
   clear hmap hm
   go_wp2_with fail
   refine bodyPost_ret (v:=.agg #[.slice ao xs.length co,.slice (some ⟨g',0,none⟩) rs.length c'']) (by rw [Hop.res_one rfl];go_simp) rfl ⟨ao,co,ys,g',c'',rfl,LZ,HM.out,RZ,BZ⟩
end Go.Proofs.YtfejobjgbadfjaaGreat.Lin
namespace Go.Proofs.YtfejobjgbadfjaaGreat.Wor
open Go.RowKit RowG Hop Roa Pum Lin
abbrev Wd.c (W:Wd)(aH:Option Addr)(n cH:Nat)(aR:Option Addr)(m cR:Nat):List Value:=[.slice aH n cH,.slice aR m cR,.string W.tx,.int .i64 W.rd,.bool W.en,.bool W.dn,.bool W.sn]
structure WAs (w:World)(B g cH:Nat)(xs:List Ha)(aR:Option Addr)(cR:Nat)(W:Wd):Prop where
 L:LineLay w B (some ⟨g,0,none⟩) cH xs
 hs:xs.map (·.h)=W.hs
 R:Roa.E.Own 95 w B aR cR W.rs
 ok:okW W=true
def WHold (w:World)(B:Nat)(v:Value)(W:Wd):Prop:= ∃g cH xs aR cR,v=.agg #[.slice (some ⟨g,0,none⟩) 3 cH,.slice aR W.rs.length cR,.string W.tx,.int .i64 W.rd,.bool W.en,.bool W.dn,.bool W.sn]∧WAs w B g cH xs aR cR W
theorem WAs.later {w w':World}{B g cH:Nat}{xs:List Ha}{aR:Option Addr}{cR:Nat}{W:Wd}(h:WAs w B g cH xs aR cR W)(b:Below w.heap.size w w'):WAs w' B g cH xs aR cR W:=⟨h.L.later b,h.hs,h.R.later b,h.ok⟩
theorem WHold.later {w w':World}{B:Nat}{v:Value}{W:Wd}(h:WHold w B v W)(b:Below w.heap.size w w'):WHold w' B v W:=by
 obtain⟨g,cH,xs,aR,cR,h1,h2⟩:=h
 exact⟨g,cH,xs,aR,cR,h1,h2.later b⟩
theorem WAs.len {w:World}{B g cH:Nat}{xs:List Ha}{aR:Option Addr}{cR:Nat}{W:Wd}(h:WAs w B g cH xs aR cR W):xs.length=3:=by
 have:=congrArg List.length h.hs
 rw [List.length_map,(hops_iff.1 (ok_parts.1 h.ok).1).1]at this
 exact this
theorem few_of {W:Wd}(ok:okW W=true){xs:List Ha}(h:xs.map (·.h)=W.hs): ∀x∈xs,Few x:=by
 intro x hx
 have hm:x.h∈W.hs:=by rw [←h];exact List.mem_map_of_mem hx
 obtain⟨i,hi,he⟩:=List.getElem_of_mem hm
 have h3:=hops_iff.1 (ok_parts.1 ok).1
 have hb:=(h3.2.2 i (by omega)).1
 have e:W.hs.getD i zeroH=x.h:=by rw [List.getD_eq_getElem?_getD,List.getElem?_eq_getElem hi,he];rfl
 rw [e]at hb
 have hs:=sm_ok hb
 exact⟨hs.tl,hs.wl⟩
def TieW (B:Nat)(W:Wd)(v:Value)(w:World):Prop:= ∃g cH xs aR cR,v=.agg #[.slice (some ⟨g,0,none⟩) 3 cH,.slice aR W.rs.length cR]∧WAs w B g cH xs aR cR W
theorem TieW.later {B:Nat}{W:Wd}{v:Value}{w w':World}(t:TieW B W v w)(b:Below w.heap.size w w'):TieW B W v w':=by
 obtain⟨g,cH,xs,aR,cR,h1,h2⟩:=t
 exact⟨g,cH,xs,aR,cR,h1,h2.later b⟩
structure CoW (w:World)(l1:List Value)(W:Wd)(d:Nat→Bool)(wr:World):Prop where
 v1:Var 33 wr w.heap.size l1
 b:Below w.heap.size w wr
 var:d 6=false→Var 33 wr (w.heap.size+1) [.slice none 0 0,.slice none 0 0,.string ⟨#[]⟩,.int .i64 0,.bool false,.bool false,.bool false]
 new:d 6=true→ ∃g cH xs aR cR,Var 33 wr (w.heap.size+1) [.slice (some ⟨g,0,none⟩) 3 cH,.slice aR W.rs.length cR,.string W.tx,.int .i64 W.rd,.bool W.en,.bool W.dn,.bool W.sn]∧WAs wr w.heap.size g cH xs aR cR W
theorem CoW.later {w:World}{l1:List Value}{W:Wd}{d d':Nat→Bool}{wr w':World}(q:CoW w l1 W d wr)(b:Below wr.heap.size wr w')(h6:d' 6=d 6):CoW w l1 W d' w':=
 ⟨q.v1.later b,q.b.trans (b.mono q.b.size),fun e=>(q.var (h6▸e)).later b,fun e=>by
  obtain⟨g,cH,xs,aR,cR,h1,h2⟩:=q.new (h6▸e)
  exact⟨g,cH,xs,aR,cR,h1.later b,h2.later b⟩⟩
theorem WAs.keptV {T:TypeId}{w w':World}{B k g cH:Nat}{xs:List Ha}{aR:Option Addr}{cR:Nat}{W:Wd}{vs:List Value}(h:WAs w B g cH xs aR cR W)(v:Var T w k vs)(h1:T≠47)(h2:T≠123)(h3:T≠75)(h4:T≠95)(b:Draw.Kept k w w'):WAs w' B g cH xs aR cR W:=
 ⟨h.L.keptV v h1 h2 h3 b,h.hs,h.R.kept b (own_win h4 h.R v.win),h.ok⟩
theorem roads_len {l:List Rd}(h:roadsB l=true):1≤l.length∧l.length≤4:=by
 simp [roadsB]at h
 omega
theorem infoWorld:(Tryz.prog.info? 33).map (·.size)=some 7:=by kernel_rfl
theorem structWorld: ∃fs,Tryz.prog.underlying 33=some (.struct fs):=⟨_,Tryz.underlying33⟩
theorem Wone (W:Wd)(g cH:Nat)(aR:Option Addr)(cR:Nat): ∀v∈ [Value.slice (some ⟨g,0,none⟩) 3 cH,.slice aR W.rs.length cR,.string W.tx,.int .i64 W.rd,.bool W.en,.bool W.dn,.bool W.sn],v.oneCell'=true:=by
 intro u hu
 simp only [List.mem_cons,List.not_mem_nil,or_false]at hu
 rcases hu with rfl|rfl|rfl|rfl|rfl|rfl|rfl <;>rfl
theorem l16Copy (W:Wd)(aH aR:Option Addr)(cH cR:Nat)(xs:List Ha)(w:World)(L:LL w aH xs)(hs:xs.map (·.h)=W.hs)(R:Roa.E.Lies w aR W.rs)(hR:aR=none→cR=0)(ok:okW W=true):
  Calls Tryz.prog 29 #[.agg #[.slice aH 3 cH,.slice aR W.rs.length cR,.string W.tx,.int .i64 W.rd,.bool W.en,.bool W.dn,.bool W.sn]] w fun e w'=> ∃v,e=.returned v∧WHold w' w.heap.size v W∧Below w.heap.size w w':=by
 have hmix:=Roa.mix
 have few:=few_of ok hs
 have hl3:Hid (xs.length=3):=by
  show _=_
  have:=congrArg List.length hs
  rw [List.length_map,(hops_iff.1 (ok_parts.1 ok).1).1]at this
  exact this
 have hr:W.rs.length≤1000:=by
  have:=(hops_iff.1 (ok_parts.1 ok).1).2.1
  have:=roads_len this
  omega
 have tie: ∀ {wa:World} {a':Option Addr} {c':Nat} {ys:List Ha} {g' c'' B:Nat},LineLay wa B a' c' ys→ys.map (·.h)=xs.map (·.h)→Roa.E.Own 95 wa B (some ⟨g',0,none⟩) c'' W.rs→w.heap.size≤B→TieW w.heap.size W (.agg #[.slice a' 3 c',.slice (some ⟨g',0,none⟩) W.rs.length c'']) wa:=by
  intro wa a' c' ys g' c'' B La hma Ra hB
  rcases La.row.form with⟨_,_,h0⟩|⟨g,rfl,_⟩
  ·rw [h0]at hma
   have:=congrArg List.length hma
   simp [hl3.out]at this
  ·exact⟨g,c',ys,_,c'',rfl,La.mono hB,hma.trans hs,Ra.mono hB,ok⟩
 have v1:Var 33 ((w.alloc (.cells #[.slice aH 3 cH,.slice aR W.rs.length cR,.string W.tx,.int .i64 W.rd,.bool W.en,.bool W.dn,.bool W.sn] 33)).alloc (.cells #[.slice none 0 0,.slice none 0 0,.string ⟨#[]⟩,.int .i64 0,.bool false,.bool false,.bool false] 33)) w.heap.size [.slice aH 3 cH,.slice aR W.rs.length cR,.string W.tx,.int .i64 W.rd,.bool W.en,.bool W.dn,.bool W.sn]:=(Var.new w _).alloc _
 have v2:Var 33 ((w.alloc (.cells #[.slice aH 3 cH,.slice aR W.rs.length cR,.string W.tx,.int .i64 W.rd,.bool W.en,.bool W.dn,.bool W.sn] 33)).alloc (.cells #[.slice none 0 0,.slice none 0 0,.string ⟨#[]⟩,.int .i64 0,.bool false,.bool false,.bool false] 33)) (w.heap.size+1) [.slice none 0 0,.slice none 0 0,.string ⟨#[]⟩,.int .i64 0,.bool false,.bool false,.bool false]:=by
  have q:=Var.new (T:=33) (w.alloc (.cells #[.slice aH 3 cH,.slice aR W.rs.length cR,.string W.tx,.int .i64 W.rd,.bool W.en,.bool W.dn,.bool W.sn] 33)) [.slice none 0 0,.slice none 0 0,.string ⟨#[]⟩,.int .i64 0,.bool false,.bool false,.bool false]
  simpa using q
 have b0:Below w.heap.size w ((w.alloc (.cells #[.slice aH 3 cH,.slice aR W.rs.length cR,.string W.tx,.int .i64 W.rd,.bool W.en,.bool W.dn,.bool W.sn] 33)).alloc (.cells #[.slice none 0 0,.slice none 0 0,.string ⟨#[]⟩,.int .i64 0,.bool false,.bool false,.bool false] 33)):=((Below.refl _ _).alloc (Nat.le_refl _) _).alloc (by simp) _
 have hst: ∀q∈([(2,5,TieW w.heap.size W),(5,6,fun v w'=>WHold w' w.heap.size v W)]:List RegJ.Tie),∀v (w1 w2:World),Below w1.heap.size w1 w2→q.2.2 v w1→q.2.2 v w2:=by
  intro q hq v wa wb ba h
  simp only [List.mem_cons,List.not_mem_nil,or_false]at hq
  rcases hq with rfl|rfl
  ·exact TieW.later h ba
  ·exact WHold.later h ba
 have keepW: ∀(q:Nat) (d:Nat→Bool) (w':World),CoW w [.slice aH 3 cH,.slice aR W.rs.length cR,.string W.tx,.int .i64 W.rd,.bool W.en,.bool W.dn,.bool W.sn] W d w'→q≠6→CoW w [.slice aH 3 cH,.slice aR W.rs.length cR,.string W.tx,.int .i64 W.rd,.bool W.en,.bool W.dn,.bool W.sn] W (fun j=>j==q||d j) w':=fun q d w' h hq=>h.later (Below.refl _ _) (or_ne (Ne.symm hq))
 go_enter Tryz.func29,Tryz.ntmps29
 go_wp2_with fail
 generalize (w.alloc (.cells #[.slice aH 3 cH,.slice aR W.rs.length cR,.string W.tx,.int .i64 W.rd,.bool W.en,.bool W.dn,.bool W.sn] 33)).alloc (.cells #[.slice none 0 0,.slice none 0 0,.string ⟨#[]⟩,.int .i64 0,.bool false,.bool false,.bool false] 33)=V at *
 refine RegJ.wp_region_J (W:=CoW w [.slice aH 3 cH,.slice aR W.rs.length cR,.string W.tx,.int .i64 W.rd,.bool W.en,.bool W.dn,.bool W.sn] W) (RegJ.ValP [some (.pointer (some ⟨w.heap.size,0,none⟩)),some (.agg #[.slice aH 3 cH,.slice aR W.rs.length cR]),none,some (.pointer (some ⟨w.heap.size,2,none⟩)),some (.agg #[.string W.tx,.int .i64 W.rd,.bool W.en,.bool W.dn,.bool W.sn]),none,none] ([(2,5,TieW w.heap.size W),(5,6,fun v w'=>WHold w' w.heap.size v W)])) [some 3,some 4,some 5,some 6,some 7,some 8,none] (F:=?_) (is:=[0,1,2,3,4,5,6]) hmix (by kernel_rfl) (by kernel_rfl) (by kernel_rfl) (by kernel_rfl) (fun x=>?_) (⟨v1.drew,b0.drew,fun _=>v2.drew,fun e=>by cases e⟩) ?_ (fun dR xR wR hWR hdR hJR=>?_)
 rotate_left 1
 focus (simp only [RegJ.lay,Act.put,Nat.reduceAdd,Nat.zero_add,Draw.lays];rfl)
 focus
  iterate 7 (refine RegJ.Steps.cons (RegJ.StepAt.mk rfl (fun d x w1 hW1 hJ1 hx1 K hK=>?_)) ?_;simp only [Draw.lays]at hK;rotate_left 1)
  exact RegJ.Steps.nil
  ·go_simp;exact hK.out _ _ (keepW 0 d _ hW1 (by decide)) RegJ.ValP.same (RegJ.ValP.free (Or.inl rfl) rfl)
  ·have j0:x 0=_:=(hJ1.out 0 (by kernel_rfl)).val rfl;rw [j0]at hK;have c0:=hW1.v1.cell (i:=0) rfl;have c1:=hW1.v1.cell (i:=1) rfl;go_simp;exact hK.out _ _ (keepW 1 d _ hW1 (by decide)) RegJ.ValP.same (RegJ.ValP.free (Or.inl rfl) rfl)
  ·have j1:x 1=_:=(hJ1.out 1 (by kernel_rfl)).val rfl;rw [j1]at hK;go_simp;refine(Lin.l13Copy aH aR 3 W.rs.length cH cR xs W.rs _ hl3.out.symm rfl (L.later hW1.b) (R.later hW1.b) hR (by rw [hl3.out];decide) hr few).mono ?_;rintro e wa ⟨a',c',ys,g',c'',rfl,La,hma,Ra,ba⟩;have t:=tie La hma Ra hW1.b.size;go_simp;exact hK.out _ _ (hW1.later ba rfl) (RegJ.ValP.keep (fun q hq=>.inr (.inr (.inr fun v h=>hst q hq v _ _ ba h)))) (RegJ.ValP.this (Or.inr rfl) (by intro q hq he;simp only [List.mem_cons,List.not_mem_nil,or_false]at hq;rcases hq with rfl|rfl;exact t;cases he))
  ·go_simp;exact hK.out _ _ (keepW 3 d _ hW1 (by decide)) RegJ.ValP.same (RegJ.ValP.free (Or.inl rfl) rfl)
  ·have j3:x 3=_:=(hJ1.out 3 (by kernel_rfl)).val rfl;rw [j3]at hK;have c2:=hW1.v1.cell (i:=2) rfl;have c3:=hW1.v1.cell (i:=3) rfl;have c4:=hW1.v1.cell (i:=4) rfl;have c5:=hW1.v1.cell (i:=5) rfl;have c6:=hW1.v1.cell (i:=6) rfl;go_simp;exact hK.out _ _ (keepW 4 d _ hW1 (by decide)) RegJ.ValP.same (RegJ.ValP.free (Or.inl rfl) rfl)
  ·have j4:x 4=_:=(hJ1.out 4 (by kernel_rfl)).val rfl;rw [j4]at hK;obtain⟨g,cH',ys,aR',cR',j2,A2⟩:=(hJ1.out 2 (by kernel_rfl)).tie (2,5,TieW w.heap.size W) (by simp) rfl (hx1.out 5 (.inl rfl)).1;rw [j2]at hK;go_simp;exact hK.out _ _ (keepW 5 d _ hW1 (by decide)) RegJ.ValP.same (RegJ.ValP.this (Or.inr rfl) (by intro q hq he;simp only [List.mem_cons,List.not_mem_nil,or_false]at hq;rcases hq with rfl|rfl;cases he;exact⟨g,cH',ys,aR',cR',rfl,A2⟩))
  ·obtain⟨g,cH',ys,aR',cR',j5,A5⟩:=(hJ1.out 5 (by kernel_rfl)).tie (5,6,fun v w'=>WHold w' w.heap.size v W) (by simp) rfl (hx1.out 6 (.inl rfl)).1;have Vo:=hW1.var (hx1.out 6 (.inl rfl)).1;refine step_store_win (by rfl) _ _ (by rfl) (k:=w.heap.size+1) (vs:=[.slice (some ⟨g,0,none⟩) 3 cH',.slice aR' W.rs.length cR',.string W.tx,.int .i64 W.rd,.bool W.en,.bool W.dn,.bool W.sn]) (by rfl) (by exact j5) infoWorld Vo.win rfl (Wone W g cH' aR' cR') ?_;intro wa va ka;exact hK.out undef _ ⟨hW1.v1.kept ka (by omega),hW1.b.trans (ka.below (by omega) hW1.b.size),fun e=>absurd e (by simp),fun _=>⟨g,cH',ys,aR',cR',va.whole,A5.keptV Vo (by decide) (by decide) (by decide) (by decide) ka⟩⟩ (RegJ.ValP.keep (by intro q hq;simp only [List.mem_cons,List.not_mem_nil,or_false]at hq;rcases hq with rfl|rfl;exact .inr (.inr (.inl (hJ1.out 5 (by kernel_rfl)).done));exact .inr (.inl rfl))) (RegJ.ValP.free (Or.inr rfl) rfl)
 obtain⟨g,cH',ys,aR',cR',v3,A3⟩:=hWR.new (hdR 6 (by simp))
 have b3:=hWR.b
 clear hWR hJR hdR hst keepW tie
 obtain⟨e0,e1,e2,e3,e4,e5,e6⟩:=v3.c7
 go_wp2_with fail
 refine bodyPost_ret (v:=.agg #[.slice (some ⟨g,0,none⟩) 3 cH',.slice aR' W.rs.length cR',.string W.tx,.int .i64 W.rd,.bool W.en,.bool W.dn,.bool W.sn]) (by rw [Hop.res_one rfl];go_simp) rfl ⟨_,rfl,⟨g,cH',ys,aR',cR',rfl,A3⟩,b3⟩
end Go.Proofs.YtfejobjgbadfjaaGreat.Wor
namespace Go.Proofs.YtfejobjgbadfjaaGreat.Wor
open Go.RowKit RowG Hop Roa Pum Lin
abbrev put7 (w:World)(k:Nat)(x0 x1 x2 x3 x4 x5 x6:Value):World:=((((((w.setCell ⟨k,0,none⟩ x0).setCell ⟨k,1,none⟩ x1).setCell ⟨k,2,none⟩ x2).setCell ⟨k,3,none⟩ x3).setCell ⟨k,4,none⟩ x4).setCell ⟨k,5,none⟩ x5).setCell ⟨k,6,none⟩ x6
theorem var7 {T:TypeId}{w:World}{k:Nat}{a0 a1 a2 a3 a4 a5 a6:Value}(h:Var T w k [a0,a1,a2,a3,a4,a5,a6])(x0 x1 x2 x3 x4 x5 x6:Value):Var T (put7 w k x0 x1 x2 x3 x4 x5 x6) k [x0,x1,x2,x3,x4,x5,x6]:=((((((h.set 0 x0).set 1 x1).set 2 x2).set 3 x3).set 4 x4).set 5 x5).set 6 x6
theorem kept7 (w:World)(k:Nat)(x0 x1 x2 x3 x4 x5 x6:Value):Draw.Kept k w (put7 w k x0 x1 x2 x3 x4 x5 x6):=
 Draw.Kept.setCell (p:=⟨k,6,none⟩) (Draw.Kept.setCell (p:=⟨k,5,none⟩) (Draw.Kept.setCell (p:=⟨k,4,none⟩) (Draw.Kept.setCell (p:=⟨k,3,none⟩) (Draw.Kept.setCell (p:=⟨k,2,none⟩) (Draw.Kept.setCell (p:=⟨k,1,none⟩) (Draw.Kept.setCell (p:=⟨k,0,none⟩) (Draw.Kept.refl _ _) (.inl rfl) _) (.inl rfl) _) (.inl rfl) _) (.inl rfl) _) (.inl rfl) _) (.inl rfl) _) (.inl rfl) _
theorem l16Happen (B:Nat)(W:Wd)(a:Ac)(htx:a.tx.size≤2097152)(aR:Option Addr)(g cH cR:Nat)(xs:List Ha)(w:World)(A:WAs w B g cH xs aR cR W)(hB:B≤w.heap.size):
  Calls Tryz.prog 28 #[.agg #[.slice (some ⟨g,0,none⟩) 3 cH,.slice aR W.rs.length cR,.string W.tx,.int .i64 W.rd,.bool W.en,.bool W.dn,.bool W.sn],a.v] w fun e w'=> ∃v,e=.returned (.tuple #[v,.bool (happenW W a).2])∧WHold w' B v (happenW W a).1∧Below w.heap.size w w':=by
 have hmix:=Roa.mix
 have v0:Var 33 (((w.alloc (.cells #[.slice (some ⟨g,0,none⟩) 3 cH,.slice aR W.rs.length cR,.string W.tx,.int .i64 W.rd,.bool W.en,.bool W.dn,.bool W.sn] 33)).alloc (.cells #[.int .i64 a.kd,.int .i64 a.hp,.int .i64 a.ro,.int .i64 a.pl,.int .i64 a.n,.string a.tx] 69)).alloc (.cells #[.slice none 0 0,.slice none 0 0,.string ⟨#[]⟩,.int .i64 0,.bool false,.bool false,.bool false] 33)) w.heap.size [.slice (some ⟨g,0,none⟩) 3 cH,.slice aR W.rs.length cR,.string W.tx,.int .i64 W.rd,.bool W.en,.bool W.dn,.bool W.sn]:=((Var.new w _).alloc _).alloc _
 have v1:Var 69 (((w.alloc (.cells #[.slice (some ⟨g,0,none⟩) 3 cH,.slice aR W.rs.length cR,.string W.tx,.int .i64 W.rd,.bool W.en,.bool W.dn,.bool W.sn] 33)).alloc (.cells #[.int .i64 a.kd,.int .i64 a.hp,.int .i64 a.ro,.int .i64 a.pl,.int .i64 a.n,.string a.tx] 69)).alloc (.cells #[.slice none 0 0,.slice none 0 0,.string ⟨#[]⟩,.int .i64 0,.bool false,.bool false,.bool false] 33)) (w.heap.size+1) [.int .i64 a.kd,.int .i64 a.hp,.int .i64 a.ro,.int .i64 a.pl,.int .i64 a.n,.string a.tx]:=by
  have q:=Var.new (T:=69) (w.alloc (.cells #[.slice (some ⟨g,0,none⟩) 3 cH,.slice aR W.rs.length cR,.string W.tx,.int .i64 W.rd,.bool W.en,.bool W.dn,.bool W.sn] 33)) [.int .i64 a.kd,.int .i64 a.hp,.int .i64 a.ro,.int .i64 a.pl,.int .i64 a.n,.string a.tx]
  have q:=q.alloc (.cells #[.slice none 0 0,.slice none 0 0,.string ⟨#[]⟩,.int .i64 0,.bool false,.bool false,.bool false] 33)
  simpa using q
 have v2:Var 33 (((w.alloc (.cells #[.slice (some ⟨g,0,none⟩) 3 cH,.slice aR W.rs.length cR,.string W.tx,.int .i64 W.rd,.bool W.en,.bool W.dn,.bool W.sn] 33)).alloc (.cells #[.int .i64 a.kd,.int .i64 a.hp,.int .i64 a.ro,.int .i64 a.pl,.int .i64 a.n,.string a.tx] 69)).alloc (.cells #[.slice none 0 0,.slice none 0 0,.string ⟨#[]⟩,.int .i64 0,.bool false,.bool false,.bool false] 33)) (w.heap.size+1+1) [.slice none 0 0,.slice none 0 0,.string ⟨#[]⟩,.int .i64 0,.bool false,.bool false,.bool false]:=by
  have q:=Var.new (T:=33) ((w.alloc (.cells #[.slice (some ⟨g,0,none⟩) 3 cH,.slice aR W.rs.length cR,.string W.tx,.int .i64 W.rd,.bool W.en,.bool W.dn,.bool W.sn] 33)).alloc (.cells #[.int .i64 a.kd,.int .i64 a.hp,.int .i64 a.ro,.int .i64 a.pl,.int .i64 a.n,.string a.tx] 69)) [.slice none 0 0,.slice none 0 0,.string ⟨#[]⟩,.int .i64 0,.bool false,.bool false,.bool false]
  simpa using q
 have b0:Below w.heap.size w (((w.alloc (.cells #[.slice (some ⟨g,0,none⟩) 3 cH,.slice aR W.rs.length cR,.string W.tx,.int .i64 W.rd,.bool W.en,.bool W.dn,.bool W.sn] 33)).alloc (.cells #[.int .i64 a.kd,.int .i64 a.hp,.int .i64 a.ro,.int .i64 a.pl,.int .i64 a.n,.string a.tx] 69)).alloc (.cells #[.slice none 0 0,.slice none 0 0,.string ⟨#[]⟩,.int .i64 0,.bool false,.bool false,.bool false] 33)):=(((Below.refl _ _).alloc (Nat.le_refl _) _).alloc (by simp) _).alloc (by simp;omega) _
 go_enter Tryz.func28,Tryz.ntmps28
 go_wp2_with fail
 generalize (((w.alloc (.cells #[.slice (some ⟨g,0,none⟩) 3 cH,.slice aR W.rs.length cR,.string W.tx,.int .i64 W.rd,.bool W.en,.bool W.dn,.bool W.sn] 33)).alloc (.cells #[.int .i64 a.kd,.int .i64 a.hp,.int .i64 a.ro,.int .i64 a.pl,.int .i64 a.n,.string a.tx] 69)).alloc (.cells #[.slice none 0 0,.slice none 0 0,.string ⟨#[]⟩,.int .i64 0,.bool false,.bool false,.bool false] 33))=V at *
 have z2:=v2.lt
 refine(l16Copy W _ aR cH cR xs _ (A.L.ll.later b0) A.hs (A.R.lies.later b0) A.R.none_cap A.ok).mono ?_
 rintro e w1 ⟨v,rfl,⟨g2,h2,xs2,a2,r2,rfl,A2⟩,b1⟩
 replace v0:=(v0.later b1).alloc (.cells #[.slice (some ⟨g2,0,none⟩) 3 h2,.slice a2 W.rs.length r2,.string W.tx,.int .i64 W.rd,.bool W.en,.bool W.dn,.bool W.sn] 33)
 replace v1:=(v1.later b1).alloc (.cells #[.slice (some ⟨g2,0,none⟩) 3 h2,.slice a2 W.rs.length r2,.string W.tx,.int .i64 W.rd,.bool W.en,.bool W.dn,.bool W.sn] 33)
 replace v2:=(v2.later b1).alloc (.cells #[.slice (some ⟨g2,0,none⟩) 3 h2,.slice a2 W.rs.length r2,.string W.tx,.int .i64 W.rd,.bool W.en,.bool W.dn,.bool W.sn] 33)
 have B1:=b0.trans (b1.mono b0.size)
 have zz:=b1.size
 replace B1:=B1.alloc B1.size (.cells #[.slice (some ⟨g2,0,none⟩) 3 h2,.slice a2 W.rs.length r2,.string W.tx,.int .i64 W.rd,.bool W.en,.bool W.dn,.bool W.sn] 33)
 replace A2:=A2.later ((Below.refl _ _).alloc (Nat.le_refl _) (.cells #[.slice (some ⟨g2,0,none⟩) 3 h2,.slice a2 W.rs.length r2,.string W.tx,.int .i64 W.rd,.bool W.en,.bool W.dn,.bool W.sn] 33))
 obtain⟨V1,hV1⟩: ∃z,Hid (z=w1.alloc (.cells #[.slice (some ⟨g2,0,none⟩) 3 h2,.slice a2 W.rs.length r2,.string W.tx,.int .i64 W.rd,.bool W.en,.bool W.dn,.bool W.sn] 33)):=⟨_,rfl⟩
 have v3:Var 33 V1 w1.heap.size [.slice (some ⟨g2,0,none⟩) 3 h2,.slice a2 W.rs.length r2,.string W.tx,.int .i64 W.rd,.bool W.en,.bool W.dn,.bool W.sn]:=by rw [hV1.out];exact Var.new w1 _
 have z3:V.heap.size≤V1.heap.size:=by rw [hV1.out];simp;omega
 obtain⟨f0,f1,f2,f3,f4,f5⟩:=v1.c6
 go_wp2_with fail
 have hV1o:=hV1.out
 clear hV1
 subst hV1o
 generalize w1.alloc (.cells #[.slice (some ⟨g2,0,none⟩) 3 h2,.slice a2 W.rs.length r2,.string W.tx,.int .i64 W.rd,.bool W.en,.bool W.dn,.bool W.sn] 33)=V1 at *
 generalize w1.heap.size=k at *
 refine(l16Do (T:=33) (pre:=[]) (post:=[]) (ow:=0) (by decide) k V.heap.size W a htx _ ⟨h2,xs2,a2,r2,⟨v3.win,A2.L,A2.hs,A2.R⟩⟩ z3 ⟨by decide,by decide,by decide,by decide⟩ A2.ok).mono ?_
 rintro e w2 ⟨rfl,lay,kb⟩
 have ok2:=ok_do A2.ok a
 replace v0:=v0.same (kb.block w.heap.size (by omega) (by omega))
 replace v2:=v2.same (kb.block (w.heap.size+1+1) (by omega) (by omega))
 have B2:Below w.heap.size w w2:=B1.trans ⟨kb.os,kb.tape,kb.output,kb.size,fun i hi=>kb.block i (by omega) (by omega)⟩
 clear b0 b1 B1 v1 v3 A2 f0 f1 f2 f3 f4 f5
 obtain⟨y0,y1,y2,y3,y4,y5,y6⟩:=v2.f7
 cases hd:(doW W a).2
 ·have hh:happenW W a=(W,false):=by simp [happenW,hd]
  have HH:Hid _:=hh
  clear hh
  obtain⟨c0,c1,c2,c3,c4,c5,c6⟩:=v0.c7
  obtain⟨d0,d1,d2,d3,d4,d5,d6⟩:=v2.c7
  go_wp2_with fail
  obtain⟨WZ,hWZ⟩: ∃z,Hid (z=((((((w2.setCell ⟨w.heap.size+1+1,0,none⟩ (.slice (some ⟨g,0,none⟩) 3 cH)).setCell ⟨w.heap.size+1+1,1,none⟩ (.slice aR W.rs.length cR)).setCell ⟨w.heap.size+1+1,2,none⟩ (.string W.tx)).setCell ⟨w.heap.size+1+1,3,none⟩ (.int .i64 W.rd)).setCell ⟨w.heap.size+1+1,4,none⟩ (.bool W.en)).setCell ⟨w.heap.size+1+1,5,none⟩ (.bool W.dn)).setCell ⟨w.heap.size+1+1,6,none⟩ (.bool W.sn)):=⟨_,rfl⟩
  have ka:Draw.Kept (w.heap.size+1+1) w2 WZ:=by rw [hWZ.out];exact kept7 _ _ _ _ _ _ _ _ _
  have B3:=B2.trans (ka.below (by omega) B2.size)
  have vv:Var 33 WZ (w.heap.size+1+1) [.slice (some ⟨g,0,none⟩) 3 cH,.slice aR W.rs.length cR,.string W.tx,.int .i64 W.rd,.bool W.en,.bool W.dn,.bool W.sn]:=by rw [hWZ.out];exact var7 v2 _ _ _ _ _ _ _
  have A3:=A.later B3
  clear ka y0 y1 y2 y3 y4 y5 y6 c0 c1 c2 c3 c4 c5 c6 d0 d1 d2 d3 d4 d5 d6
  have hWZo:=hWZ.out
  clear hWZ
  subst hWZo
  generalize (((((((w2.setCell ⟨w.heap.size+1+1,0,none⟩ (.slice (some ⟨g,0,none⟩) 3 cH)).setCell ⟨w.heap.size+1+1,1,none⟩ (.slice aR W.rs.length cR)).setCell ⟨w.heap.size+1+1,2,none⟩ (.string W.tx)).setCell ⟨w.heap.size+1+1,3,none⟩ (.int .i64 W.rd)).setCell ⟨w.heap.size+1+1,4,none⟩ (.bool W.en)).setCell ⟨w.heap.size+1+1,5,none⟩ (.bool W.dn)).setCell ⟨w.heap.size+1+1,6,none⟩ (.bool W.sn))=WZ at *
  obtain⟨c0,c1,c2,c3,c4,c5,c6⟩:=vv.c7
  refine bodyPost_ret (v:=.tuple #[.agg #[.slice (some ⟨g,0,none⟩) 3 cH,.slice aR W.rs.length cR,.string W.tx,.int .i64 W.rd,.bool W.en,.bool W.dn,.bool W.sn],.bool false]) (by rw [Tak.res_cell_tmp rfl];go_simp) rfl ?_
  rw [HH.out]
  exact⟨_,rfl,⟨g,cH,xs,aR,cR,rfl,A3⟩,B3⟩
 ·have hh:happenW W a=((doW W a).1,true):=by
   have:happenW W a=doW W a:=by simp [happenW,hd]
   rw [this,←hd]
  have HH:Hid _:=hh
  clear hh
  generalize (doW W a).1=W' at *
  obtain⟨h4,xs4,a4,r4,A4⟩:=lay
  have v4:=A4.v.whole
  have A5:WAs w2 V.heap.size g2 h4 xs4 a4 r4 W':=⟨A4.L,A4.hs,A4.R,ok2⟩
  clear A4 kb
  obtain⟨c0,c1,c2,c3,c4,c5,c6⟩:=v4.c7
  obtain⟨d0,d1,d2,d3,d4,d5,d6⟩:=v2.c7
  go_wp2_with fail
  obtain⟨WZ,hWZ⟩: ∃z,Hid (z=((((((w2.setCell ⟨w.heap.size+1+1,0,none⟩ (.slice (some ⟨g2,0,none⟩) 3 h4)).setCell ⟨w.heap.size+1+1,1,none⟩ (.slice a4 W'.rs.length r4)).setCell ⟨w.heap.size+1+1,2,none⟩ (.string W'.tx)).setCell ⟨w.heap.size+1+1,3,none⟩ (.int .i64 W'.rd)).setCell ⟨w.heap.size+1+1,4,none⟩ (.bool W'.en)).setCell ⟨w.heap.size+1+1,5,none⟩ (.bool W'.dn)).setCell ⟨w.heap.size+1+1,6,none⟩ (.bool W'.sn)):=⟨_,rfl⟩
  have ka:Draw.Kept (w.heap.size+1+1) w2 WZ:=by rw [hWZ.out];exact kept7 _ _ _ _ _ _ _ _ _
  have B3:=B2.trans (ka.below (by omega) B2.size)
  have vv:Var 33 WZ (w.heap.size+1+1) [.slice (some ⟨g2,0,none⟩) 3 h4,.slice a4 W'.rs.length r4,.string W'.tx,.int .i64 W'.rd,.bool W'.en,.bool W'.dn,.bool W'.sn]:=by rw [hWZ.out];exact var7 v2 _ _ _ _ _ _ _
  have A6:=A5.keptV v2 (by decide) (by decide) (by decide) (by decide) ka
  clear ka A5 y0 y1 y2 y3 y4 y5 y6 c0 c1 c2 c3 c4 c5 c6 d0 d1 d2 d3 d4 d5 d6
  have hWZo:=hWZ.out
  clear hWZ
  subst hWZo
  generalize (((((((w2.setCell ⟨w.heap.size+1+1,0,none⟩ (.slice (some ⟨g2,0,none⟩) 3 h4)).setCell ⟨w.heap.size+1+1,1,none⟩ (.slice a4 W'.rs.length r4)).setCell ⟨w.heap.size+1+1,2,none⟩ (.string W'.tx)).setCell ⟨w.heap.size+1+1,3,none⟩ (.int .i64 W'.rd)).setCell ⟨w.heap.size+1+1,4,none⟩ (.bool W'.en)).setCell ⟨w.heap.size+1+1,5,none⟩ (.bool W'.dn)).setCell ⟨w.heap.size+1+1,6,none⟩ (.bool W'.sn))=WZ at *
  obtain⟨c0,c1,c2,c3,c4,c5,c6⟩:=vv.c7
  refine bodyPost_ret (v:=.tuple #[.agg #[.slice (some ⟨g2,0,none⟩) 3 h4,.slice a4 W'.rs.length r4,.string W'.tx,.int .i64 W'.rd,.bool W'.en,.bool W'.dn,.bool W'.sn],.bool true]) (by rw [Tak.res_cell_tmp rfl];go_simp) rfl ?_
  rw [HH.out]
  exact⟨_,rfl,⟨g2,h4,xs4,a4,r4,rfl,⟨A6.L.mono (by omega),A6.hs,A6.R.mono (by omega),A6.ok⟩⟩,B3⟩
end Go.Proofs.YtfejobjgbadfjaaGreat.Wor
