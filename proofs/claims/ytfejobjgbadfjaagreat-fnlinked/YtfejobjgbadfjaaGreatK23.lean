/- Contracts of this seat's functions, and their mathematics (LinP WorI WorJ). -/
import Derived.Test.YtfejobjgbadfjaaGreatK18
import Derived.Test.YtfejobjgbadfjaaGreatK22
set_option linter.unusedVariables false
set_option linter.unusedSimpArgs false
set_option maxRecDepth 10000
set_option maxHeartbeats 8000000
namespace Go.Proofs.YtfejobjgbadfjaaGreat.RowG
open Go.RowKit
theorem El.Own.block {α:Type}{E:El α}{T:TypeId}{w:World}{B g c:Nat}{l:List α}(h:E.Own T w B (some ⟨g,0,Option.none⟩) c l):
  ∃rest,w.heap[g]? =some (.cells (E.vals l++rest).toArray T (0,0))∧ ∀w' (l':List α),l'.length=l.length→w'.heap[g]? =some (.cells (E.vals l'++rest).toArray T (0,0))→E.Own T w' B (some ⟨g,0,Option.none⟩) c l':=by
 obtain⟨h1,h2⟩:=h
 rcases h2 with⟨e,_⟩|⟨g',cap,cur,e,hB,hg,hc,hm,hs,ht⟩
 ·simp at e
 injection e with e1 e2 e3
 injection e1 with e1
 injection e1 with e1
 subst e1 e3
 have hcur:cur.toList=E.vals l++cur.toList.drop (l.length*E.size):=by
  conv=>lhs;rw [←List.take_append_drop (l.length*E.size) cur.toList,ht]
 refine⟨cur.toList.drop (l.length*E.size),?_,?_⟩
 ·rw [hg,←hcur]
 ·intro w' l' hl hb
  refine⟨by rw [E.vals_len],.inr ⟨g,c,_,rfl,hB,hb,by omega,hm,?_,?_⟩⟩
  ·have h3:=congrArg List.length hcur
   simp only [List.length_append,Array.length_toList,E.vals_len]at h3
   simp only [List.size_toArray,List.length_append,E.vals_len,hl]
   omega
  ·rw [List.toList_toArray,List.take_left' (by rw [E.vals_len])]
end Go.Proofs.YtfejobjgbadfjaaGreat.RowG
namespace Go.Proofs.YtfejobjgbadfjaaGreat.Lin
open Go.RowKit RowG Hop Pum
abbrev Ha.tk (x:Ha)(t:Tak.Tk):Ha:={x with h:={x.h with t:=t}}
abbrev Ha.gv (x:Ha)(g:Giv.Gv):Ha:={x with h:={x.h with g:=g}}
theorem two_split {xs:List Ha}{i:Nat}{x y:Ha}(hx:xs[i]? =some x)(hy:xs[i+1]? =some y):hopE.vals xs=hopE.vals (xs.take i)++x.c++(y.c++hopE.vals (xs.drop (i+2))):=by
 rw [El.vals_split hopE hx]
 have hd:(xs.drop (i+1))[0]? =some y:=by rw [List.getElem?_drop];exact hy
 have:=El.vals_split hopE hd
 rw [this]
 simp [El.vals,hopE]
theorem set_two {xs:List Ha}{i:Nat}{x y:Ha}(hx:xs[i]? =some x)(hy:xs[i+1]? =some y)(x' y':Ha):hopE.vals ((xs.set i x').set (i+1) y')=hopE.vals (xs.take i)++x'.c++(y'.c++hopE.vals (xs.drop (i+2))):=by
 have hlx:=(List.getElem?_eq_some_iff.1 hx).1
 have hly:=(List.getElem?_eq_some_iff.1 hy).1
 have h1:((xs.set i x').set (i+1) y')[i]? =some x':=by rw [List.getElem?_set_ne (by omega),List.getElem?_set_self hlx]
 have h2:((xs.set i x').set (i+1) y')[i+1]? =some y':=by rw [List.getElem?_set_self (by simpa using hly)]
 rw [two_split h1 h2,List.take_set_of_le (by omega),List.take_set_of_le (by omega),List.drop_set_of_lt (by omega),List.drop_set_of_lt (by omega)]
theorem LineLay.pump {w:World}{B g c:Nat}{xs:List Ha}(L:LineLay w B (some ⟨g,0,none⟩) c xs){i:Nat}{x y:Ha}(hx:xs[i]? =some x)(hy:xs[i+1]? =some y):
  ∃a b d,a.length=i*13+6∧b.length=1∧Var 47 w g (a++tc x.h.t x.aT x.cT++(b++y.h.g.c++d))∧ ∀w' (t':Tak.Tk) (g':Giv.Gv),t'.l=x.h.t.l→Var 47 w' g (a++tc t' x.aT x.cT++(b++g'.c++d))→Draw.Kept g w w'→LineLay w' B (some ⟨g,0,none⟩) c ((xs.set i (x.tk t')).set (i+1) (y.gv g')):=by
 obtain⟨rest,hb,back⟩:=L.row.block
 have hlx:=(List.getElem?_eq_some_iff.1 hx).1
 have hly:=(List.getElem?_eq_some_iff.1 hy).1
 refine⟨hopE.vals (xs.take i)++x.h.g.c,[.slice x.aW x.h.ws.length x.cW],tc y.h.t y.aT y.cT++[.slice y.aW y.h.ws.length y.cW]++hopE.vals (xs.drop (i+2))++rest,?_,rfl,?_,?_⟩
 ·rw [List.length_append,hopE.vals_len,List.length_take,Nat.min_eq_left (by omega)]
  rfl
 ·show w.heap[g]? =_
  rw [hb,two_split hx hy]
  simp [List.append_assoc]
 ·intro w' t' g' hl v kp
  have row:hopE.Own 47 w' B (some ⟨g,0,none⟩) c ((xs.set i (x.tk t')).set (i+1) (y.gv g')):=by
   refine back w' _ (by simp) ?_
   have:w'.heap[g]? =_:=v
   rw [this,set_two hx hy]
   simp [List.append_assoc]
  have hne: ∀ {z:Ha},Rows w B z→(∀q,z.aT=some q→q.block≠g)∧(∀q,z.aW=some q→q.block≠g):=by
   intro z R
   have vv:Win 47 [] [] 0 w g (hopE.vals xs++rest):=(show Var 47 w g (hopE.vals xs++rest)from hb).win
   exact⟨own_win (by decide) R.p vv,own_win (by decide) R.l vv⟩
  have rkeep: ∀z:Ha,Rows w B z→Rows w' B z:=fun z R=>⟨R.p.kept kp (hne R).1,R.l.kept kp (hne R).2⟩
  have hel: ∀(j:Nat) (z:Ha),((xs.set i (x.tk t')).set (i+1) (y.gv g'))[j]? =some z→ ∃z0,xs[j]? =some z0∧z.aW=z0.aW∧(Rows w' B z0→Rows w' B z):=by
   intro j z hz
   by_cases e1:i+1=j
   ·subst e1
    rw [List.getElem?_set_self (by simpa using hly)]at hz
    cases hz
    exact⟨y,hy,rfl,fun R=>⟨R.p,R.l⟩⟩
   ·rw [List.getElem?_set_ne e1]at hz
    by_cases e2:i=j
    ·subst e2
     rw [List.getElem?_set_self hlx]at hz
     cases hz
     exact⟨x,hx,rfl,fun R=>⟨by show Tak.partE.Own _ _ _ _ _ t'.l;rw [hl];exact R.p,R.l⟩⟩
    ·rw [List.getElem?_set_ne e2]at hz
     exact⟨z,hz,rfl,id⟩
  refine⟨row,fun z hz=>?_,fun j k z u hjk hz hu=>?_⟩
  ·obtain⟨j,hj⟩:=List.getElem?_of_mem hz
   obtain⟨z0,h0,_,hr⟩:=hel j z hj
   exact hr (rkeep z0 (L.rows z0 (List.mem_of_getElem? h0)))
  ·obtain⟨z0,h0,e0,_⟩:=hel j z hz
   obtain⟨u0,h1,e1,_⟩:=hel k u hu
   intro p q hp hq
   rw [e0]at hp
   rw [e1]at hq
   exact L.off j k z0 u0 hjk h0 h1 p q hp hq
end Go.Proofs.YtfejobjgbadfjaaGreat.Lin
namespace Go.Proofs.YtfejobjgbadfjaaGreat.Wor
open Go.RowKit RowG Hop Roa Pum Lin
theorem row_ne {w:World}{B B' g c c':Nat}{a:Option Addr}{l:List Rd}{xs:List Ha}(R:Roa.E.Own 95 w B a c l)(L:hopE.Own 47 w B' (some ⟨g,0,none⟩) c' xs): ∀q,a=some q→q.block≠g:=by
 intro q hq e
 obtain⟨cs,h1⟩:=own_row R q hq
 obtain⟨cs',h2⟩:=own_row L ⟨g,0,none⟩ rfl
 rw [e]at h1
 rw [h1]at h2
 injection h2 with h2
 injection h2 with _ h3 _
 exact absurd h3 (by decide)
theorem hopPump {T:TypeId}{pre post:List Value}{ow:Nat}(hTa:T≠69)(k B:Nat)(W:Wd)(ro pl n:Int)(tx:ByteArray)(i:Nat)(hi:i<3)(w:World){g:Nat}(lay:WLay T pre post ow w B k g W)(hB:B≤w.heap.size)(hkB:NT T)(ok:okW W=true):
  Calls Tryz.prog 66 #[.pointer (some ⟨k,ow,none⟩),(⟨8,(i:Int),ro,pl,n,tx⟩:Ac).v] w fun x w'=>x=.returned (.bool (hopW W ⟨8,(i:Int),ro,pl,n,tx⟩ i).2)∧WLay T pre post ow w' B k g (hopW W ⟨8,(i:Int),ro,pl,n,tx⟩ i).1∧Fr B g w w':=by
 obtain⟨cH,xs,aR,cR,A⟩:=lay
 have hmix:=Tak.mix
 obtain⟨okh,oks⟩:=ok_parts.1 ok
 obtain⟨ya,hx,hxh⟩:=A.hop okh hi
 have hrl:W.rs.length≤2097152:=by have:=(hops_iff.1 okh).2.1;simp only [roadsB,Bool.and_eq_true,decide_eq_true_eq]at this;omega
 obtain⟨hxo,hxr⟩:=at_ok okh hi
 rw [←hxh]at hxo hxr
 obtain⟨hw30,hgo,hto,hlo⟩:=hop_ok hxo
 have HXH:Hid (ya.h=W.at i):=hxh
 clear hxh
 have hIn: ∀w',Calls Tryz.prog 57 #[.int .i64 (i:Int),.int .i64 0,.int .i64 2] w' fun x w''=>x=.returned (.bool true)∧w'=w'':=fun w'=>Tak.l1InEq (decide_eq_true ⟨by omega,by omega⟩) w'
 have bW:=(Below.refl w.heap.size w).alloc (Nat.le_refl _) (.cells #[.int .i64 8,.int .i64 (i:Int),.int .i64 ro,.int .i64 pl,.int .i64 n,.string tx] 69)
 have v0:Var 69 (w.alloc (.cells #[.int .i64 8,.int .i64 (i:Int),.int .i64 ro,.int .i64 pl,.int .i64 n,.string tx] 69)) w.heap.size [.int .i64 8,.int .i64 (i:Int),.int .i64 ro,.int .i64 pl,.int .i64 n,.string tx]:=Var.new w _
 replace A:=A.later bW
 have e0:=A.v.cell0 rfl
 have e1:=A.v.cell (i:=1) rfl
 have d0:=v0.cell (i:=0) rfl
 have d1:=v0.cell (i:=1) rfl
 have d2:=v0.cell (i:=2) rfl
 have d3:=v0.cell (i:=3) rfl
 have d4:=v0.cell (i:=4) rfl
 have i0:(0:Int)≤(i:Int):=by omega
 have i1:(i:Int)<3:=by omega
 have HIN:Hid _:=hIn
 clear hIn
 go_enter Tryz.func66,Tryz.ntmps66
 go_upto_region 1 with(fail)
 generalize w.alloc (.cells #[.int .i64 8,.int .i64 (i:Int),.int .i64 ro,.int .i64 pl,.int .i64 n,.string tx] 69)=V at *
 go_wp2_with fail
 refine(HIN.out _).mono ?_
 rintro e w1 ⟨rfl,rfl⟩
 clear HIN
 go_wp2_with fail
 have le0:=Draw.Later.cell e0
 have l1:=Draw.Later.cell d1
 refine Draw.wp_region_later hmix (by kernel_rfl) ?_
 repeat (go_big_quiet_step (fail))
 refine wpQuiet_nil ?_
 intro wq hw'
 obtain⟨q9,hq9⟩:=hw'
 have hBq:=q9.h
 rw [←hq9]at hBq
 clear hq9 q9 le0 l1 e0 e1 d0 d1 d2 d3 d4
 replace bW:=bW.trans (hBq.mono bW.size)
 replace A:=A.later hBq
 replace v0:=v0.later hBq
 clear hBq
 have e0:=A.v.cell0 rfl
 have e1:=A.v.cell (i:=1) rfl
 have d0:=v0.cell (i:=0) rfl
 have d1:=v0.cell (i:=1) rfl
 have d2:=v0.cell (i:=2) rfl
 have d3:=v0.cell (i:=3) rfl
 have d4:=v0.cell (i:=4) rfl
 have HS:Hid (w.heap.size<wq.heap.size):=v0.lt
 obtain⟨kA,hkA⟩: ∃kA,w.heap.size=kA:=⟨_,rfl⟩
 rw [hkA]at v0 d0 d1 d2 d3 d4 HS ⊢
 obtain⟨u,hu⟩: ∃u,decide (0≤n∧n≤400)=u:=⟨_,rfl⟩
 by_cases h2:i=2
 ·subst h2
  have hR:Hid (hopW W ⟨8,((2:Nat):Int),ro,pl,n,tx⟩ 2=(W,false)):=by show _=_;simp [hopW]
  go_wp2_with fail
  go_ret
  exact⟨by rw [hR.out];rfl,by rw [hR.out];exact⟨cH,xs,aR,cR,A⟩,Fr.ofB bW hB⟩
 have hi2: ¬(1:Int)<(i:Int):=by omega
 have hi2d:decide ((1:Int)<(i:Int))=false:=decide_eq_false hi2
 have hi2n: ¬1<i:=by omega
 have hi2e:decide (1<i)=false:=decide_eq_false hi2n
 go_wp2_with fail
 refine(Tak.l1InEq hu _).mono ?_
 rintro e w1 ⟨rfl,rfl⟩
 cases u
 ·have hR:Hid (hopW W ⟨8,(i:Int),ro,pl,n,tx⟩ i=(W,false)):=by
   have q:=of_decide_eq_false hu
   show _=_
   simp only [hopW]
   rw [if_neg (by decide),if_neg (by decide),if_neg (by decide),if_neg (by decide),if_neg (by decide),if_neg (fun h=>q h.2)]
  go_wp2_with fail
  go_ret
  exact⟨by rw [hR.out];rfl,by rw [hR.out];exact⟨cH,xs,aR,cR,A⟩,Fr.ofB bW hB⟩
 obtain⟨n0,n1⟩:=of_decide_eq_true hu
 have hR:Hid (hopW W ⟨8,(i:Int),ro,pl,n,tx⟩ i=pumpW W i n):=by
  show _=_
  simp only [hopW]
  rw [if_neg (by decide),if_neg (by decide),if_neg (by decide),if_neg (by decide),if_neg (by decide),if_pos ⟨by omega,n0,n1⟩]
 obtain⟨za,hz,hzh⟩:=A.hop okh (show i+1<3 by omega)
 obtain⟨hzo,hzr⟩:=at_ok okh (show i+1<3 by omega)
 rw [←hzh]at hzo hzr
 obtain⟨-,hzg,-,-⟩:=hop_ok hzo
 have HZH:Hid (za.h=W.at (i+1)):=hzh
 clear hzh hu
 have hin:ya.h.t.bs.size≤400:=by
  have q:=hto
  unfold Tak.Tk.ok Tak.takerB at q
  simp only [Bool.and_eq_true,decide_eq_true_eq]at q
  have q2:=q.1
  unfold Tak.inT at q2
  omega
 have j0:(0:Int)≤(i:Int)+1:=by omega
 have j1:(i:Int)+1<3:=by omega
 go_wp2_with fail
 have le0:=Draw.Later.cell e0
 have l1:=Draw.Later.cell d1
 clear e0 e1 d0 d1 d2 d3 d4
 refine Draw.wp_region_later hmix (by kernel_rfl) ?_
 repeat (go_big_quiet_step (fail))
 refine wpQuiet_nil ?_
 intro wr hw'
 obtain⟨q9,hq9⟩:=hw'
 have hBq:=q9.h
 rw [←hq9]at hBq
 clear hq9 q9
 replace bW:=bW.trans (hBq.mono bW.size)
 replace A:=A.later hBq
 replace v0:=v0.later hBq
 clear hBq
 clear le0 l1
 have d4:=v0.cell (i:=4) rfl
 have cE:=own_cell A.L.row hz (j:=4) rfl
 have hBw:B≤wr.heap.size:=Nat.le_trans hB bW.size
 have hgB:B≤g:=(A.L.row.lt _ rfl).1
 go_wp2_with fail
 obtain⟨M,hM⟩: ∃M,moveN ya.h.t za.h.g n=M:=⟨_,rfl⟩
 have hPW:Hid (pumpW W i n=((W.put i (ya.tk (leftT ya.h.t M)).h).put (i+1) (za.gv (moreG ya.h.t za.h.g M)).h,decide (0<M)||((moreG ya.h.t za.h.g M).en !=za.h.g.en))):=by
  show _=_
  unfold pumpW
  rw [←HXH.out,←HZH.out,hM]
 obtain⟨XS,hXS⟩: ∃XS,(xs.set i (ya.tk (leftT ya.h.t M))).set (i+1) (za.gv (moreG ya.h.t za.h.g M))=XS:=⟨_,rfl⟩
 have hXz:Hid (XS[i+1]? =some (za.gv (moreG ya.h.t za.h.g M))):=by
  show _=_
  rw [←hXS,List.getElem?_set_self (by rw [List.length_set];exact(List.getElem?_eq_some_iff.1 hz).1)]
 have keepW: ∀(j:Nat) (d:Nat→Bool) (w1:World),(fun d w'=>Var 69 w' kA [.int .i64 8,.int .i64 (i:Int),.int .i64 ro,.int .i64 pl,.int .i64 n,.string tx]∧(d 6=false→WAt T pre post ow w' B k g cH xs aR cR W∧Below w.heap.size w w')∧(d 6=true→WAt T pre post ow w' B k g cH XS aR cR ((W.put i (ya.tk (leftT ya.h.t M)).h).put (i+1) (za.gv (moreG ya.h.t za.h.g M)).h)∧Fr B g w w')) d w1→j≠6→(fun d w'=>Var 69 w' kA [.int .i64 8,.int .i64 (i:Int),.int .i64 ro,.int .i64 pl,.int .i64 n,.string tx]∧(d 6=false→WAt T pre post ow w' B k g cH xs aR cR W∧Below w.heap.size w w')∧(d 6=true→WAt T pre post ow w' B k g cH XS aR cR ((W.put i (ya.tk (leftT ya.h.t M)).h).put (i+1) (za.gv (moreG ya.h.t za.h.g M)).h)∧Fr B g w w')) (fun q=>q==j||d q) w1:=fun j d w1 hW hj=>by
  have ez:((6:Nat)==j)=false:=beq_eq_false_iff_ne.2 (Ne.symm hj)
  simp only [ez,Bool.false_or]
  exact hW
 refine RegJ.wp_region_J (W:=(fun d w'=>Var 69 w' kA [.int .i64 8,.int .i64 (i:Int),.int .i64 ro,.int .i64 pl,.int .i64 n,.string tx]∧(d 6=false→WAt T pre post ow w' B k g cH xs aR cR W∧Below w.heap.size w w')∧(d 6=true→WAt T pre post ow w' B k g cH XS aR cR ((W.put i (ya.tk (leftT ya.h.t M)).h).put (i+1) (za.gv (moreG ya.h.t za.h.g M)).h)∧Fr B g w w'))) (RegJ.Val [some (.pointer (some ⟨g,i*13,none⟩)),some (.pointer (some ⟨g,i*13,none⟩)),some (.pointer (some ⟨g,i*13+6,none⟩)),some (.pointer (some ⟨g,(i+1)*13,none⟩)),some (.pointer (some ⟨kA,4,none⟩)),some (.int .i64 n),some (.int .i64 M),some (.int .i64 M)]) [some 168,some 169,some 170,some 171,some 172,some 173,some 174,some 10] (F:=?_) (is:=[0,1,2,3,4,5,6,7]) hmix (by kernel_rfl) (by kernel_rfl) (by kernel_rfl) (by kernel_rfl) (fun x=>?_) (⟨v0.drew,fun _=>⟨⟨A.v.drew,A.L.drew,A.hs,A.R.drew⟩,bW.drew⟩,fun hd=>(by cases hd)⟩) ?_ (fun dR xR wR hWR hdR hJR=>?_)
 rotate_left 1
 focus (simp only [RegJ.lay,Act.put,Nat.reduceAdd,Nat.zero_add,Draw.lays];rfl)
 focus
  iterate 8 (refine RegJ.Steps.cons (RegJ.StepAt.mk rfl (fun d x w1 hW1 hJ1 hx1 K hK=>?_)) ?_;simp only [Draw.lays]at hK;rotate_left 1)
  exact RegJ.Steps.nil
  ·go_simp;exact hK.out _ _ (keepW 0 d _ hW1 (by decide)) RegJ.Val.keep (RegJ.Val.this (Or.inl rfl))
  ·have j0:x 0=_:=(hJ1.out 0 (by kernel_rfl)).2 _ rfl;rw [j0]at hK;go_simp;exact hK.out _ _ (keepW 1 d _ hW1 (by decide)) RegJ.Val.keep (RegJ.Val.this (Or.inl rfl))
  ·have j1:x 1=_:=(hJ1.out 1 (by kernel_rfl)).2 _ rfl;rw [j1]at hK;go_simp;exact hK.out _ _ (keepW 2 d _ hW1 (by decide)) RegJ.Val.keep (RegJ.Val.this (Or.inl rfl))
  ·go_simp;exact hK.out _ _ (keepW 3 d _ hW1 (by decide)) RegJ.Val.keep (RegJ.Val.this (Or.inl rfl))
  ·go_simp;exact hK.out _ _ (keepW 4 d _ hW1 (by decide)) RegJ.Val.keep (RegJ.Val.this (Or.inl rfl))
  ·obtain⟨u1,u3,u4⟩:=id hW1;have c:=u1.cell (i:=4) rfl;have j4:x 4=_:=(hJ1.out 4 (by kernel_rfl)).2 _ rfl;rw [j4]at hK;go_simp;exact hK.out _ _ (keepW 5 d _ hW1 (by decide)) RegJ.Val.keep (RegJ.Val.this (Or.inl rfl))
  ·obtain⟨u1,u3,u4⟩:=id hW1;obtain⟨A1,b1⟩:=u3 (hx1.out 6 (.inl rfl)).1;have j2:x 2=_:=(hJ1.out 2 (by kernel_rfl)).2 _ rfl;rw [j2]at hK;have j3:x 3=_:=(hJ1.out 3 (by kernel_rfl)).2 _ rfl;rw [j3]at hK;have j5:x 5=_:=(hJ1.out 5 (by kernel_rfl)).2 _ rfl;rw [j5]at hK;obtain⟨pa,pb,pd,hpa,hpb,pv,pback⟩:=A1.L.pump hx hz;have HPB:Hid _:=pback;clear pback;have hgA:kA≠g:=(own_varS2 A1.L.row u1);go_simp;refine(l12Pump (duo_one (T:=47) (c:=pd) (k:=g) (n:=6) hpa (show i*13+6+6+pb.length=(i+1)*13 by omega)) ya.h.t ya.aT ya.cT za.h.g n w1 ⟨rfl,pv⟩ hzg (by omega) n0).mono ?_;rintro e wa ⟨rfl,⟨-,va⟩,ka⟩;rw [hM]at va ⊢;have L':=HPB.out wa (leftT ya.h.t M) (moreG ya.h.t za.h.g M) rfl va ka.one;rw [hXS]at L';have k1:=ka.one;have b2:Fr B g w1 wa:=⟨k1.below hgB (Nat.le_trans hB b1.size),OthS.ofKeep A1.L.row (El.Own.none (E:=letE) (T:=75) w1 B) (Keep.ofKept k1)⟩;have hv2:=A1.v.kept k1 (Ne.symm (own_win hkB.h A1.L.row A1.v _ rfl));have hu1:=u1.same (k1.block kA u1.lt hgA);have hRo:=A1.R.kept k1 (row_ne A1.R A1.L.row);have hhs:XS.map (·.h)=(W.hs.set i (ya.tk (leftT ya.h.t M)).h).set (i+1) (za.gv (moreG ya.h.t za.h.g M)).h:=(by rw [←hXS,List.map_set,List.map_set,A1.hs]);go_simp;exact hK.out _ _ ⟨hu1,fun hd=>absurd hd (by simp),fun _=>⟨⟨hv2,L',hhs,hRo⟩,(Fr.ofB b1 hB).trans b2⟩⟩ RegJ.Val.keep (RegJ.Val.this (Or.inl rfl))
  ·have j6:x 6=_:=(hJ1.out 6 (by kernel_rfl)).2 _ rfl;rw [j6]at hK;go_simp;exact hK.out _ _ (keepW 7 d _ hW1 (by decide)) RegJ.Val.keep (RegJ.Val.this (Or.inl rfl))
 have j7:xR 7=.int .i64 M:=(hJR 7 (by simp)).2 _ rfl
 rw [j7]
 obtain⟨-,-,u4⟩:=hWR
 obtain⟨Af,bf⟩:=u4 (hdR 6 (by simp))
 clear hJR hdR keepW j7 cE d4
 have cF:=own_cell Af.L.row hXz.out (j:=4) rfl
 obtain⟨Q,hQ⟩: ∃Q,(decide (0<M)||((moreG ya.h.t za.h.g M).en !=za.h.g.en))=Q:=⟨_,rfl⟩
 have hF:Hid (WLay T pre post ow wR B k g (pumpW W i n).1∧(pumpW W i n).2=Q):=by
  refine⟨?_,?_⟩
  ·rw [hPW.out]
   exact⟨cH,XS,aR,cR,Af⟩
  ·rw [hPW.out]
   exact hQ
 obtain⟨E',hE'⟩: ∃E',(moreG ya.h.t za.h.g M).en=E':=⟨_,rfl⟩
 have cF':wR.cell? ⟨g,(i+1)*13+4,none⟩=some (.bool E'):=by rw [←hE'];exact cF
 rw [hE']at hQ
 obtain⟨F',hF'⟩: ∃F',za.h.g.en=F':=⟨_,rfl⟩
 rw [hF']at hQ ⊢
 clear cF hXz hXS Af
 by_cases hM0:0<M
 ·have hM0d:decide (0<M)=true:=decide_eq_true hM0
  have hQ':Q=true:=by rw [←hQ,hM0d];rfl
  subst hQ'
  go_wp2_with fail
  go_ret
  exact⟨by rw [hR.out,hF.out.2];rfl,by rw [hR.out];exact hF.out.1,bf⟩
 ·have hM0d:decide (0<M)=false:=decide_eq_false hM0
  have hQ':(E' !=F')=Q:=by rw [←hQ,hM0d];rfl
  go_wp2_with fail
  go_ret
  exact⟨by rw [hR.out,hF.out.2,←hQ'];rfl,by rw [hR.out];exact hF.out.1,bf⟩
end Go.Proofs.YtfejobjgbadfjaaGreat.Wor
namespace Go.Proofs.YtfejobjgbadfjaaGreat.Wor
open Go.RowKit RowG Hop Roa Pum Lin
def hopR (W:Wd)(a:Ac):Wd×Bool:=if 0≤a.hp∧a.hp≤2 then hopW W a a.hp.toNat else(W,false)
theorem l16Hop {T:TypeId}{pre post:List Value}{ow:Nat}(hTa:T≠69)(k B:Nat)(W:Wd)(a:Ac)(hk:3≤a.kd∧a.kd≤8)(w:World){g:Nat}(lay:WLay T pre post ow w B k g W)(hB:B≤w.heap.size)(hkB:NT T)(ok:okW W=true):
  Calls Tryz.prog 66 #[.pointer (some ⟨k,ow,none⟩),a.v] w fun x w'=>x=.returned (.bool (hopR W a).2)∧WLay T pre post ow w' B k g (hopR W a).1∧Fr B g w w':=by
 obtain⟨kd,hp,ro,pl,n,tx⟩:=a
 dsimp only at hk
 by_cases hh:0≤hp∧hp≤2
 ·obtain⟨i,rfl⟩: ∃i:Nat,hp=(i:Int):=⟨hp.toNat,by omega⟩
  have hi:i<3:=by omega
  have hR:hopR W ⟨kd,(i:Int),ro,pl,n,tx⟩=hopW W ⟨kd,(i:Int),ro,pl,n,tx⟩ i:=by
   unfold hopR
   rw [if_pos hh]
   show hopW W _ ((i:Int)).toNat=_
   rw [show((i:Int)).toNat=i by omega]
  rw [hR]
  have hkd:kd=3∨kd=4∨kd=5∨kd=6∨kd=7∨kd=8:=by omega
  rcases hkd with rfl|rfl|rfl|rfl|rfl|rfl
  ·exact hopSend hTa k B W ro pl n tx i hi w lay hB hkB ok
  ·exact hopTell hTa k B W ro pl n tx i hi w lay hB hkB ok
  ·exact hopCome hTa k B W ro pl n tx i hi w lay hB hkB ok
  ·exact hopLose hTa k B W ro pl n tx i hi w lay hB hkB ok
  ·exact hopTwice hTa k B W ro pl n tx i hi w lay hB hkB ok
  ·exact hopPump hTa k B W ro pl n tx i hi w lay hB hkB ok
 ·have hR:Hid (hopR W ⟨kd,hp,ro,pl,n,tx⟩=(W,false)):=if_neg hh
  obtain⟨cH,xs,aR,cR,A⟩:=lay
  have bW:=(Below.refl w.heap.size w).alloc (Nat.le_refl _) (.cells #[.int .i64 kd,.int .i64 hp,.int .i64 ro,.int .i64 pl,.int .i64 n,.string tx] 69)
  have v0:Var 69 (w.alloc (.cells #[.int .i64 kd,.int .i64 hp,.int .i64 ro,.int .i64 pl,.int .i64 n,.string tx] 69)) w.heap.size [.int .i64 kd,.int .i64 hp,.int .i64 ro,.int .i64 pl,.int .i64 n,.string tx]:=Var.new w _
  replace A:=A.later bW
  have d1:=v0.cell (i:=1) rfl
  have hu:decide (0≤hp∧hp≤2)=false:=decide_eq_false hh
  go_enter Tryz.func66,Tryz.ntmps66
  go_upto_region 1 with(fail)
  generalize w.alloc (.cells #[.int .i64 kd,.int .i64 hp,.int .i64 ro,.int .i64 pl,.int .i64 n,.string tx] 69)=V at *
  go_wp2_with fail
  refine(Tak.l1InEq hu _).mono ?_
  rintro e w1 ⟨rfl,rfl⟩
  go_wp2_with fail
  go_ret
  exact⟨by rw [hR.out];rfl,by rw [hR.out];exact⟨cH,xs,aR,cR,A⟩,Fr.ofB bW hB⟩
end Go.Proofs.YtfejobjgbadfjaaGreat.Wor
