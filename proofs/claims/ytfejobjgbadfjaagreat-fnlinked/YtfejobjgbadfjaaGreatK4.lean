/- Contracts of this seat's functions, and their mathematics (GivD TakD RowH). -/
import Derived.Test.YtfejobjgbadfjaaGreatK3
import Derived.Deep.Cut
import Derived.BigRegion
import Derived.Test.YtfejobjgbadfjaaGreatK1
set_option linter.unusedVariables false
set_option linter.unusedSimpArgs false
set_option maxRecDepth 10000
set_option maxHeartbeats 8000000
namespace Go.Proofs.YtfejobjgbadfjaaGreat.Giv
open Go.RowKit RowG
def stopG (g:Gv)(at' n:Int):Int:=min (at'+n) (min (g.ba+g.bs.size) (max at' g.lm))
def offerG (g:Gv)(p n:Int):(Int×ByteArray)×Bool×Bool:=
 if p<g.ba∨g.ba+g.bs.size<p∨ ¬(0≤n∧n≤40)then((0,⟨#[]⟩),false,false)else
 if stopG g p n=p∧(g.en&&decide (stopG g p n=g.ba+g.bs.size))=false then((0,⟨#[]⟩),false,false)else
 ((p,g.bs.extract (p-g.ba).toNat (stopG g p n-g.ba).toNat),(g.en&&decide (stopG g p n=g.ba+g.bs.size)),true)
abbrev offV (r:(Int×ByteArray)×Bool×Bool):Value:=.tuple #[.agg #[.int .i64 r.1.1,.string r.1.2],.bool r.2.1,.bool r.2.2]
theorem res_cell_tmp2 {fn:Func}{p u v:Tmp}{ty:TypeId}(h:fn.results= #[.cell p ty,.tmp u,.tmp v])(tmps:Array Value)(P:Program)(w:World):
  (results fn tmps).run P w=((asAddr (tmps.getD p undef)).run P w).andThen fun a w₁=>((loadVar ty a).run P w₁).andThen fun r w₂=>.ok (.tuple #[r,tmps.getD u undef,tmps.getD v undef]) w₂:=by
 simp only [results,h]
 simp [Sem.run_bind,Result.andThen]
theorem l6Offer (g:Gv)(p n:Int)(w:World)(hok:g.ok=true):
  Calls Tryz.prog 104 #[g.v,.int .i64 p,.int .i64 n] w fun x w'=>x=.returned (offV (offerG g p n))∧Below w.heap.size w w':=by
 have hmix:=mix
 obtain⟨⟨i8,i9⟩,⟨j1,j2⟩,i3,i4,⟨j3,j4⟩,i6,i7⟩:=ok_iff.1 hok
 have hE:=fun w'=>l6End g w' ⟨⟨by omega,by omega⟩,by omega⟩
 have HR:Hid (offerG g p n=if p<g.ba∨g.ba+g.bs.size<p∨ ¬(0≤n∧n≤40)then((0,⟨#[]⟩),false,false)else
  if stopG g p n=p∧(g.en&&decide (stopG g p n=g.ba+g.bs.size))=false then((0,⟨#[]⟩),false,false)else
  ((p,g.bs.extract (p-g.ba).toNat (stopG g p n-g.ba).toNat),(g.en&&decide (stopG g p n=g.ba+g.bs.size)),true)):=rfl
 have HS:Hid (stopG g p n=min (p+n) (min (g.ba+g.bs.size) (max p g.lm))):=rfl
 generalize offerG g p n=R at *
 generalize stopG g p n=st at *
 clear hok i7
 obtain⟨ba,bs,cp,lm,en,dn⟩:=g
 dsimp only [Gv.c,Gv.v]at *
 obtain⟨V,hV⟩: ∃z,Hid (z=((w.alloc (.cells #[.int .i64 ba,.string bs,.int .i64 cp,.int .i64 lm,.bool en,.bool dn] 41)).alloc (.cells #[.int .i64 0,.string ⟨#[]⟩] 123)).alloc (.cells #[.int .i64 0,.string ⟨#[]⟩] 123)):=⟨_,rfl⟩
 have BV:Below w.heap.size w V:=by rw [hV.out];exact(((Below.refl _ _).alloc (Nat.le_refl _) _).alloc (by simp) _).alloc (by simp;omega) _
 have v3:Var 41 V w.heap.size [.int .i64 ba,.string bs,.int .i64 cp,.int .i64 lm,.bool en,.bool dn]:=by rw [hV.out];exact((Var.new w [.int .i64 ba,.string bs,.int .i64 cp,.int .i64 lm,.bool en,.bool dn]).alloc _).alloc _
 have v6:Var 123 V (w.heap.size+1) [.int .i64 0,.string ⟨#[]⟩]:=by
  rw [hV.out]
  have:=(Var.new (T:=123) (w.alloc (.cells #[.int .i64 ba,.string bs,.int .i64 cp,.int .i64 lm,.bool en,.bool dn] 41)) [.int .i64 0,.string ⟨#[]⟩]).alloc (.cells #[.int .i64 0,.string ⟨#[]⟩] 123)
  simpa using this
 have v9:Var 123 V (w.heap.size+1+1) [.int .i64 0,.string ⟨#[]⟩]:=by
  rw [hV.out]
  have:=Var.new (T:=123) ((w.alloc (.cells #[.int .i64 ba,.string bs,.int .i64 cp,.int .i64 lm,.bool en,.bool dn] 41)).alloc (.cells #[.int .i64 0,.string ⟨#[]⟩] 123)) [.int .i64 0,.string ⟨#[]⟩]
  simpa using this
 go_enter Tryz.func104,Tryz.ntmps104
 go_upto_region 2 with(fail)
 rw [←hV.out]
 clear hV
 obtain⟨e0,e1,e2,e3,e4,e5⟩:=v3.c6
 obtain⟨bad,hbad⟩: ∃bad,decide (p<ba∨ba+bs.size<p∨ ¬(0≤n∧n≤40))=bad:=⟨_,rfl⟩
 have HB:Hid _:=hbad
 clear hbad
 go_cut [27]from 13 (fun v wr=>v=.bool bad∧Below V.heap.size V wr)
 case first=>
  by_cases h1:p<ba
  case pos=>
   have hb:bad=true:=by rw [←HB.out];exact decide_eq_true (.inl h1)
   go_wp2_with fail
   go_meet
   exact⟨by rw [hb],Below.refl _ _⟩
  go_wp2_with fail
  refine(hE _).mono ?_
  rintro x w1 ⟨rfl,b1⟩
  by_cases h2:ba+bs.size<p
  case pos=>
   have hb:bad=true:=by rw [←HB.out];exact decide_eq_true (.inr (.inl h2))
   go_wp2_with fail
   go_meet
   exact⟨by rw [hb],b1⟩
  go_wp2_with fail
  refine(Tak.l1In n 0 40 _).mono ?_
  rintro x w2 ⟨rfl,rfl⟩
  have hb:bad= !decide (0≤n∧n≤40):=by
   rw [←HB.out]
   by_cases h3:0≤n∧n≤40
   ·rw [decide_eq_true h3,decide_eq_false (by omega)];rfl
   ·rw [decide_eq_false h3,decide_eq_true (by omega)];rfl
  generalize decide (0≤n∧n≤40)=q at *
  go_wp2_with fail
  go_meet
  exact⟨by rw [hb,decide_eq_false (show ¬ba+(bs.size:Int)<p by omega),Bool.false_or],b1⟩
 case rest=>
  obtain⟨rfl,b1⟩:=hcut
  replace v3:=v3.later b1
  replace v6:=v6.later b1
  replace v9:=v9.later b1
  have B1:=BV.trans (b1.mono BV.size)
  clear b1 BV e0 e1 e2 e3 e4 e5
  have r0:=v6.cell (i:=0) rfl
  have r1:=v6.cell (i:=1) rfl
  have x0:=v6.free 0
  have x1:=v6.free 1
  cases bad
  case true=>
   have HZ:Hid (R=((0,⟨#[]⟩),false,false)):=by
    show _=_
    rw [HR.out,if_pos (of_decide_eq_true HB.out)]
   have q0:=v9.cell (i:=0) rfl
   have q1:=v9.cell (i:=1) rfl
   go_wp2_with fail
   refine bodyPost_ret (v:=offV ((0,⟨#[]⟩),false,false)) (by rw [res_cell_tmp2 rfl];go_simp;try rfl) rfl ⟨by rw [HZ.out],?_⟩
   iterate 2 (refine Below.setCell ?_ (by dsimp only;omega) _)
   exact B1
  case false=>
   have hb:=of_decide_eq_false HB.out
   have h1:ba≤p:=by omega
   have h2:p≤ba+bs.size:=by omega
   have h3:0≤n:=by omega
   have h4:n≤40:=by omega
   replace HR:Hid (R=if st=p∧(en&&decide (st=ba+bs.size))=false then((0,⟨#[]⟩),false,false)else((p,bs.extract (p-ba).toNat (st-ba).toNat),(en&&decide (st=ba+bs.size)),true)):=by
    have:=HR.out
    rw [if_neg hb]at this
    exact this
   have hst:=HS.out
   have s1:p≤st:=by omega
   have s2:st≤ba+bs.size:=by omega
   have hX: ∀w',Calls Tryz.prog 37 #[.int .i64 p,.int .i64 lm] w' fun e w''=>e=.returned (.int .i64 (max p lm))∧w'=w'':=fun w'=>by
    have:=Draw.l1Max p lm w'
    rw [show(if lm<p then p else lm)=max p lm by split <;>omega]at this
    exact this
   have hM1: ∀w',Calls Tryz.prog 38 #[.int .i64 (ba+bs.size),.int .i64 (max p lm)] w' fun e w''=>e=.returned (.int .i64 (min (ba+bs.size) (max p lm)))∧w'=w'':=fun w'=>by
    have:=Tak.l1Min (ba+bs.size) (max p lm) w'
    rw [show(if ba+(bs.size:Int)<max p lm then ba+(bs.size:Int)else max p lm)=min (ba+(bs.size:Int)) (max p lm) by split <;>omega]at this
    exact this
   have hM2: ∀w',Calls Tryz.prog 38 #[.int .i64 (p+n),.int .i64 (min (ba+bs.size) (max p lm))] w' fun e w''=>e=.returned (.int .i64 st)∧w'=w'':=fun w'=>by
    have:=Tak.l1Min (p+n) (min (ba+bs.size) (max p lm)) w'
    rw [show(if p+n<min (ba+(bs.size:Int)) (max p lm)then p+n else min (ba+(bs.size:Int)) (max p lm))=st by rw [hst];split <;>omega]at this
    exact this
   clear hst HS HB hb
   generalize min (ba+(bs.size:Int)) (max p lm)=m1 at *
   generalize max p lm=mx at *
   have HE:Hid _:=hE
   have HX:Hid _:=hX
   have H1:Hid _:=hM1
   have H2:Hid _:=hM2
   clear hE hX hM1 hM2
   obtain⟨e0,e1,e2,e3,e4,e5⟩:=v3.c6
   have d0:=Draw.Later.cell e0
   have d1:=Draw.Later.cell e1
   have d2:=Draw.Later.cell e2
   have d3:=Draw.Later.cell e3
   have d4:=Draw.Later.cell e4
   have d5:=Draw.Later.cell e5
   go_wp2_with fail
   refine Draw.wp_region_later hmix (by kernel_rfl) ?_
   repeat (go_big_quiet_step (first|(go_at_call 36;exact Draw.later_of (HE.out _))|(go_at_call 37;exact Draw.later_same (HX.out _))|(go_at_call 38;first|(with_reducible exact Draw.later_same (H1.out _))|(with_reducible exact Draw.later_same (H2.out _)))))
   refine wpQuiet_nil ?_
   intro wq hw'
   obtain⟨q9,hq⟩:=hw'
   have hBq:=q9.h
   rw [←hq]at hBq
   clear hq q9 d0 d1 d2 d3 d4 d5 e0 e1 e2 e3 e4 e5 HX H1 H2 r0 r1 x0 x1
   replace v3:=v3.later hBq
   replace v6:=v6.later hBq
   replace v9:=v9.later hBq
   have B2:=B1.trans (hBq.mono B1.size)
   clear hBq B1
   obtain⟨E,hE⟩: ∃E,(en&&decide (st=ba+bs.size))=E:=⟨_,rfl⟩
   replace HR:Hid (R=if st=p∧E=false then((0,⟨#[]⟩),false,false)else((p,bs.extract (p-ba).toNat (st-ba).toNat),E,true)):=by
    have:=HR.out
    rw [hE]at this
    exact this
   have HEE:Hid _:=hE
   clear hE
   obtain⟨e0,e1,e2,e3,e4,e5⟩:=v3.c6
   go_upto_region 5 with(fail)
   go_cut [11]from 40 (fun v wr=>v=.bool E∧Below wq.heap.size wq wr)
   case first=>
    cases en
    case false=>
     have hb:E=false:=HEE.out.symm
     go_wp2_with fail
     go_meet
     exact⟨by rw [hb],Below.refl _ _⟩
    go_wp2_with fail
    refine(HE.out _).mono ?_
    rintro x w1 ⟨rfl,b1⟩
    have hb:E=decide (st=ba+bs.size):=HEE.out.symm
    generalize ba+(bs.size:Int)=en2 at *
    go_wp2_with fail
    go_meet
    exact⟨by rw [hb];rfl,b1⟩
   case rest=>
    obtain⟨rfl,b1⟩:=hcut
    replace v3:=v3.later b1
    replace v6:=v6.later b1
    replace v9:=v9.later b1
    have B3:=B2.trans (b1.mono B2.size)
    clear b1 B2 e0 e1 e2 e3 e4 e5
    have r0:=v6.cell (i:=0) rfl
    have r1:=v6.cell (i:=1) rfl
    have x0:=v6.free 0
    have x1:=v6.free 1
    by_cases hc:st=p∧E=false
    case pos=>
     have HZ:Hid (R=((0,⟨#[]⟩),false,false)):=by
      show _=_
      rw [HR.out,if_pos hc]
     obtain⟨rfl,rfl⟩:=hc
     have q0:=v9.cell (i:=0) rfl
     have q1:=v9.cell (i:=1) rfl
     go_wp2_with fail
     refine bodyPost_ret (v:=offV ((0,⟨#[]⟩),false,false)) (by rw [res_cell_tmp2 rfl];go_simp;try rfl) rfl ⟨by rw [HZ.out],?_⟩
     iterate 2 (refine Below.setCell ?_ (by dsimp only;omega) _)
     exact B3
    have HZ:Hid (R=((p,bs.extract (p-ba).toNat (st-ba).toNat),E,true)):=by
     show _=_
     rw [HR.out,if_neg hc]
    have e0:=v3.cell (i:=0) rfl
    have e1:=v3.cell (i:=1) rfl
    have t1:0≤p-ba:=by omega
    have t2:p-ba≤st-ba:=by omega
    have t3:st-ba≤bs.size:=by omega
    have t4:0≤st-ba:=by omega
    have hc':E=true∨(E=false∧ ¬st=p):=by cases E <;>simp at hc ⊢;exact hc
    clear hc
    rcases hc' with rfl|⟨rfl,hc⟩
    all_goals go_wp2_with fail
    all_goals
     refine bodyPost_ret (v:=offV R) (by rw [res_cell_tmp2 rfl,HZ.out];go_simp;try rfl) rfl ⟨rfl,?_⟩
     iterate 2 (refine Below.setCell ?_ (by dsimp only;omega) _)
     exact B3
end Go.Proofs.YtfejobjgbadfjaaGreat.Giv
namespace Go.Proofs.YtfejobjgbadfjaaGreat.Tak
open Go.RowKit RowG
structure Tk where
 nx:Int
 bs:ByteArray
 l:List Pt
 cp:Int
 fi:Int
 en:Bool
def Tk.v (t:Tk)(a:Option Addr)(c:Nat):Value:=.agg #[.int .i64 t.nx,.string t.bs,.slice a t.l.length c,.int .i64 t.cp,.int .i64 t.fi,.bool t.en]
def Tk.ok (t:Tk):Bool:=takerB t.nx t.bs t.l t.cp t.fi t.en
def zeroK:Tk:=⟨0,⟨#[]⟩,[],0,0,false⟩
def Bd (l:List Pt):Prop:= ∀p∈l,-1152921504606846976≤p.1∧p.1≤4611686018427387904∧p.2.size≤2097152
theorem Bd.up {l:List Pt}(h:Bd l): ∀p∈l,p.1≤4611686018427387904∧p.2.size≤2097152:=fun p hp=>(h p hp).2
def inP (k:Int)(p:Pt):Bool:=decide (p.1≤k∧k<endP p)
def thereB (l:List Pt)(k:Int):Bool:=l.any (inP k)
theorem any_take {α:Type}{l:List α}{k:Nat}{x:α}(h:l[k]? =some x)(p:α→Bool):(l.take (k+1)).any p=((l.take k).any p||p x):=by
 have hk:k<l.length:=(List.getElem?_eq_some_iff.1 h).1
 have e:l.take (k+1)=l.take k++[x]:=by
  rw [List.take_add_one,h]
  rfl
 rw [e,List.any_append]
 simp
theorem l5There (nx:Int)(bs:ByteArray)(a:Option Addr)(n c:Nat)(cp fi:Int)(en:Bool)(l:List Pt)(k0:Int)(w:World)(hn:n=l.length)(h:partE.Lies w a l)(hl:l.length≤2097152)(hp:Bd l):
  Calls Tryz.prog 115 #[.agg #[.int .i64 nx,.string bs,.slice a n c,.int .i64 cp,.int .i64 fi,.bool en],.int .i64 k0] w fun x w'=>x=.returned (.bool (thereB l k0))∧Below w.heap.size w w':=by
 subst hn
 have hbx:=box6 w (.int .i64 nx) (.string bs) (.slice a l.length c) (.int .i64 cp) (.int .i64 fi) (.bool en) 44
 have hVs:Hid (w.heap.size<(w.alloc (.cells #[.int .i64 nx,.string bs,.slice a l.length c,.int .i64 cp,.int .i64 fi,.bool en] 44)).heap.size):=by show _<_;simp
 have BV:Below w.heap.size w (w.alloc (.cells #[.int .i64 nx,.string bs,.slice a l.length c,.int .i64 cp,.int .i64 fi,.bool en] 44)):=(Below.refl _ _).alloc (Nat.le_refl _) _
 have h2:Hid _:=hbx.2.2.1
 clear hbx
 go_enter Tryz.func115,Tryz.ntmps115
 go_wp2_with fail
 generalize hV:w.alloc (.cells #[.int .i64 nx,.string bs,.slice a l.length c,.int .i64 cp,.int .i64 fi,.bool en] 44)=V at *
 clear hV
 have hV1:=hVs.out
 go_loopw [5] (fun iv wr=> ∃k:Nat,k≤l.length∧iv=.int .i64 k∧Hid ((l.take k).any (inP k0)=false)∧Below V.heap.size V wr) (fun iv _=>l.length-(intOf iv).toNat)
 case atStart=>exact⟨0,Nat.zero_le _,rfl,by show _=_;simp,Below.refl _ _⟩
 case round=>
  obtain⟨k,hk,rfl,hall,hB⟩:=hrel
  have e2:=(hB.cell (p:=⟨w.heap.size,2,none⟩) hV1).trans h2.out
  have BW:Below w.heap.size w wr:=BV.trans (hB.mono BV.size)
  by_cases hlt:k<l.length
  ·obtain⟨⟨pa,pb⟩,hx⟩: ∃x,l[k]? =some x:=⟨l[k],List.getElem?_eq_getElem hlt⟩
   obtain⟨hp0,hpa,hpb⟩:=hp _ (List.mem_of_getElem? hx)
   replace hp0: -1152921504606846976≤pa:=hp0
   replace hpb:pb.size≤2097152:=hpb
   have HT:Hid ((l.take (k+1)).any (inP k0)=(decide (pa≤k0∧k0<endP (pa,pb)))):=by show _=_;rw [any_take hx,hall.out,Bool.false_or];rfl
   have HA:Hid (decide (pa≤k0∧k0<endP (pa,pb))=true→thereB l k0=true):=fun q=>List.any_eq_true.2 ⟨(pa,pb),List.mem_of_getElem? hx,q⟩
   have hL1:=h.later BW
   rcases hL1 with hL1|⟨b,off,ha,hL1⟩
   ·simp [hL1]at hlt
   ·have c0:wr.cell? ⟨b,off+k*2,none⟩=some (.int .i64 pa):=El.Lies.cell hL1 hx (j:=0) rfl
    have c1:wr.cell? ⟨b,off+k*2+1,none⟩=some (.string pb):=El.Lies.cell hL1 hx (j:=1) rfl
    have i0:(0:Int)≤(k:Int):=by omega
    have i1:(k:Int)<(l.length:Int):=by omega
    subst ha
    have hE: ∀q:World,Calls Tryz.prog 81 #[.agg #[.int .i64 pa,.string pb]] q fun x w'=>x=.returned (.int .i64 (endP (pa,pb)))∧Below q.heap.size q w':=fun q=>l5End pa pb q hpa (by omega) (by omega)
    generalize endP (pa,pb)=Z at *
    clear hL1 hx h hp hall
    by_cases h1:pa≤k0
    ·go_wp2_with fail
     refine(hE _).mono ?_
     rintro x wz ⟨rfl,bz⟩
     by_cases h3:k0<Z
     ·have HF:Hid (thereB l k0=true):=HA.out (decide_eq_true ⟨h1,h3⟩)
      clear HA HT
      go_wp2_with fail
      go_ret
      exact⟨by rw [HF.out];rfl,BW.trans (bz.mono BW.size)⟩
     ·have HF:Hid ((l.take (k+1)).any (inP k0)=false):=by show _=_;rw [HT.out];exact decide_eq_false (fun q=>h3 q.2)
      clear HA HT
      go_wp2_with fail
      go_roundw
      case rel=>exact⟨k+1,by omega,by go_num,HF,hB.trans (bz.mono hB.size)⟩
      case measure=>simp [intOf];omega
    ·have HF:Hid ((l.take (k+1)).any (inP k0)=false):=by show _=_;rw [HT.out];exact decide_eq_false (fun q=>h1 q.1)
     clear HA HT hE
     go_wp2_with fail
     go_roundw
     case rel=>exact⟨k+1,by omega,by go_num,HF,hB⟩
     case measure=>simp [intOf];omega
  ·have hkl:l.take k=l:=List.take_of_length_le (by omega)
   have HF:Hid (thereB l k0=false):=by show _=_;rw [thereB,←hall.out,hkl]
   have i1: ¬(k:Int)<(l.length:Int):=by omega
   clear hall hkl
   go_wp2_with fail
   go_ret
   exact⟨by rw [HF.out];rfl,BW⟩
def takenAway (t:Tk)(n:Int):Tk×ByteArray:=
 if t.ok then(if n<0∨(t.bs.size:Int)<n then(t,⟨#[]⟩)else({t with bs:=t.bs.extract n.toNat t.bs.size},t.bs.extract 0 n.toNat))else(zeroK,⟨#[]⟩)
theorem specTakenAway (nx:Int)(bs:ByteArray)(a:Option Addr)(n0 c:Nat)(cp fi:Int)(en:Bool)(l:List Pt)(n:Int)(w:World)(hn:n0=l.length)(h:partE.Lies w a l)(hl:l.length≤2097152)(hbs:bs.size≤2097152)(hp:Bd l)(ha:a=none→c=0):
  Calls Tryz.prog 97 #[.agg #[.int .i64 nx,.string bs,.slice a n0 c,.int .i64 cp,.int .i64 fi,.bool en],.int .i64 n] w fun x w'=> ∃a' c',x=.returned (.tuple #[(takenAway ⟨nx,bs,l,cp,fi,en⟩ n).1.v a' c',.string (takenAway ⟨nx,bs,l,cp,fi,en⟩ n).2])∧partE.Own 123 w' w.heap.size a' c' (takenAway ⟨nx,bs,l,cp,fi,en⟩ n).1.l∧Below w.heap.size w w':=by
 subst hn
 have hmix:=mix
 have B2:Below w.heap.size w ((w.alloc (.cells #[.int .i64 nx,.string bs,.slice a l.length c,.int .i64 cp,.int .i64 fi,.bool en] 44)).alloc (.cells #[.int .i64 0,.string ⟨#[]⟩,.slice none 0 0,.int .i64 0,.int .i64 0,.bool false] 44)):=((Below.refl _ _).alloc (Nat.le_refl _) _).alloc (by simp) _
 have v1:Var 44 ((w.alloc (.cells #[.int .i64 nx,.string bs,.slice a l.length c,.int .i64 cp,.int .i64 fi,.bool en] 44)).alloc (.cells #[.int .i64 0,.string ⟨#[]⟩,.slice none 0 0,.int .i64 0,.int .i64 0,.bool false] 44)) w.heap.size [.int .i64 nx,.string bs,.slice a l.length c,.int .i64 cp,.int .i64 fi,.bool en]:=(Var.new w [.int .i64 nx,.string bs,.slice a l.length c,.int .i64 cp,.int .i64 fi,.bool en]).alloc _
 have v2:Var 44 ((w.alloc (.cells #[.int .i64 nx,.string bs,.slice a l.length c,.int .i64 cp,.int .i64 fi,.bool en] 44)).alloc (.cells #[.int .i64 0,.string ⟨#[]⟩,.slice none 0 0,.int .i64 0,.int .i64 0,.bool false] 44)) (w.heap.size+1) [.int .i64 0,.string ⟨#[]⟩,.slice none 0 0,.int .i64 0,.int .i64 0,.bool false]:=by
  have:=Var.new (T:=44) (w.alloc (.cells #[.int .i64 nx,.string bs,.slice a l.length c,.int .i64 cp,.int .i64 fi,.bool en] 44)) [.int .i64 0,.string ⟨#[]⟩,.slice none 0 0,.int .i64 0,.int .i64 0,.bool false]
  simpa using this
 go_enter Tryz.func97,Tryz.ntmps97
 go_wp2_with fail
 generalize hV:((w.alloc (.cells #[.int .i64 nx,.string bs,.slice a l.length c,.int .i64 cp,.int .i64 fi,.bool en] 44)).alloc (.cells #[.int .i64 0,.string ⟨#[]⟩,.slice none 0 0,.int .i64 0,.int .i64 0,.bool false] 44))=V at *
 clear hV
 refine(specTakerOk nx bs a _ c cp fi en l V rfl (h.later B2) hl hbs hp.up).mono ?_
 rintro x w1 ⟨rfl,b1⟩
 have B1:=B2.trans (b1.mono B2.size)
 have x1:=v1.later b1
 have x2:=v2.later b1
 clear b1 B2 v1 v2
 cases hok:takerB nx bs l cp fi en
 ·have e:takenAway ⟨nx,bs,l,cp,fi,en⟩ n=(zeroK,⟨#[]⟩):=by simp [takenAway,Tk.ok,hok]
  obtain⟨r0,r1,r2,r3,r4,r5⟩:=x2.c6
  obtain⟨z0,z1,z2,z3,z4,z5⟩:=x2.f6
  clear x1 x2
  go_wp2_with fail
  refine bodyPost_ret (v:=.tuple #[zeroK.v none 0,.string ⟨#[]⟩]) (by rw [res_cell_tmp rfl];go_simp;rfl) rfl ⟨none,0,by rw [e],by rw [e];exact El.Own.none _ _,?_⟩
  iterate 6 (refine Below.setCell ?_ (by dsimp only;omega) _)
  exact B1
 ·have c0:=x1.cell (i:=0) rfl
  have c1:=x1.cell (i:=1) rfl
  have c2:=x1.cell (i:=2) rfl
  have c3:=x1.cell (i:=3) rfl
  have c4:=x1.cell (i:=4) rfl
  have c5:=x1.cell (i:=5) rfl
  go_wp2_with fail
  refine(l5Copy nx bs a _ c cp fi en l w1 rfl (h.later B1) hl ha).mono ?_
  rintro x w3 ⟨a',c',rfl,o3,b3⟩
  have y2:=x2
  have oo:=o3
  have x1:=x1.later b3
  have x2:=x2.later b3
  have B3:=B1.trans (b3.mono B1.size)
  have o3:=o3.mono B1.size
  clear c0 c1 c2 c3 c4 c5
  have hw3:w.heap.size+1<w3.heap.size:=x2.lt
  have hx: ∀x,a'=some x→w.heap.size+1<x.block∧x.block<w3.heap.size:=fun x e=>⟨by have:=(oo.lt x e).1;have:=y2.lt;omega,(oo.lt x e).2⟩
  have x3:Var 44 (w3.alloc (.cells #[.int .i64 nx,.string bs,.slice a' l.length c',.int .i64 cp,.int .i64 fi,.bool en] 44)) w3.heap.size [.int .i64 nx,.string bs,.slice a' l.length c',.int .i64 cp,.int .i64 fi,.bool en]:=Var.new _ _
  have x1:=x1.alloc (.cells #[.int .i64 nx,.string bs,.slice a' l.length c',.int .i64 cp,.int .i64 fi,.bool en] 44)
  have x2:=x2.alloc (.cells #[.int .i64 nx,.string bs,.slice a' l.length c',.int .i64 cp,.int .i64 fi,.bool en] 44)
  have o4:=o3.alloc (.cells #[.int .i64 nx,.string bs,.slice a' l.length c',.int .i64 cp,.int .i64 fi,.bool en] 44)
  have B4:Below w.heap.size w (w3.alloc (.cells #[.int .i64 nx,.string bs,.slice a' l.length c',.int .i64 cp,.int .i64 fi,.bool en] 44)):=B3.alloc B3.size _
  clear y2 oo o3 B3 b3
  go_upto_region 4 with(fail)
  generalize w3.alloc (.cells #[.int .i64 nx,.string bs,.slice a' l.length c',.int .i64 cp,.int .i64 fi,.bool en] 44)=W at *
  generalize w3.heap.size=k3 at *
  have c0:=x1.cell (i:=0) rfl
  have c1:=x1.cell (i:=1) rfl
  obtain⟨r0,r1,r2,r3,r4,r5⟩:=x2.c6
  obtain⟨z0,z1,z2,z3,z4,z5⟩:=x2.f6
  obtain⟨d0,d1,d2,d3,d4,d5⟩:=x3.c6
  have g1:=x3.free 1
  have HX1:Hid _:=x1
  have HX2:Hid _:=x2
  have HX3:Hid _:=x3
  clear x1 x2 x3
  by_cases hn0:n<0
  ·have e:Hid (takenAway ⟨nx,bs,l,cp,fi,en⟩ n=(⟨nx,bs,l,cp,fi,en⟩,⟨#[]⟩)):=by show _=_;simp [takenAway,Tk.ok,hok,hn0]
   go_wp2_with fail
   refine bodyPost_ret (v:=.tuple #[.agg #[.int .i64 nx,.string bs,.slice a' l.length c',.int .i64 cp,.int .i64 fi,.bool en],.string ⟨#[]⟩]) (by rw [res_cell_tmp rfl];go_simp) rfl ⟨a',c',by rw [e.out];rfl,?_,?_⟩
   ·rw [e.out]
    exact own_put6 o4 (fun x e=>by have:=hx x e;omega) _ _ _ _ _ _
   ·exact below_put6 B4 (Nat.le_succ _) _ _ _ _ _ _
  ·by_cases hn1:(bs.size:Int)<n
   ·have e:Hid (takenAway ⟨nx,bs,l,cp,fi,en⟩ n=(⟨nx,bs,l,cp,fi,en⟩,⟨#[]⟩)):=by show _=_;simp [takenAway,Tk.ok,hok,hn1]
    go_wp2_with fail
    refine bodyPost_ret (v:=.tuple #[.agg #[.int .i64 nx,.string bs,.slice a' l.length c',.int .i64 cp,.int .i64 fi,.bool en],.string ⟨#[]⟩]) (by rw [res_cell_tmp rfl];go_simp) rfl ⟨a',c',by rw [e.out];rfl,?_,?_⟩
    ·rw [e.out]
     exact own_put6 o4 (fun x e=>by have:=hx x e;omega) _ _ _ _ _ _
    ·exact below_put6 B4 (Nat.le_succ _) _ _ _ _ _ _
   ·have e:Hid (takenAway ⟨nx,bs,l,cp,fi,en⟩ n=(⟨nx,bs.extract n.toNat bs.size,l,cp,fi,en⟩,bs.extract 0 n.toNat)):=by show _=_;simp [takenAway,Tk.ok,hok,hn0,hn1]
    have i0:(0:Int)≤n:=by omega
    have i1:n≤(bs.size:Int):=by omega
    have hne:k3≠w.heap.size:=by omega
    have hne':k3≠w.heap.size+1:=by omega
    go_wp2_with fail
    have y1:=Var.other (T:=44) HX1.out (p:=⟨k3,1,none⟩) hne.symm (.string (bs.extract n.toNat bs.size))
    have y2:=Var.other (T:=44) HX2.out (p:=⟨k3,1,none⟩) hne'.symm (.string (bs.extract n.toNat bs.size))
    have y3:=Var.set (T:=44) HX3.out 1 (.string (bs.extract n.toNat bs.size))
    have o5:=o4.setCell (p:=⟨k3,1,none⟩) (fun x e=>by have:=hx x e;dsimp only;omega) (.string (bs.extract n.toNat bs.size))
    have B5:=B4.setCell (p:=⟨k3,1,none⟩) (by dsimp only;omega) (.string (bs.extract n.toNat bs.size))
    clear c0 c1 r0 r1 r2 r3 r4 r5 z0 z1 z2 z3 z4 z5 d0 d1 d2 d3 d4 d5 g1 HX1 HX2 HX3 o4 B4
    generalize W.setCell ⟨k3,1,none⟩ (.string (bs.extract n.toNat bs.size))=W5 at *
    have c0:=y1.cell (i:=0) rfl
    have c1:=y1.cell (i:=1) rfl
    obtain⟨r0,r1,r2,r3,r4,r5⟩:=y2.c6
    obtain⟨z0,z1,z2,z3,z4,z5⟩:=y2.f6
    obtain⟨d0,d1,d2,d3,d4,d5⟩:=y3.c6
    simp only [List.set_cons_succ,List.set_cons_zero]at y3
    clear y1 y2 y3
    go_region
    go_wp2_with fail
    refine bodyPost_ret (v:=.tuple #[.agg #[.int .i64 nx,.string (bs.extract n.toNat bs.size),.slice a' l.length c',.int .i64 cp,.int .i64 fi,.bool en],.string (bs.extract 0 n.toNat)]) (by rw [res_cell_tmp rfl];go_simp) rfl ⟨a',c',by rw [e.out];rfl,?_,?_⟩
    ·rw [e.out]
     exact(own_put6 o5 (fun x e=>by have:=hx x e;omega) _ _ _ _ _ _).drew
    ·exact(below_put6 B5 (Nat.le_succ _) _ _ _ _ _ _).drew
end Go.Proofs.YtfejobjgbadfjaaGreat.Tak
namespace Go.Proofs.YtfejobjgbadfjaaGreat.RowG
open Go.RowKit
variable {α:Type} {E:El α} {T:TypeId}
theorem El.Lies.grown {w w':World}{r:Option Nat}{a:Option Addr}{l:List α}(h:E.Lies w a l)(g:w.grownBy w' r)(hr: ∀x,a=some x→some x.block≠r):E.Lies w' a l:=
 h.same fun x hx hl=>g.block x.block hl (hr x hx)
theorem El.Own.grown {w w':World}{B:Nat}{r:Option Nat}{a:Option Addr}{c:Nat}{l:List α}(h:E.Own T w B a c l)(g:w.grownBy w' r)(hr: ∀x,a=some x→some x.block≠r):E.Own T w' B a c l:=
 h.same fun x hx=>g.block x.block (h.lt x hx).2 (hr x hx)
theorem El.Lies.alloc {w:World}{a:Option Addr}{l:List α}(h:E.Lies w a l)(o:Obj):E.Lies (w.alloc o) a l:=
 h.same fun x hx hl=>Below.heap_alloc _ _ _ hl
theorem grown_cell {w w':World}{r:Option Nat}(g:w.grownBy w' r){p:Addr}{v:Value}(h:w.cell? p=some v)(hr:some p.block≠r):w'.cell? p=some v:=by
 rw [World.cell?_of_block (w:=w) (g.block p.block (Draw.lt_of_cell h) hr),h]
theorem alloc_cell {w:World}{p:Addr}{v:Value}(h:w.cell? p=some v)(o:Obj):(w.alloc o).cell? p=some v:=by
 rw [World.cell?_of_block (w:=w) (Below.heap_alloc _ _ _ (Draw.lt_of_cell h)),h]
theorem kept_grown {w0 w w':World}{r:Option Nat}{c:Nat}(k:Draw.Kept c w0 w)(g:w.grownBy w' r)(hr: ∀x,r=some x→w0.heap.size≤x∨x=c):Draw.Kept c w0 w':=
 ⟨g.os.trans k.os,g.tape.trans k.tape,g.output.trans k.output,Nat.le_trans k.size g.size,fun i hi hc=>(g.block i (Nat.lt_of_lt_of_le hi k.size) (fun e=>by rcases hr i e.symm with q|q <;>omega)).trans (k.block i hi hc)⟩
end Go.Proofs.YtfejobjgbadfjaaGreat.RowG
