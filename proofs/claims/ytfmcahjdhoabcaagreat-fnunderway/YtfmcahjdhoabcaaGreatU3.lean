/- Contracts of this seat's functions, and their mathematics (TakC GivA). -/
import Derived.Test.YtfmcahjdhoabcaaGreatU2
import Derived.Test.YtfmcahjdhoabcaaGreatU1
import Derived.Deep.Cut
set_option linter.unusedVariables false
set_option linter.unusedSimpArgs false
set_option maxHeartbeats 4000000
namespace Go.Proofs.YtfmcahjdhoabcaaGreat.Tak
open Go.RowKit RowG
theorem stand {p:Prop}(h:Hid p):p:=h.out
theorem res_cell {fn:Func}{p:Tmp}{ty:TypeId}(h:fn.results= #[.cell p ty])(tmps:Array Value)(P:Program)(w:World):
  (results fn tmps).run P w=((asAddr (tmps.getD p undef)).run P w).andThen fun a w₁=>(loadVar ty a).run P w₁:=by
 simp only [results,h]
 simp [Sem.run_bind,Result.andThen]
theorem res_cell_tmp {fn:Func}{p u:Tmp}{ty:TypeId}(h:fn.results= #[.cell p ty,.tmp u])(tmps:Array Value)(P:Program)(w:World):
  (results fn tmps).run P w=((asAddr (tmps.getD p undef)).run P w).andThen fun a w₁=>((loadVar ty a).run P w₁).andThen fun v w₂=>.ok (.tuple #[v,tmps.getD u undef]) w₂:=by
 simp only [results,h]
 simp [Sem.run_bind,Result.andThen]
abbrev put6 (w:World)(k:Nat)(v0 v1 v2 v3 v4 v5:Value):World:=(((((w.setCell ⟨k,0,none⟩ v0).setCell ⟨k,1,none⟩ v1).setCell ⟨k,2,none⟩ v2).setCell ⟨k,3,none⟩ v3).setCell ⟨k,4,none⟩ v4).setCell ⟨k,5,none⟩ v5
theorem heap_put6 (w:World)(k i:Nat)(v0 v1 v2 v3 v4 v5:Value)(h:i≠k):(put6 w k v0 v1 v2 v3 v4 v5).heap[i]? =w.heap[i]? :=by
 unfold put6
 rw [Below.heap_setCell _ _ _ _ h,Below.heap_setCell _ _ _ _ h,Below.heap_setCell _ _ _ _ h,Below.heap_setCell _ _ _ _ h,Below.heap_setCell _ _ _ _ h,Below.heap_setCell _ _ _ _ h]
theorem below_put6 {B:Nat}{w0 w:World}(h:Below B w0 w){k:Nat}(hk:B≤k)(v0 v1 v2 v3 v4 v5:Value):Below B w0 (put6 w k v0 v1 v2 v3 v4 v5):=
 (((((h.setCell (p:=⟨k,0,none⟩) hk _).setCell (p:=⟨k,1,none⟩) hk _).setCell (p:=⟨k,2,none⟩) hk _).setCell (p:=⟨k,3,none⟩) hk _).setCell (p:=⟨k,4,none⟩) hk _).setCell (p:=⟨k,5,none⟩) hk _
theorem own_put6 {α:Type}{E:El α}{T:TypeId}{w:World}{B:Nat}{a:Option Addr}{c:Nat}{l:List α}(h:E.Own T w B a c l){k:Nat}(hk: ∀x,a=some x→x.block≠k)(v0 v1 v2 v3 v4 v5:Value):E.Own T (put6 w k v0 v1 v2 v3 v4 v5) B a c l:=
 h.same fun x hx=>heap_put6 _ _ _ _ _ _ _ _ _ (hk x hx)
def zeroT:Value:=.agg #[.int .i64 0,.string ⟨#[]⟩,.slice none 0 0,.int .i64 0,.int .i64 0,.bool false]
def newT (n:Int):Value:=.agg #[.int .i64 0,.string ⟨#[]⟩,.slice none 0 0,.int .i64 n,.int .i64 (-1),.bool false]
def capB (n:Int):Bool:=decide (1≤n∧n≤400)
theorem specNewTaker (n:Int)(w:World):
  Calls Tryz.prog 101 #[.int .i64 n] w fun x w'=>x=.returned (.tuple #[if capB n then newT n else zeroT,.bool (capB n)])∧Below w.heap.size w w':=by
 cases h:capB n
 ·go_enter Tryz.func101,Tryz.ntmps101
  go_wp2_with (go_at_call 70;refine(l1InEq h _).mono ?_;rintro x w' ⟨rfl,rfl⟩)
  exact bodyPost_ret (v:=.tuple #[zeroT,.bool false]) (by rw [res_cell_tmp rfl];go_simp;rfl) rfl ⟨rfl,by repeat (first|exact(Below.refl _ _).alloc (Nat.le_refl _) _|refine Below.setCell ?_ (Nat.le_refl _) _)⟩
 ·go_enter Tryz.func101,Tryz.ntmps101
  go_wp2_with (go_at_call 70;refine(l1InEq h _).mono ?_;rintro x w' ⟨rfl,rfl⟩)
  exact bodyPost_ret (v:=.tuple #[newT n,.bool true]) (by rw [res_cell_tmp rfl];go_simp;rfl) rfl ⟨rfl,by repeat (first|exact(Below.refl _ _).alloc (Nat.le_refl _) _|refine Below.setCell ?_ (Nat.le_refl _) _)⟩
def limitOf (nx:Int)(bs:ByteArray)(l:List Pt)(cp fi:Int)(en:Bool):Int:=if takerB nx bs l cp fi en then limT nx bs cp else -1
theorem taker_in {nx:Int}{bs:ByteArray}{l:List Pt}{cp fi:Int}{en:Bool}(h:takerB nx bs l cp fi en=true):inT nx bs l cp:=by
 simp only [takerB,Bool.and_eq_true,decide_eq_true_eq]at h
 exact h.1
theorem l5Copy (nx:Int)(bs:ByteArray)(a:Option Addr)(n c:Nat)(cp fi:Int)(en:Bool)(l:List Pt)(w:World)(hn:n=l.length)(h:partE.Lies w a l)(hl:l.length≤2097152)(ha:a=none→c=0):
  Calls Tryz.prog 113 #[.agg #[.int .i64 nx,.string bs,.slice a n c,.int .i64 cp,.int .i64 fi,.bool en]] w fun x w'=> ∃a' c',x=.returned (.agg #[.int .i64 nx,.string bs,.slice a' l.length c',.int .i64 cp,.int .i64 fi,.bool en])∧partE.Own 127 w' w.heap.size a' c' l∧Below w.heap.size w w':=by
 subst hn
 have b3:Below w.heap.size w (((w.alloc (.cells #[.int .i64 nx,.string bs,.slice a l.length c,.int .i64 cp,.int .i64 fi,.bool en] 50)).alloc (.cells #[.int .i64 0,.string ⟨#[]⟩,.slice none 0 0,.int .i64 0,.int .i64 0,.bool false] 50)).alloc (.cells #[] 127)):=(((Below.refl _ _).alloc (Nat.le_refl _) _).alloc (by simp) _).alloc (by simp;omega) _
 have v1:Var 50 (((w.alloc (.cells #[.int .i64 nx,.string bs,.slice a l.length c,.int .i64 cp,.int .i64 fi,.bool en] 50)).alloc (.cells #[.int .i64 0,.string ⟨#[]⟩,.slice none 0 0,.int .i64 0,.int .i64 0,.bool false] 50)).alloc (.cells #[] 127)) w.heap.size [.int .i64 nx,.string bs,.slice a l.length c,.int .i64 cp,.int .i64 fi,.bool en]:=((Var.new w [.int .i64 nx,.string bs,.slice a l.length c,.int .i64 cp,.int .i64 fi,.bool en]).alloc _).alloc _
 have v2:Var 50 (((w.alloc (.cells #[.int .i64 nx,.string bs,.slice a l.length c,.int .i64 cp,.int .i64 fi,.bool en] 50)).alloc (.cells #[.int .i64 0,.string ⟨#[]⟩,.slice none 0 0,.int .i64 0,.int .i64 0,.bool false] 50)).alloc (.cells #[] 127)) (w.heap.size+1) [.int .i64 0,.string ⟨#[]⟩,.slice none 0 0,.int .i64 0,.int .i64 0,.bool false]:=by
  have:=(Var.new (T:=50) (w.alloc (.cells #[.int .i64 nx,.string bs,.slice a l.length c,.int .i64 cp,.int .i64 fi,.bool en] 50)) [.int .i64 0,.string ⟨#[]⟩,.slice none 0 0,.int .i64 0,.int .i64 0,.bool false]).alloc (.cells #[] 127)
  simpa using this
 have o0:partE.Own 127 (((w.alloc (.cells #[.int .i64 nx,.string bs,.slice a l.length c,.int .i64 cp,.int .i64 fi,.bool en] 50)).alloc (.cells #[.int .i64 0,.string ⟨#[]⟩,.slice none 0 0,.int .i64 0,.int .i64 0,.bool false] 50)).alloc (.cells #[] 127)) (w.heap.size+1+1) (some ⟨w.heap.size+1+1,0,none⟩) 0 []:=by
  have:=El.Own.made (E:=partE) (T:=127) ((w.alloc (.cells #[.int .i64 nx,.string bs,.slice a l.length c,.int .i64 cp,.int .i64 fi,.bool en] 50)).alloc (.cells #[.int .i64 0,.string ⟨#[]⟩,.slice none 0 0,.int .i64 0,.int .i64 0,.bool false] 50))
  simpa using this
 have hB:w.heap.size+1+1≤(((w.alloc (.cells #[.int .i64 nx,.string bs,.slice a l.length c,.int .i64 cp,.int .i64 fi,.bool en] 50)).alloc (.cells #[.int .i64 0,.string ⟨#[]⟩,.slice none 0 0,.int .i64 0,.int .i64 0,.bool false] 50)).alloc (.cells #[] 127)).heap.size:=by simp
 have l0:=h.later b3
 have hz:([]:List Pt).length+l.length≤4194304:=by simp;omega
 go_enter Tryz.func113,Tryz.ntmps113
 go_wp2_with (at_builtin;refine wpList_app typ (by decide) (by rfl) _ _ (by rfl) (w.heap.size+1+1) (some ⟨w.heap.size+1+1,0,none⟩) 0 0 [] l rfl (by rfl) o0 hB a l.length c rfl (by rfl) l0 ha hz ?_;intro a' c' w3 o3 g3;refine stand ?_)
 have x1:=v1.grown g3 (by intro g hg;simp [blk]at hg;omega)
 have x2:=v2.grown g3 (by intro g hg;simp [blk]at hg;omega)
 have B3:=grown_below b3 (Nat.le_refl _) (by intro g hg;simp [blk]at hg;omega) g3
 rw [List.nil_append]at o3
 clear b3 v1 v2 o0 hB l0 hz g3
 show wpList _ _ _ _ _ _
 obtain⟨c0,c1,c2,c3,c4,c5⟩:=x1.c6
 have f2:=x1.free 2
 obtain⟨r0,r1,r2,r3,r4,r5⟩:=x2.c6
 obtain⟨z0,z1,z2,z3,z4,z5⟩:=x2.f6
 clear x1 x2
 have hx:=fun x e=>(o3.lt x e).1
 go_wp2_with fail
 refine bodyPost_ret (v:=.agg #[.int .i64 nx,.string bs,.slice a' l.length c',.int .i64 cp,.int .i64 fi,.bool en]) (by rw [res_cell rfl];go_simp) rfl ⟨a',c',rfl,?_,?_⟩
 ·iterate 7 (refine El.Own.setCell ?_ (fun x hx'=>by have:=hx x hx';dsimp only;omega) _)
  exact o3.mono (by omega)
 ·iterate 7 (refine Below.setCell ?_ (by dsimp only;omega) _)
  exact B3
end Go.Proofs.YtfmcahjdhoabcaaGreat.Tak
namespace Go.Proofs.YtfmcahjdhoabcaaGreat.Giv
open Go.RowKit RowG
theorem mix:Tryz.prog.follows .mixedOrders=true:=by kernel_rfl
structure Gv where
 ba:Int
 bs:ByteArray
 cp:Int
 lm:Int
 en:Bool
 dn:Bool
abbrev Gv.c (g:Gv):List Value:=[.int .i64 g.ba,.string g.bs,.int .i64 g.cp,.int .i64 g.lm,.bool g.en,.bool g.dn]
abbrev Gv.v (g:Gv):Value:=.agg #[.int .i64 g.ba,.string g.bs,.int .i64 g.cp,.int .i64 g.lm,.bool g.en,.bool g.dn]
abbrev zeroG:Gv:=⟨0,⟨#[]⟩,0,0,false,false⟩
def Gv.ok (g:Gv):Bool:=decide (1≤g.cp∧g.cp≤400)&&(Num.plB g.ba&&(decide ((g.bs.size:Int)≤g.cp)&&(Num.plB (g.ba+g.bs.size)&&(Num.plB g.lm&&(decide (g.ba≤g.lm)&&(!g.dn||(g.en&&decide (g.bs.size=0))))))))
theorem ok_iff {g:Gv}:g.ok=true↔(1≤g.cp∧g.cp≤400)∧(0≤g.ba∧g.ba≤1000000000)∧((g.bs.size:Int)≤g.cp)∧(g.ba+g.bs.size≤1000000000)∧(0≤g.lm∧g.lm≤1000000000)∧g.ba≤g.lm∧(g.dn=true→g.en=true∧g.bs.size=0):=by
 simp only [Gv.ok,Num.plB,Bool.and_eq_true,decide_eq_true_eq,Bool.or_eq_true,Bool.not_eq_true']
 constructor
 ·rintro⟨h1,h2,h3,h4,h5,h6,h7⟩
  refine⟨h1,h2,h3,by omega,h5,h6,fun hd=>?_⟩
  rcases h7 with h7|h7
  ·rw [hd]at h7;cases h7
  ·exact h7
 ·rintro⟨h1,h2,h3,h4,h5,h6,h7⟩
  refine⟨h1,h2,h3,by omega,h5,h6,?_⟩
  cases hd:g.dn
  ·exact .inl rfl
  ·exact .inr (h7 hd)
def small (g:Gv):Prop:=(-4611686018427387904≤g.ba∧g.ba≤4611686018427387904)∧g.bs.size≤2097152
theorem nil_iff (b:ByteArray):b.toList=[]↔b.size=0:=by
 rw [ByteArray.toList_eq,←List.length_eq_zero_iff,Array.length_toList]
 rfl
theorem isEmpty_eq (b:ByteArray):b.toList.isEmpty=decide (b.size=0):=by
 cases h:b.toList with
 | nil=>rw [decide_eq_true ((nil_iff b).1 h)];rfl
 | cons x r=>rw [decide_eq_false (fun q=>by rw [(nil_iff b).2 q]at h;cases h)];rfl
theorem l6End (g:Gv)(w:World)(h:small g):
  Calls Tryz.prog 53 #[g.v] w fun x w'=>x=.returned (.int .i64 (g.ba+g.bs.size))∧Below w.heap.size w w':=by
 obtain⟨⟨h0,h1⟩,h2⟩:=h
 obtain⟨ba,bs,cp,lm,en,dn⟩:=g
 dsimp only [Gv.v]at *
 go_enter Tryz.func53,Tryz.ntmps53
 go_wp2_with fail
 go_ret
 exact⟨rfl,(Below.refl _ _).alloc (Nat.le_refl _) _⟩
theorem specGiverOk (g:Gv)(w:World)(hs:g.bs.size≤2097152):
  Calls Tryz.prog 76 #[g.v] w fun x w'=>x=.returned (.bool g.ok)∧Below w.heap.size w w':=by
 obtain⟨ba,bs,cp,lm,en,dn⟩:=g
 dsimp only [Gv.v,Gv.c]at *
 obtain⟨V,hV⟩: ∃z,Hid (z=w.alloc (.cells #[.int .i64 ba,.string bs,.int .i64 cp,.int .i64 lm,.bool en,.bool dn] 47)):=⟨_,rfl⟩
 have v1:Var 47 V w.heap.size [.int .i64 ba,.string bs,.int .i64 cp,.int .i64 lm,.bool en,.bool dn]:=by rw [hV.out];exact Var.new w _
 have b1:Below w.heap.size w V:=by rw [hV.out];exact(Below.refl _ _).alloc (Nat.le_refl _) _
 go_enter Tryz.func76,Tryz.ntmps76
 go_upto_region 1 with(fail)
 rw [←hV.out]
 clear hV
 obtain⟨e0,e1,e2,e3,e4,e5⟩:=v1.c6
 go_wp2_with fail
 refine(Tak.l1In cp 1 400 _).mono ?_
 rintro x w1 ⟨rfl,rfl⟩
 cases h1:decide (1≤cp∧cp≤400)
 case false=>
  have HF:Hid (Gv.ok ⟨ba,bs,cp,lm,en,dn⟩=false):=by show _=_;simp only [Gv.ok,h1,Bool.false_and]
  clear h1
  go_wp2_with fail
  go_ret
  exact⟨by rw [HF.out];rfl,b1⟩
 go_wp2_with fail
 refine(Num.l1Place ba _).mono ?_
 rintro x w1 ⟨rfl,rfl⟩
 cases h2:Num.plB ba
 case false=>
  have HF:Hid (Gv.ok ⟨ba,bs,cp,lm,en,dn⟩=false):=by show _=_;simp only [Gv.ok,h2,Bool.false_and,Bool.and_false]
  clear h1 h2
  go_wp2_with fail
  go_ret
  exact⟨by rw [HF.out];rfl,b1⟩
 by_cases h3:(bs.size:Int)≤cp
 case neg=>
  have HF:Hid (Gv.ok ⟨ba,bs,cp,lm,en,dn⟩=false):=by show _=_;simp only [Gv.ok,decide_eq_false h3,Bool.false_and,Bool.and_false]
  have h3':cp<(bs.size:Int):=by omega
  clear h1 h2 h3
  go_wp2_with fail
  go_ret
  exact⟨by rw [HF.out];rfl,b1⟩
 have h3': ¬cp<(bs.size:Int):=by omega
 have H1:Hid (decide (1≤cp∧cp≤400)=true):=h1
 have H2:Hid (Num.plB ba=true):=h2
 have H3:Hid ((bs.size:Int)≤cp):=h3
 have hb0:=(Num.pl_t h2).1
 have hb1:=(Num.pl_t h2).2
 clear h1 h2 h3
 go_wp2_with fail
 refine(l6End ⟨ba,bs,cp,lm,en,dn⟩ _ ⟨⟨by dsimp only;omega,by dsimp only;omega⟩,hs⟩).mono ?_
 rintro x w2 ⟨rfl,b2⟩
 have v2:=v1.later b2
 have B2:=b1.trans (b2.mono b1.size)
 clear e0 e1 e2 e3 e4 e5 b1 b2 v1
 obtain⟨e0,e1,e2,e3,e4,e5⟩:=v2.c6
 go_wp2_with fail
 refine(Num.l1Place _ _).mono ?_
 rintro x w1 ⟨rfl,rfl⟩
 cases h4:Num.plB (ba+bs.size)
 case false=>
  have HF:Hid (Gv.ok ⟨ba,bs,cp,lm,en,dn⟩=false):=by show _=_;simp only [Gv.ok,h4,Bool.false_and,Bool.and_false]
  clear h4
  go_wp2_with fail
  go_ret
  exact⟨by rw [HF.out];rfl,B2⟩
 have H4:Hid (Num.plB (ba+bs.size)=true):=h4
 clear h4
 go_wp2_with fail
 refine(Num.l1Place _ _).mono ?_
 rintro x w1 ⟨rfl,rfl⟩
 cases h5:Num.plB lm
 case false=>
  have HF:Hid (Gv.ok ⟨ba,bs,cp,lm,en,dn⟩=false):=by show _=_;simp only [Gv.ok,h5,Bool.false_and,Bool.and_false]
  clear h5
  go_wp2_with fail
  go_ret
  exact⟨by rw [HF.out];rfl,B2⟩
 have H5:Hid (Num.plB lm=true):=h5
 clear h5
 by_cases h6:ba≤lm
 case neg=>
  have HF:Hid (Gv.ok ⟨ba,bs,cp,lm,en,dn⟩=false):=by show _=_;simp only [Gv.ok,decide_eq_false h6,Bool.false_and,Bool.and_false]
  have h6':lm<ba:=by omega
  clear h6
  go_wp2_with fail
  go_ret
  exact⟨by rw [HF.out];rfl,B2⟩
 have h6': ¬lm<ba:=by omega
 have HT:Hid (Gv.ok ⟨ba,bs,cp,lm,en,dn⟩=(!dn||(en&&decide (bs.size=0)))):=by
  show _=_
  simp only [Gv.ok,H1.out,H2.out,decide_eq_true H3.out,H4.out,H5.out,decide_eq_true h6,Bool.true_and]
 cases hd:dn
 case false=>
  go_wp2_with fail
  go_ret
  exact⟨by rw [HT.out,hd];rfl,B2⟩
 cases hn:en
 case false=>
  go_wp2_with fail
  go_ret
  exact⟨by rw [HT.out,hd,hn];rfl,B2⟩
 go_wp2_with fail
 go_ret
 exact⟨Num.ret_bool (show bs.toList.isEmpty=_ by rw [HT.out,hd,hn,isEmpty_eq];rfl),B2⟩
def newG (n:Int):Gv×Bool:=if Tak.capB n then(⟨0,⟨#[]⟩,n,0,false,false⟩,true)else(zeroG,false)
theorem specNewGiver (n:Int)(w:World):
  Calls Tryz.prog 100 #[.int .i64 n] w fun x w'=>x=.returned (.tuple #[(newG n).1.v,.bool (newG n).2])∧Below w.heap.size w w':=by
 unfold newG
 cases h:Tak.capB n
 ·go_enter Tryz.func100,Tryz.ntmps100
  go_wp2_with (go_at_call 70;refine(Tak.l1InEq h _).mono ?_;rintro x w' ⟨rfl,rfl⟩)
  exact bodyPost_ret (v:=.tuple #[.agg #[.int .i64 0,.string ⟨#[]⟩,.int .i64 0,.int .i64 0,.bool false,.bool false],.bool false]) (by rw [Tak.res_cell_tmp rfl];go_simp;try rfl) rfl ⟨rfl,by repeat (first|exact(Below.refl _ _).alloc (Nat.le_refl _) _|refine Below.setCell ?_ (Nat.le_refl _) _)⟩
 ·go_enter Tryz.func100,Tryz.ntmps100
  go_wp2_with (go_at_call 70;refine(Tak.l1InEq h _).mono ?_;rintro x w' ⟨rfl,rfl⟩)
  exact bodyPost_ret (v:=.tuple #[Gv.v ⟨0,⟨#[]⟩,n,0,false,false⟩,.bool true]) (by rw [Tak.res_cell_tmp rfl];go_simp;try rfl) rfl ⟨rfl,by repeat (first|exact(Below.refl _ _).alloc (Nat.le_refl _) _|refine Below.setCell ?_ (Nat.le_refl _) _)⟩
end Go.Proofs.YtfmcahjdhoabcaaGreat.Giv
