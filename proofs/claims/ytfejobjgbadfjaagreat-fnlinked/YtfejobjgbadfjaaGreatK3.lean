/- Contracts of this seat's functions, and their mathematics (TakC GivA Win Take TakeZ TakeY GivB). -/
import Derived.Test.YtfejobjgbadfjaaGreatK2
import Derived.Test.YtfejobjgbadfjaaGreatK1
import Derived.Deep.Cut
import Derived.Deep.RegionHeld3
import Derived.BigQuiet
set_option linter.unusedVariables false
set_option linter.unusedSimpArgs false
set_option maxRecDepth 10000
set_option maxHeartbeats 4000000
namespace Go.Proofs.YtfejobjgbadfjaaGreat.Tak
open Go.RowKit RowG
theorem stand {p:Prop}(h:Hid p):p:=h.out
theorem res_cell {fn:Func}{p:Tmp}{ty:TypeId}(h:fn.results= #[.cell p ty])(tmps:Array Value)(P:Program)(w:World):
  (results fn tmps).run P w=((asAddr (tmps.getD p undef)).run P w).andThen fun a w₁=>(loadVar ty a).run P w₁:=by
 simp only [results,h]
 simp [Sem.run_bind,Result.andThen]
theorem res_cell_tmp {fn:Func}{p u:Tmp}{ty:TypeId}(h:fn.results= #[.cell p ty,.tmp u])(tmps:Array Value)(P:Program)(w:World):
  (results fn tmps).run P w=((asAddr (tmps.getD p undef)).run P w).andThen fun a w₁=>((loadVar ty a).run P w₁).andThen fun v w₂=>.ok (.tuple #[v,tmps.getD u undef]) w₂:=by
 simp only [results,h]
 simp [Sem.run_bind,Result.andThen]
abbrev put6 (w:World)(k:Nat)(v0 v1 v2 v3 v4 v5:Value):World:=(((((w.setCell ⟨k,0,none⟩ v0).setCell ⟨k,1,none⟩ v1).setCell ⟨k,2,none⟩ v2).setCell ⟨k,3,none⟩ v3).setCell ⟨k,4,none⟩ v4).setCell ⟨k,5,none⟩ v5
theorem heap_put6 (w:World)(k i:Nat)(v0 v1 v2 v3 v4 v5:Value)(h:i≠k):(put6 w k v0 v1 v2 v3 v4 v5).heap[i]? =w.heap[i]? :=by
 unfold put6
 rw [Below.heap_setCell _ _ _ _ h,Below.heap_setCell _ _ _ _ h,Below.heap_setCell _ _ _ _ h,Below.heap_setCell _ _ _ _ h,Below.heap_setCell _ _ _ _ h,Below.heap_setCell _ _ _ _ h]
theorem below_put6 {B:Nat}{w0 w:World}(h:Below B w0 w){k:Nat}(hk:B≤k)(v0 v1 v2 v3 v4 v5:Value):Below B w0 (put6 w k v0 v1 v2 v3 v4 v5):=
 (((((h.setCell (p:=⟨k,0,none⟩) hk _).setCell (p:=⟨k,1,none⟩) hk _).setCell (p:=⟨k,2,none⟩) hk _).setCell (p:=⟨k,3,none⟩) hk _).setCell (p:=⟨k,4,none⟩) hk _).setCell (p:=⟨k,5,none⟩) hk _
theorem own_put6 {α:Type}{E:El α}{T:TypeId}{w:World}{B:Nat}{a:Option Addr}{c:Nat}{l:List α}(h:E.Own T w B a c l){k:Nat}(hk: ∀x,a=some x→x.block≠k)(v0 v1 v2 v3 v4 v5:Value):E.Own T (put6 w k v0 v1 v2 v3 v4 v5) B a c l:=
 h.same fun x hx=>heap_put6 _ _ _ _ _ _ _ _ _ (hk x hx)
def zeroT:Value:=.agg #[.int .i64 0,.string ⟨#[]⟩,.slice none 0 0,.int .i64 0,.int .i64 0,.bool false]
def newT (n:Int):Value:=.agg #[.int .i64 0,.string ⟨#[]⟩,.slice none 0 0,.int .i64 n,.int .i64 (-1),.bool false]
def capB (n:Int):Bool:=decide (1≤n∧n≤400)
theorem specNewTaker (n:Int)(w:World):
  Calls Tryz.prog 84 #[.int .i64 n] w fun x w'=>x=.returned (.tuple #[if capB n then newT n else zeroT,.bool (capB n)])∧Below w.heap.size w w':=by
 cases h:capB n
 ·go_enter Tryz.func84,Tryz.ntmps84
  go_wp2_with (go_at_call 57;refine(l1InEq h _).mono ?_;rintro x w' ⟨rfl,rfl⟩)
  exact bodyPost_ret (v:=.tuple #[zeroT,.bool false]) (by rw [res_cell_tmp rfl];go_simp;rfl) rfl ⟨rfl,by repeat (first|exact(Below.refl _ _).alloc (Nat.le_refl _) _|refine Below.setCell ?_ (Nat.le_refl _) _)⟩
 ·go_enter Tryz.func84,Tryz.ntmps84
  go_wp2_with (go_at_call 57;refine(l1InEq h _).mono ?_;rintro x w' ⟨rfl,rfl⟩)
  exact bodyPost_ret (v:=.tuple #[newT n,.bool true]) (by rw [res_cell_tmp rfl];go_simp;rfl) rfl ⟨rfl,by repeat (first|exact(Below.refl _ _).alloc (Nat.le_refl _) _|refine Below.setCell ?_ (Nat.le_refl _) _)⟩
def limitOf (nx:Int)(bs:ByteArray)(l:List Pt)(cp fi:Int)(en:Bool):Int:=if takerB nx bs l cp fi en then limT nx bs cp else -1
theorem taker_in {nx:Int}{bs:ByteArray}{l:List Pt}{cp fi:Int}{en:Bool}(h:takerB nx bs l cp fi en=true):inT nx bs l cp:=by
 simp only [takerB,Bool.and_eq_true,decide_eq_true_eq]at h
 exact h.1
theorem l5Copy (nx:Int)(bs:ByteArray)(a:Option Addr)(n c:Nat)(cp fi:Int)(en:Bool)(l:List Pt)(w:World)(hn:n=l.length)(h:partE.Lies w a l)(hl:l.length≤2097152)(ha:a=none→c=0):
  Calls Tryz.prog 96 #[.agg #[.int .i64 nx,.string bs,.slice a n c,.int .i64 cp,.int .i64 fi,.bool en]] w fun x w'=> ∃a' c',x=.returned (.agg #[.int .i64 nx,.string bs,.slice a' l.length c',.int .i64 cp,.int .i64 fi,.bool en])∧partE.Own 123 w' w.heap.size a' c' l∧Below w.heap.size w w':=by
 subst hn
 have b3:Below w.heap.size w (((w.alloc (.cells #[.int .i64 nx,.string bs,.slice a l.length c,.int .i64 cp,.int .i64 fi,.bool en] 44)).alloc (.cells #[.int .i64 0,.string ⟨#[]⟩,.slice none 0 0,.int .i64 0,.int .i64 0,.bool false] 44)).alloc (.cells #[] 123)):=(((Below.refl _ _).alloc (Nat.le_refl _) _).alloc (by simp) _).alloc (by simp;omega) _
 have v1:Var 44 (((w.alloc (.cells #[.int .i64 nx,.string bs,.slice a l.length c,.int .i64 cp,.int .i64 fi,.bool en] 44)).alloc (.cells #[.int .i64 0,.string ⟨#[]⟩,.slice none 0 0,.int .i64 0,.int .i64 0,.bool false] 44)).alloc (.cells #[] 123)) w.heap.size [.int .i64 nx,.string bs,.slice a l.length c,.int .i64 cp,.int .i64 fi,.bool en]:=((Var.new w [.int .i64 nx,.string bs,.slice a l.length c,.int .i64 cp,.int .i64 fi,.bool en]).alloc _).alloc _
 have v2:Var 44 (((w.alloc (.cells #[.int .i64 nx,.string bs,.slice a l.length c,.int .i64 cp,.int .i64 fi,.bool en] 44)).alloc (.cells #[.int .i64 0,.string ⟨#[]⟩,.slice none 0 0,.int .i64 0,.int .i64 0,.bool false] 44)).alloc (.cells #[] 123)) (w.heap.size+1) [.int .i64 0,.string ⟨#[]⟩,.slice none 0 0,.int .i64 0,.int .i64 0,.bool false]:=by
  have:=(Var.new (T:=44) (w.alloc (.cells #[.int .i64 nx,.string bs,.slice a l.length c,.int .i64 cp,.int .i64 fi,.bool en] 44)) [.int .i64 0,.string ⟨#[]⟩,.slice none 0 0,.int .i64 0,.int .i64 0,.bool false]).alloc (.cells #[] 123)
  simpa using this
 have o0:partE.Own 123 (((w.alloc (.cells #[.int .i64 nx,.string bs,.slice a l.length c,.int .i64 cp,.int .i64 fi,.bool en] 44)).alloc (.cells #[.int .i64 0,.string ⟨#[]⟩,.slice none 0 0,.int .i64 0,.int .i64 0,.bool false] 44)).alloc (.cells #[] 123)) (w.heap.size+1+1) (some ⟨w.heap.size+1+1,0,none⟩) 0 []:=by
  have:=El.Own.made (E:=partE) (T:=123) ((w.alloc (.cells #[.int .i64 nx,.string bs,.slice a l.length c,.int .i64 cp,.int .i64 fi,.bool en] 44)).alloc (.cells #[.int .i64 0,.string ⟨#[]⟩,.slice none 0 0,.int .i64 0,.int .i64 0,.bool false] 44))
  simpa using this
 have hB:w.heap.size+1+1≤(((w.alloc (.cells #[.int .i64 nx,.string bs,.slice a l.length c,.int .i64 cp,.int .i64 fi,.bool en] 44)).alloc (.cells #[.int .i64 0,.string ⟨#[]⟩,.slice none 0 0,.int .i64 0,.int .i64 0,.bool false] 44)).alloc (.cells #[] 123)).heap.size:=by simp
 have l0:=h.later b3
 have hz:([]:List Pt).length+l.length≤4194304:=by simp;omega
 go_enter Tryz.func96,Tryz.ntmps96
 go_wp2_with (at_builtin;refine wpList_app typ (by decide) (by rfl) _ _ (by rfl) (w.heap.size+1+1) (some ⟨w.heap.size+1+1,0,none⟩) 0 0 [] l rfl (by rfl) o0 hB a l.length c rfl (by rfl) l0 ha hz ?_;intro a' c' w3 o3 g3;refine stand ?_)
 have x1:=v1.grown g3 (by intro g hg;simp [blk]at hg;omega)
 have x2:=v2.grown g3 (by intro g hg;simp [blk]at hg;omega)
 have B3:=grown_below b3 (Nat.le_refl _) (by intro g hg;simp [blk]at hg;omega) g3
 rw [List.nil_append]at o3
 clear b3 v1 v2 o0 hB l0 hz g3
 show wpList _ _ _ _ _ _
 obtain⟨c0,c1,c2,c3,c4,c5⟩:=x1.c6
 have f2:=x1.free 2
 obtain⟨r0,r1,r2,r3,r4,r5⟩:=x2.c6
 obtain⟨z0,z1,z2,z3,z4,z5⟩:=x2.f6
 clear x1 x2
 have hx:=fun x e=>(o3.lt x e).1
 go_wp2_with fail
 refine bodyPost_ret (v:=.agg #[.int .i64 nx,.string bs,.slice a' l.length c',.int .i64 cp,.int .i64 fi,.bool en]) (by rw [res_cell rfl];go_simp) rfl ⟨a',c',rfl,?_,?_⟩
 ·iterate 7 (refine El.Own.setCell ?_ (fun x hx'=>by have:=hx x hx';dsimp only;omega) _)
  exact o3.mono (by omega)
 ·iterate 7 (refine Below.setCell ?_ (by dsimp only;omega) _)
  exact B3
end Go.Proofs.YtfejobjgbadfjaaGreat.Tak
namespace Go.Proofs.YtfejobjgbadfjaaGreat.Giv
open Go.RowKit RowG
theorem mix:Tryz.prog.follows .mixedOrders=true:=by kernel_rfl
structure Gv where
 ba:Int
 bs:ByteArray
 cp:Int
 lm:Int
 en:Bool
 dn:Bool
abbrev Gv.c (g:Gv):List Value:=[.int .i64 g.ba,.string g.bs,.int .i64 g.cp,.int .i64 g.lm,.bool g.en,.bool g.dn]
abbrev Gv.v (g:Gv):Value:=.agg #[.int .i64 g.ba,.string g.bs,.int .i64 g.cp,.int .i64 g.lm,.bool g.en,.bool g.dn]
abbrev zeroG:Gv:=⟨0,⟨#[]⟩,0,0,false,false⟩
def Gv.ok (g:Gv):Bool:=decide (1≤g.cp∧g.cp≤400)&&(Num.plB g.ba&&(decide ((g.bs.size:Int)≤g.cp)&&(Num.plB (g.ba+g.bs.size)&&(Num.plB g.lm&&(decide (g.ba≤g.lm)&&(!g.dn||(g.en&&decide (g.bs.size=0))))))))
theorem ok_iff {g:Gv}:g.ok=true↔(1≤g.cp∧g.cp≤400)∧(0≤g.ba∧g.ba≤1000000000)∧((g.bs.size:Int)≤g.cp)∧(g.ba+g.bs.size≤1000000000)∧(0≤g.lm∧g.lm≤1000000000)∧g.ba≤g.lm∧(g.dn=true→g.en=true∧g.bs.size=0):=by
 simp only [Gv.ok,Num.plB,Bool.and_eq_true,decide_eq_true_eq,Bool.or_eq_true,Bool.not_eq_true']
 constructor
 ·rintro⟨h1,h2,h3,h4,h5,h6,h7⟩
  refine⟨h1,h2,h3,by omega,h5,h6,fun hd=>?_⟩
  rcases h7 with h7|h7
  ·rw [hd]at h7;cases h7
  ·exact h7
 ·rintro⟨h1,h2,h3,h4,h5,h6,h7⟩
  refine⟨h1,h2,h3,by omega,h5,h6,?_⟩
  cases hd:g.dn
  ·exact .inl rfl
  ·exact .inr (h7 hd)
def small (g:Gv):Prop:=(-4611686018427387904≤g.ba∧g.ba≤4611686018427387904)∧g.bs.size≤2097152
theorem nil_iff (b:ByteArray):b.toList=[]↔b.size=0:=by
 rw [ByteArray.toList_eq,←List.length_eq_zero_iff,Array.length_toList]
 rfl
theorem isEmpty_eq (b:ByteArray):b.toList.isEmpty=decide (b.size=0):=by
 cases h:b.toList with
 | nil=>rw [decide_eq_true ((nil_iff b).1 h)];rfl
 | cons x r=>rw [decide_eq_false (fun q=>by rw [(nil_iff b).2 q]at h;cases h)];rfl
theorem l6End (g:Gv)(w:World)(h:small g):
  Calls Tryz.prog 36 #[g.v] w fun x w'=>x=.returned (.int .i64 (g.ba+g.bs.size))∧Below w.heap.size w w':=by
 obtain⟨⟨h0,h1⟩,h2⟩:=h
 obtain⟨ba,bs,cp,lm,en,dn⟩:=g
 dsimp only [Gv.v]at *
 go_enter Tryz.func36,Tryz.ntmps36
 go_wp2_with fail
 go_ret
 exact⟨rfl,(Below.refl _ _).alloc (Nat.le_refl _) _⟩
theorem specGiverOk (g:Gv)(w:World)(hs:g.bs.size≤2097152):
  Calls Tryz.prog 59 #[g.v] w fun x w'=>x=.returned (.bool g.ok)∧Below w.heap.size w w':=by
 obtain⟨ba,bs,cp,lm,en,dn⟩:=g
 dsimp only [Gv.v,Gv.c]at *
 obtain⟨V,hV⟩: ∃z,Hid (z=w.alloc (.cells #[.int .i64 ba,.string bs,.int .i64 cp,.int .i64 lm,.bool en,.bool dn] 41)):=⟨_,rfl⟩
 have v1:Var 41 V w.heap.size [.int .i64 ba,.string bs,.int .i64 cp,.int .i64 lm,.bool en,.bool dn]:=by rw [hV.out];exact Var.new w _
 have b1:Below w.heap.size w V:=by rw [hV.out];exact(Below.refl _ _).alloc (Nat.le_refl _) _
 go_enter Tryz.func59,Tryz.ntmps59
 go_upto_region 1 with(fail)
 rw [←hV.out]
 clear hV
 obtain⟨e0,e1,e2,e3,e4,e5⟩:=v1.c6
 go_wp2_with fail
 refine(Tak.l1In cp 1 400 _).mono ?_
 rintro x w1 ⟨rfl,rfl⟩
 cases h1:decide (1≤cp∧cp≤400)
 case false=>
  have HF:Hid (Gv.ok ⟨ba,bs,cp,lm,en,dn⟩=false):=by show _=_;simp only [Gv.ok,h1,Bool.false_and]
  clear h1
  go_wp2_with fail
  go_ret
  exact⟨by rw [HF.out];rfl,b1⟩
 go_wp2_with fail
 refine(Num.l1Place ba _).mono ?_
 rintro x w1 ⟨rfl,rfl⟩
 cases h2:Num.plB ba
 case false=>
  have HF:Hid (Gv.ok ⟨ba,bs,cp,lm,en,dn⟩=false):=by show _=_;simp only [Gv.ok,h2,Bool.false_and,Bool.and_false]
  clear h1 h2
  go_wp2_with fail
  go_ret
  exact⟨by rw [HF.out];rfl,b1⟩
 by_cases h3:(bs.size:Int)≤cp
 case neg=>
  have HF:Hid (Gv.ok ⟨ba,bs,cp,lm,en,dn⟩=false):=by show _=_;simp only [Gv.ok,decide_eq_false h3,Bool.false_and,Bool.and_false]
  have h3':cp<(bs.size:Int):=by omega
  clear h1 h2 h3
  go_wp2_with fail
  go_ret
  exact⟨by rw [HF.out];rfl,b1⟩
 have h3': ¬cp<(bs.size:Int):=by omega
 have H1:Hid (decide (1≤cp∧cp≤400)=true):=h1
 have H2:Hid (Num.plB ba=true):=h2
 have H3:Hid ((bs.size:Int)≤cp):=h3
 have hb0:=(Num.pl_t h2).1
 have hb1:=(Num.pl_t h2).2
 clear h1 h2 h3
 go_wp2_with fail
 refine(l6End ⟨ba,bs,cp,lm,en,dn⟩ _ ⟨⟨by dsimp only;omega,by dsimp only;omega⟩,hs⟩).mono ?_
 rintro x w2 ⟨rfl,b2⟩
 have v2:=v1.later b2
 have B2:=b1.trans (b2.mono b1.size)
 clear e0 e1 e2 e3 e4 e5 b1 b2 v1
 obtain⟨e0,e1,e2,e3,e4,e5⟩:=v2.c6
 go_wp2_with fail
 refine(Num.l1Place _ _).mono ?_
 rintro x w1 ⟨rfl,rfl⟩
 cases h4:Num.plB (ba+bs.size)
 case false=>
  have HF:Hid (Gv.ok ⟨ba,bs,cp,lm,en,dn⟩=false):=by show _=_;simp only [Gv.ok,h4,Bool.false_and,Bool.and_false]
  clear h4
  go_wp2_with fail
  go_ret
  exact⟨by rw [HF.out];rfl,B2⟩
 have H4:Hid (Num.plB (ba+bs.size)=true):=h4
 clear h4
 go_wp2_with fail
 refine(Num.l1Place _ _).mono ?_
 rintro x w1 ⟨rfl,rfl⟩
 cases h5:Num.plB lm
 case false=>
  have HF:Hid (Gv.ok ⟨ba,bs,cp,lm,en,dn⟩=false):=by show _=_;simp only [Gv.ok,h5,Bool.false_and,Bool.and_false]
  clear h5
  go_wp2_with fail
  go_ret
  exact⟨by rw [HF.out];rfl,B2⟩
 have H5:Hid (Num.plB lm=true):=h5
 clear h5
 by_cases h6:ba≤lm
 case neg=>
  have HF:Hid (Gv.ok ⟨ba,bs,cp,lm,en,dn⟩=false):=by show _=_;simp only [Gv.ok,decide_eq_false h6,Bool.false_and,Bool.and_false]
  have h6':lm<ba:=by omega
  clear h6
  go_wp2_with fail
  go_ret
  exact⟨by rw [HF.out];rfl,B2⟩
 have h6': ¬lm<ba:=by omega
 have HT:Hid (Gv.ok ⟨ba,bs,cp,lm,en,dn⟩=(!dn||(en&&decide (bs.size=0)))):=by
  show _=_
  simp only [Gv.ok,H1.out,H2.out,decide_eq_true H3.out,H4.out,H5.out,decide_eq_true h6,Bool.true_and]
 cases hd:dn
 case false=>
  go_wp2_with fail
  go_ret
  exact⟨by rw [HT.out,hd];rfl,B2⟩
 cases hn:en
 case false=>
  go_wp2_with fail
  go_ret
  exact⟨by rw [HT.out,hd,hn];rfl,B2⟩
 go_wp2_with fail
 go_ret
 exact⟨Num.ret_bool (show bs.toList.isEmpty=_ by rw [HT.out,hd,hn,isEmpty_eq];rfl),B2⟩
def newG (n:Int):Gv×Bool:=if Tak.capB n then(⟨0,⟨#[]⟩,n,0,false,false⟩,true)else(zeroG,false)
theorem specNewGiver (n:Int)(w:World):
  Calls Tryz.prog 83 #[.int .i64 n] w fun x w'=>x=.returned (.tuple #[(newG n).1.v,.bool (newG n).2])∧Below w.heap.size w w':=by
 unfold newG
 cases h:Tak.capB n
 ·go_enter Tryz.func83,Tryz.ntmps83
  go_wp2_with (go_at_call 57;refine(Tak.l1InEq h _).mono ?_;rintro x w' ⟨rfl,rfl⟩)
  exact bodyPost_ret (v:=.tuple #[.agg #[.int .i64 0,.string ⟨#[]⟩,.int .i64 0,.int .i64 0,.bool false,.bool false],.bool false]) (by rw [Tak.res_cell_tmp rfl];go_simp;try rfl) rfl ⟨rfl,by repeat (first|exact(Below.refl _ _).alloc (Nat.le_refl _) _|refine Below.setCell ?_ (Nat.le_refl _) _)⟩
 ·go_enter Tryz.func83,Tryz.ntmps83
  go_wp2_with (go_at_call 57;refine(Tak.l1InEq h _).mono ?_;rintro x w' ⟨rfl,rfl⟩)
  exact bodyPost_ret (v:=.tuple #[Gv.v ⟨0,⟨#[]⟩,n,0,false,false⟩,.bool true]) (by rw [Tak.res_cell_tmp rfl];go_simp;try rfl) rfl ⟨rfl,by repeat (first|exact(Below.refl _ _).alloc (Nat.le_refl _) _|refine Below.setCell ?_ (Nat.le_refl _) _)⟩
end Go.Proofs.YtfejobjgbadfjaaGreat.Giv
namespace Go.Proofs.YtfejobjgbadfjaaGreat.RowG
open Go.RowKit
structure Win (T:TypeId)(pre post:List Value)(o:Nat)(w:World)(k:Nat)(vs:List Value):Prop where
 len:pre.length=o
 blk:w.heap[k]? =some (.cells (pre++vs++post).toArray T (0,0))
variable {T:TypeId} {pre post:List Value} {o:Nat}
theorem Win.var {w:World}{k:Nat}{vs:List Value}(h:Win T pre post o w k vs):Var T w k (pre++vs++post):=h.blk
theorem Win.of {w:World}{k:Nat}{vs:List Value}(hl:pre.length=o)(h:Var T w k (pre++vs++post)):Win T pre post o w k vs:=⟨hl,h⟩
theorem Win.cell {w:World}{k:Nat}{vs:List Value}(h:Win T pre post o w k vs){i:Nat}{v:Value}(hv:vs[i]? =some v):w.cell? ⟨k,o+i,Option.none⟩=some v:=by
 refine h.var.cell ?_
 have hi:i<vs.length:=(List.getElem?_eq_some_iff.1 hv).1
 rw [←h.len,List.getElem?_append_left (by simp;omega),List.getElem?_append_right (by omega)]
 simpa using hv
theorem Win.cell0 {w:World}{k:Nat}{vs:List Value}(h:Win T pre post o w k vs){v:Value}(hv:vs[0]? =some v):w.cell? ⟨k,o,Option.none⟩=some v:=h.cell (i:=0) hv
theorem Win.free {w:World}{k:Nat}{vs:List Value}(h:Win T pre post o w k vs)(i:Nat):w.frozen? ⟨k,o+i,Option.none⟩=false:=h.var.free _
theorem Win.free0 {w:World}{k:Nat}{vs:List Value}(h:Win T pre post o w k vs):w.frozen? ⟨k,o,Option.none⟩=false:=h.var.free _
theorem Win.c6 {w:World}{k:Nat}{a0 a1 a2 a3 a4 a5:Value}(h:Win T pre post o w k [a0,a1,a2,a3,a4,a5]):w.cell? ⟨k,o+0,Option.none⟩=some a0∧w.cell? ⟨k,o+1,Option.none⟩=some a1∧w.cell? ⟨k,o+2,Option.none⟩=some a2∧w.cell? ⟨k,o+3,Option.none⟩=some a3∧w.cell? ⟨k,o+4,Option.none⟩=some a4∧w.cell? ⟨k,o+5,Option.none⟩=some a5:=⟨h.cell (i:=0) rfl,h.cell (i:=1) rfl,h.cell (i:=2) rfl,h.cell (i:=3) rfl,h.cell (i:=4) rfl,h.cell (i:=5) rfl⟩
theorem Win.f6 {w:World}{k:Nat}{vs:List Value}(h:Win T pre post o w k vs):w.frozen? ⟨k,o+0,Option.none⟩=false∧w.frozen? ⟨k,o+1,Option.none⟩=false∧w.frozen? ⟨k,o+2,Option.none⟩=false∧w.frozen? ⟨k,o+3,Option.none⟩=false∧w.frozen? ⟨k,o+4,Option.none⟩=false∧w.frozen? ⟨k,o+5,Option.none⟩=false:=⟨h.free 0,h.free 1,h.free 2,h.free 3,h.free 4,h.free 5⟩
theorem Win.c7 {w:World}{k:Nat}{a0 a1 a2 a3 a4 a5 a6:Value}(h:Win T pre post o w k [a0,a1,a2,a3,a4,a5,a6]):w.cell? ⟨k,o+0,Option.none⟩=some a0∧w.cell? ⟨k,o+1,Option.none⟩=some a1∧w.cell? ⟨k,o+2,Option.none⟩=some a2∧w.cell? ⟨k,o+3,Option.none⟩=some a3∧w.cell? ⟨k,o+4,Option.none⟩=some a4∧w.cell? ⟨k,o+5,Option.none⟩=some a5∧w.cell? ⟨k,o+6,Option.none⟩=some a6:=⟨h.cell (i:=0) rfl,h.cell (i:=1) rfl,h.cell (i:=2) rfl,h.cell (i:=3) rfl,h.cell (i:=4) rfl,h.cell (i:=5) rfl,h.cell (i:=6) rfl⟩
theorem Win.f7 {w:World}{k:Nat}{vs:List Value}(h:Win T pre post o w k vs):w.frozen? ⟨k,o+0,Option.none⟩=false∧w.frozen? ⟨k,o+1,Option.none⟩=false∧w.frozen? ⟨k,o+2,Option.none⟩=false∧w.frozen? ⟨k,o+3,Option.none⟩=false∧w.frozen? ⟨k,o+4,Option.none⟩=false∧w.frozen? ⟨k,o+5,Option.none⟩=false∧w.frozen? ⟨k,o+6,Option.none⟩=false:=⟨h.free 0,h.free 1,h.free 2,h.free 3,h.free 4,h.free 5,h.free 6⟩
theorem Win.c13 {w:World}{k:Nat}{a0 a1 a2 a3 a4 a5 a6 a7 a8 a9 a10 a11 a12:Value}(h:Win T pre post o w k [a0,a1,a2,a3,a4,a5,a6,a7,a8,a9,a10,a11,a12]):w.cell? ⟨k,o+0,Option.none⟩=some a0∧w.cell? ⟨k,o+1,Option.none⟩=some a1∧w.cell? ⟨k,o+2,Option.none⟩=some a2∧w.cell? ⟨k,o+3,Option.none⟩=some a3∧w.cell? ⟨k,o+4,Option.none⟩=some a4∧w.cell? ⟨k,o+5,Option.none⟩=some a5∧w.cell? ⟨k,o+6,Option.none⟩=some a6∧w.cell? ⟨k,o+7,Option.none⟩=some a7∧w.cell? ⟨k,o+8,Option.none⟩=some a8∧w.cell? ⟨k,o+9,Option.none⟩=some a9∧w.cell? ⟨k,o+10,Option.none⟩=some a10∧w.cell? ⟨k,o+11,Option.none⟩=some a11∧w.cell? ⟨k,o+12,Option.none⟩=some a12:=⟨h.cell (i:=0) rfl,h.cell (i:=1) rfl,h.cell (i:=2) rfl,h.cell (i:=3) rfl,h.cell (i:=4) rfl,h.cell (i:=5) rfl,h.cell (i:=6) rfl,h.cell (i:=7) rfl,h.cell (i:=8) rfl,h.cell (i:=9) rfl,h.cell (i:=10) rfl,h.cell (i:=11) rfl,h.cell (i:=12) rfl⟩
theorem Win.f13 {w:World}{k:Nat}{vs:List Value}(h:Win T pre post o w k vs):w.frozen? ⟨k,o+0,Option.none⟩=false∧w.frozen? ⟨k,o+1,Option.none⟩=false∧w.frozen? ⟨k,o+2,Option.none⟩=false∧w.frozen? ⟨k,o+3,Option.none⟩=false∧w.frozen? ⟨k,o+4,Option.none⟩=false∧w.frozen? ⟨k,o+5,Option.none⟩=false∧w.frozen? ⟨k,o+6,Option.none⟩=false∧w.frozen? ⟨k,o+7,Option.none⟩=false∧w.frozen? ⟨k,o+8,Option.none⟩=false∧w.frozen? ⟨k,o+9,Option.none⟩=false∧w.frozen? ⟨k,o+10,Option.none⟩=false∧w.frozen? ⟨k,o+11,Option.none⟩=false∧w.frozen? ⟨k,o+12,Option.none⟩=false:=⟨h.free 0,h.free 1,h.free 2,h.free 3,h.free 4,h.free 5,h.free 6,h.free 7,h.free 8,h.free 9,h.free 10,h.free 11,h.free 12⟩
theorem Win.lt {w:World}{k:Nat}{vs:List Value}(h:Win T pre post o w k vs):k<w.heap.size:=h.var.lt
theorem Win.same {w w':World}{k:Nat}{vs:List Value}(h:Win T pre post o w k vs)(e:w'.heap[k]? =w.heap[k]?):Win T pre post o w' k vs:=⟨h.len,e.trans h.blk⟩
theorem Win.later {w w':World}{k:Nat}{vs:List Value}(h:Win T pre post o w k vs)(hb:Below w.heap.size w w'):Win T pre post o w' k vs:=h.same (hb.block k h.lt)
theorem Win.kept {w w':World}{k c:Nat}{vs:List Value}(h:Win T pre post o w k vs)(hk:Draw.Kept c w w')(hc:k≠c):Win T pre post o w' k vs:=h.same (hk.block k h.lt hc)
theorem Win.grown {w w':World}{k:Nat}{r:Option Nat}{vs:List Value}(h:Win T pre post o w k vs)(hg:w.grownBy w' r)(hc: ∀g,r=some g→k≠g):Win T pre post o w' k vs:=h.same (hg.block k h.lt (fun e=>hc k e.symm rfl))
theorem Win.alloc {w:World}{k:Nat}{vs:List Value}(h:Win T pre post o w k vs)(x:Obj):Win T pre post o (w.alloc x) k vs:=h.same (Below.heap_alloc _ _ _ h.lt)
theorem Win.other {w:World}{k:Nat}{vs:List Value}(h:Win T pre post o w k vs){p:Addr}(hp:k≠p.block)(v:Value):Win T pre post o (w.setCell p v) k vs:=h.same (Below.heap_setCell _ _ _ _ hp)
theorem Win.set {w:World}{k:Nat}{vs:List Value}(h:Win T pre post o w k vs)(i:Nat)(v:Value)(hi:i<vs.length:=by simp):Win T pre post o (w.setCell ⟨k,o+i,Option.none⟩ v) k (vs.set i v):=by
 refine⟨h.len,?_⟩
 have:=h.var.set (o+i) v
 rw [←h.len,List.append_assoc,List.set_append_right _ _ (by omega),List.set_append_left _ _ (by omega),Nat.add_sub_cancel_left]at this
 rw [←h.len,List.append_assoc]
 exact this
theorem Win.set0 {w:World}{k:Nat}{vs:List Value}(h:Win T pre post o w k vs)(v:Value)(hi:0<vs.length:=by simp):Win T pre post o (w.setCell ⟨k,o,Option.none⟩ v) k (vs.set 0 v):=h.set 0 v hi
theorem Win.drew {w:World}{k:Nat}{vs:List Value}(h:Win T pre post o w k vs):Win T pre post o w.drew k vs:=⟨h.len,h.blk⟩
theorem Var.win {w:World}{k:Nat}{vs:List Value}(h:Var T w k vs):Win T [] [] 0 w k vs:=⟨rfl,by simpa [Var]using h⟩
theorem Win.whole {w:World}{k:Nat}{vs:List Value}(h:Win T [] [] 0 w k vs):Var T w k vs:=by
 have:=h.blk
 simpa [Var]using this
end Go.Proofs.YtfejobjgbadfjaaGreat.RowG
namespace Go.Proofs.YtfejobjgbadfjaaGreat.Draw
open Go.RowKit
section
variable {P:Program} {ops:Array Oper} {Q:Exit→Act→World→Prop} {md:Region.Mode} {S:World→Prop}
structure Still (P:Program)(ops:Array Oper)(S:World→Prop)(o:Oper)(v:Value)(a:Act):Prop where
 wanted:Region.wanted o (yielded ops a.tmps)=true
 call: ∃f args,(∀w,S w→(execOp a.eval o).run P w=.ok (.enter f args) w)∧ ∀w,S w→Calls P f args w fun e w'=>e=.returned v∧w=w'
theorem Still.turn {o o':Oper}{v:Value}{a:Act}(h:Still P ops S o v a)(hs: ∀cs b,o.op≠ .select cs b)(hap:o.apart ops o'=true)(d:List _)(u:Value):Still P ops S o v (({a with defers:=d}:Act).put o'.dst u):=by
 have h3:=(Oper.apart_spec hap).2.2
 refine⟨(wanted_put o {a with defers:=d} o'.dst u h3).trans h.wanted,?_⟩
 rw [execOp_put o hs {a with defers:=d} o'.dst u h3]
 exact h.call
end
end Go.Proofs.YtfejobjgbadfjaaGreat.Draw
namespace Go.Proofs.YtfejobjgbadfjaaGreat.Draw
open Go.RowKit
section
variable {P:Program} {ops:Array Oper} {Q:Exit→Act→World→Prop} {md:Region.Mode} {S:World→Prop} {z:Nat}
def wpAnyZ (P:Program)(md:Region.Mode)(ops:Array Oper)(Q:Exit→Act→World→Prop)(S:World→Prop)(z:Nat):Nat→Array Bool→Act→World→Prop
 | 0,listed,a,w=>Region.ready md ops listed=[]∧Q .normal a w
 | fuel+1,listed,a,w=>(Region.ready md ops listed=[]→Q .normal a w)∧ ∀i∈Region.ready md ops listed,wpOp P ops Q i (fun a' w'=>(i≠z→S w')∧wpAnyZ P md ops Q S z fuel (listed.setIfInBounds i true) a' w') a w
theorem wpAny_of_Z: ∀(fuel:Nat) (listed:Array Bool) (a:Act) (w:World),wpAnyZ P md ops Q S z fuel listed a w→wpAny P md ops Q fuel listed a w
 | 0,_,_,_,h=>h
 | fuel+1,_,_,_,h=>⟨h.1,fun i hi=>wpOp_mono (fun a' w' h'=>wpAny_of_Z fuel _ a' w' h'.2) (h.2 i hi)⟩
def waits (md:Region.Mode)(ops:Array Oper)(z i:Nat):Bool:=match ops[z]? with
 | some o=>o.after.toList.any fun e=>Region.binds md e&&(e.on==i)
 | none=>false
theorem not_ready {listed:Array Bool}{i:Nat}(hw:waits md ops z i=true)(hr:i∈Region.ready md ops listed):z ∉ Region.ready md ops listed:=by
 intro hz
 obtain⟨_,oz,hoz,hall⟩:=mem_ready.1 hz
 have hi0:=(mem_ready.1 hr).1
 simp only [waits,hoz,List.any_eq_true,Bool.and_eq_true,beq_iff_eq]at hw
 obtain⟨e,he,hb,heq⟩:=hw
 have h1:=hall e (by simpa using he) hb
 rw [heq]at h1
 by_cases hl:i<listed.size
 ·simp [hl]at hi0 h1
  simp [hi0]at h1
 ·simp [Array.getElem?_eq_none (Nat.le_of_not_lt hl)]at h1
theorem wpAnyZ_first {i:Nat}{oi:Oper}{v:Value}(hi:ops[i]? =some oi)(hw:waits md ops z i=true)(hsel: ∀(j:Nat) (o:Oper) cs b,ops[j]? =some o→o.op≠ .select cs b)(hQ: ∀c a w,Q (.panic c) (a.put oi.dst v) w→Q (.panic c) a w):
  ∀(fuel:Nat) (listed:Array Bool) (a:Act) (w:World),(∀j oj,ops[j]? =some oj→j≠i→listed.getD j true=false→(∀e∈oj.after,Region.binds md e=true→e.on≠i)→oi.apart ops oj=true)→i∈Region.ready md ops listed→YieldsIf P ops S oi v a→S w→
   wpAnyZ P md ops Q S z fuel (listed.setIfInBounds i true) (a.put oi.dst v) w→wpAnyZ P md ops Q S z (fuel+1) listed a w
 | fuel,listed,a,w,hfree,hr,hy,hS,H=>by
  refine⟨fun h=>absurd hr (by simp [h]),fun j hj=>?_⟩
  by_cases hji:j=i
  ·subst hji
   exact hy.wpOp hi hS ⟨fun _=>hS,H⟩
  ·have hjz:j≠z:=fun e=>not_ready hw hr (e▸hj)
   match fuel,H with
   | 0,H=>exact absurd (ready_mono hj hji) (by simp [H.1])
   | fuel+1,H=>
    obtain⟨hjun,oj,hoj,hall⟩:=mem_ready.1 hj
    have hi0:=(mem_ready.1 hr).1
    have hap:oi.apart ops oj=true:=hfree j oj hoj hji hjun fun e he hb heq=>by
     have h1:=hall e he hb
     rw [heq]at h1
     by_cases hl:i<listed.size
     ·simp [hl]at hi0 h1
      simp [hi0]at h1
     ·simp [Array.getElem?_eq_none (Nat.le_of_not_lt hl)]at h1
    refine wpOp_mono ?_ (wpOp_putIf hoj hap (fun cs b=>hsel i oi cs b hi) (fun cs b=>hsel j oj cs b hoj) hQ hy (H.2 j (ready_mono hj hji)))
    rintro a' w' ⟨hy',hS',H'⟩
    refine⟨hS',wpAnyZ_first hi hw hsel hQ fuel (listed.setIfInBounds j true) _ w' ?_ (ready_mono hr (Ne.symm hji)) hy' (hS' hjz) (by rw [Array.setIfInBounds_comm _ _ hji];exact H')⟩
    intro k ok hk hki hun hno
    refine hfree k ok hk hki ?_ hno
    by_cases hjk:j=k
    ·rw [←hjk];exact hjun
    ·rw [getD_set_ne true hjk]at hun;exact hun
theorem wpAnyZ_take {i:Nat}{oi:Oper}{v:Value}{fuel:Nat}{listed:Array Bool}{a:Act}{w:World}(hi:ops[i]? =some oi)(hw:waits md ops z i=true)
  (hs:Region.noSelect ops=true) (hf:Region.free md ops listed i=true) (hr:(Region.ready md ops listed).contains i=true)
  (hQ: ∀c a w,Q (.panic c) (a.put oi.dst v) w→Q (.panic c) a w) (hy:YieldsIf P ops S oi v a) (hS:S w)
  (h:wpAnyZ P md ops Q S z fuel (listed.setIfInBounds i true) (a.put oi.dst v) w):wpAnyZ P md ops Q S z (fuel+1) listed a w:=
 wpAnyZ_first hi hw (Region.noSelect_spec hs) hQ fuel listed a w (Region.free_spec hi hf) (by simpa using hr) hy hS h
def AllReadyZ (P:Program)(md:Region.Mode)(ops:Array Oper)(Q:Exit→Act→World→Prop)(S:World→Prop)(z fuel:Nat)(listed:Array Bool)(a:Act)(w:World)(rs:List Nat):Prop:=
 ∀i∈rs,wpOp P ops Q i (fun a' w'=>(i≠z→S w')∧wpAnyZ P md ops Q S z fuel (listed.setIfInBounds i true) a' w') a w
theorem AllReadyZ.nil {fuel:Nat}{listed:Array Bool}{a:Act}{w:World}:AllReadyZ P md ops Q S z fuel listed a w []:=fun _ h=>by cases h
theorem AllReadyZ.cons {fuel:Nat}{listed:Array Bool}{a:Act}{w:World}{i:Nat}{o:Oper}{rs:List Nat}(ho:ops[i]? =some o)
  (h: ∀K':Act→World→Prop,Shut (∀a w,(i≠z→S w)→((i≠z→S w)→wpAnyZ P md ops Q S z fuel (listed.setIfInBounds i true) a w)→K' a w)→if Region.wanted o (yielded ops a.tmps)=true then Oper.wp P o a w K' Q else K' (a.put o.dst undef) w)
  (hs:AllReadyZ P md ops Q S z fuel listed a w rs):AllReadyZ P md ops Q S z fuel listed a w (i::rs):=fun j hj=>by
 rcases List.mem_cons.1 hj with rfl|hj
 ·exact wpOp_step ho (fun K' hK=>h K' (fun a w hS hW=>hK a w ⟨hS,hW hS⟩))
 ·exact hs j hj
theorem wpAnyZ_ready {rs:List Nat}{fuel:Nat}{listed:Array Bool}{a:Act}{w:World}(hr:Region.ready md ops listed=rs)(hne:rs≠ [])
  (h:AllReadyZ P md ops Q S z fuel listed a w rs):wpAnyZ P md ops Q S z (fuel+1) listed a w:=⟨fun h0=>absurd (hr▸h0) hne,hr▸h⟩
theorem wpAnyZ_done {listed:Array Bool}{a:Act}{w:World}(hr:Region.ready md ops listed=[])(h:Q .normal a w): ∀fuel,wpAnyZ P md ops Q S z fuel listed a w
 | 0=>⟨hr,h⟩
 | _+1=>⟨fun _=>h,by rw [hr];simp⟩
theorem wp_region_Z (z:Nat){id:Nat}{a:Act}{w:World}(hm:P.follows .mixedOrders=true)(hS:S w.drew)
  (h:S w.drew→wpAnyZ P .any ops Q S z ops.size (Array.replicate ops.size false) a w.drew):(Code.region id ops true).wp P Q a w:=
 wp_region_any hm (wpAny_of_Z _ _ _ _ (h hS))
end
end Go.Proofs.YtfejobjgbadfjaaGreat.Draw
namespace Go.Proofs.YtfejobjgbadfjaaGreat.Draw
open Go.RowKit
section
variable {P:Program} {ops:Array Oper} {Q:Exit→Act→World→Prop} {md:Region.Mode} {S:World→Prop} {z:Nat}
def wpAnyY (P:Program)(md:Region.Mode)(ops:Array Oper)(Q:Exit→Act→World→Prop)(S:World→Prop)(z:Nat):Nat→Array Bool→Act→World→Prop
 | 0,listed,a,w=>Region.ready md ops listed=[]∧Q .normal a w
 | fuel+1,listed,a,w=>(Region.ready md ops listed=[]→Q .normal a w)∧ ∀i∈Region.ready md ops listed,wpOp P ops Q i (fun a' w'=>(i≠z→S w→S w')∧wpAnyY P md ops Q S z fuel (listed.setIfInBounds i true) a' w') a w
theorem wpAny_of_Y: ∀(fuel:Nat) (listed:Array Bool) (a:Act) (w:World),wpAnyY P md ops Q S z fuel listed a w→wpAny P md ops Q fuel listed a w
 | 0,_,_,_,h=>h
 | fuel+1,_,_,_,h=>⟨h.1,fun i hi=>wpOp_mono (fun a' w' h'=>wpAny_of_Y fuel _ a' w' h'.2) (h.2 i hi)⟩
theorem wpAnyY_first {i:Nat}{oi:Oper}{v:Value}(hi:ops[i]? =some oi)(hw:waits md ops z i=true)(hsel: ∀(j:Nat) (o:Oper) cs b,ops[j]? =some o→o.op≠ .select cs b)(hQ: ∀c a w,Q (.panic c) (a.put oi.dst v) w→Q (.panic c) a w):
  ∀(fuel:Nat) (listed:Array Bool) (a:Act) (w:World),(∀j oj,ops[j]? =some oj→j≠i→listed.getD j true=false→(∀e∈oj.after,Region.binds md e=true→e.on≠i)→oi.apart ops oj=true)→i∈Region.ready md ops listed→YieldsIf P ops S oi v a→S w→
   wpAnyY P md ops Q S z fuel (listed.setIfInBounds i true) (a.put oi.dst v) w→wpAnyY P md ops Q S z (fuel+1) listed a w
 | fuel,listed,a,w,hfree,hr,hy,hS,H=>by
  refine⟨fun h=>absurd hr (by simp [h]),fun j hj=>?_⟩
  by_cases hji:j=i
  ·subst hji
   exact hy.wpOp hi hS ⟨fun _ h=>h,H⟩
  ·have hjz:j≠z:=fun e=>not_ready hw hr (e▸hj)
   match fuel,H with
   | 0,H=>exact absurd (ready_mono hj hji) (by simp [H.1])
   | fuel+1,H=>
    obtain⟨hjun,oj,hoj,hall⟩:=mem_ready.1 hj
    have hi0:=(mem_ready.1 hr).1
    have hap:oi.apart ops oj=true:=hfree j oj hoj hji hjun fun e he hb heq=>by
     have h1:=hall e he hb
     rw [heq]at h1
     by_cases hl:i<listed.size
     ·simp [hl]at hi0 h1
      simp [hi0]at h1
     ·simp [Array.getElem?_eq_none (Nat.le_of_not_lt hl)]at h1
    refine wpOp_mono ?_ (wpOp_putIf hoj hap (fun cs b=>hsel i oi cs b hi) (fun cs b=>hsel j oj cs b hoj) hQ hy (H.2 j (ready_mono hj hji)))
    rintro a' w' ⟨hy',hS',H'⟩
    refine⟨hS',wpAnyY_first hi hw hsel hQ fuel (listed.setIfInBounds j true) _ w' ?_ (ready_mono hr (Ne.symm hji)) hy' (hS' hjz hS) (by rw [Array.setIfInBounds_comm _ _ hji];exact H')⟩
    intro k ok hk hki hun hno
    refine hfree k ok hk hki ?_ hno
    by_cases hjk:j=k
    ·rw [←hjk];exact hjun
    ·rw [getD_set_ne true hjk]at hun;exact hun
theorem wpAnyY_firstT {i:Nat}{oi:Oper}{v:Value}(hi:ops[i]? =some oi)(hsel: ∀(j:Nat) (o:Oper) cs b,ops[j]? =some o→o.op≠ .select cs b)(hQ: ∀c a w,Q (.panic c) (a.put oi.dst v) w→Q (.panic c) a w):
  ∀(fuel:Nat) (listed:Array Bool) (a:Act) (w:World),(∀j oj,ops[j]? =some oj→j≠i→listed.getD j true=false→(∀e∈oj.after,Region.binds md e=true→e.on≠i)→oi.apart ops oj=true)→i∈Region.ready md ops listed→YieldsIf P ops (fun _=>True) oi v a→
   wpAnyY P md ops Q S z fuel (listed.setIfInBounds i true) (a.put oi.dst v) w→wpAnyY P md ops Q S z (fuel+1) listed a w
 | fuel,listed,a,w,hfree,hr,hy,H=>by
  refine⟨fun h=>absurd hr (by simp [h]),fun j hj=>?_⟩
  by_cases hji:j=i
  ·subst hji
   exact hy.wpOp hi trivial ⟨fun _ h=>h,H⟩
  ·match fuel,H with
   | 0,H=>exact absurd (ready_mono hj hji) (by simp [H.1])
   | fuel+1,H=>
    obtain⟨hjun,oj,hoj,hall⟩:=mem_ready.1 hj
    have hi0:=(mem_ready.1 hr).1
    have hap:oi.apart ops oj=true:=hfree j oj hoj hji hjun fun e he hb heq=>by
     have h1:=hall e he hb
     rw [heq]at h1
     by_cases hl:i<listed.size
     ·simp [hl]at hi0 h1
      simp [hi0]at h1
     ·simp [Array.getElem?_eq_none (Nat.le_of_not_lt hl)]at h1
    refine wpOp_mono ?_ (wpOp_putIf hoj hap (fun cs b=>hsel i oi cs b hi) (fun cs b=>hsel j oj cs b hoj) hQ hy (H.2 j (ready_mono hj hji)))
    rintro a' w' ⟨hy',hS',H'⟩
    refine⟨hS',wpAnyY_firstT hi hsel hQ fuel (listed.setIfInBounds j true) _ w' ?_ (ready_mono hr (Ne.symm hji)) hy' (by rw [Array.setIfInBounds_comm _ _ hji];exact H')⟩
    intro k ok hk hki hun hno
    refine hfree k ok hk hki ?_ hno
    by_cases hjk:j=k
    ·rw [←hjk];exact hjun
    ·rw [getD_set_ne true hjk]at hun;exact hun
theorem wpAnyY_takeT {i:Nat}{oi:Oper}{v:Value}{fuel:Nat}{listed:Array Bool}{a:Act}{w:World}(hi:ops[i]? =some oi)
  (hs:Region.noSelect ops=true) (hf:Region.free md ops listed i=true) (hr:(Region.ready md ops listed).contains i=true)
  (hQ: ∀c a w,Q (.panic c) (a.put oi.dst v) w→Q (.panic c) a w) (hy:YieldsIf P ops (fun _=>True) oi v a)
  (h:wpAnyY P md ops Q S z fuel (listed.setIfInBounds i true) (a.put oi.dst v) w):wpAnyY P md ops Q S z (fuel+1) listed a w:=
 wpAnyY_firstT hi (Region.noSelect_spec hs) hQ fuel listed a w (Region.free_spec hi hf) (by simpa using hr) hy h
theorem wpAnyY_take {i:Nat}{oi:Oper}{v:Value}{fuel:Nat}{listed:Array Bool}{a:Act}{w:World}(hi:ops[i]? =some oi)(hw:waits md ops z i=true)
  (hs:Region.noSelect ops=true) (hf:Region.free md ops listed i=true) (hr:(Region.ready md ops listed).contains i=true)
  (hQ: ∀c a w,Q (.panic c) (a.put oi.dst v) w→Q (.panic c) a w) (hy:YieldsIf P ops S oi v a) (hS:S w)
  (h:wpAnyY P md ops Q S z fuel (listed.setIfInBounds i true) (a.put oi.dst v) w):wpAnyY P md ops Q S z (fuel+1) listed a w:=
 wpAnyY_first hi hw (Region.noSelect_spec hs) hQ fuel listed a w (Region.free_spec hi hf) (by simpa using hr) hy hS h
def AllReadyY (P:Program)(md:Region.Mode)(ops:Array Oper)(Q:Exit→Act→World→Prop)(S:World→Prop)(z fuel:Nat)(listed:Array Bool)(a:Act)(w:World)(rs:List Nat):Prop:=
 ∀i∈rs,wpOp P ops Q i (fun a' w'=>(i≠z→S w→S w')∧wpAnyY P md ops Q S z fuel (listed.setIfInBounds i true) a' w') a w
theorem AllReadyY.nil {fuel:Nat}{listed:Array Bool}{a:Act}{w:World}:AllReadyY P md ops Q S z fuel listed a w []:=fun _ h=>by cases h
theorem AllReadyY.cons {fuel:Nat}{listed:Array Bool}{a:Act}{w:World}{i:Nat}{o:Oper}{rs:List Nat}(ho:ops[i]? =some o)
  (h: ∀K':Act→World→Prop,Shut (∀a' w',(i≠z→S w→S w')→((i≠z→S w→S w')→wpAnyY P md ops Q S z fuel (listed.setIfInBounds i true) a' w')→K' a' w')→if Region.wanted o (yielded ops a.tmps)=true then Oper.wp P o a w K' Q else K' (a.put o.dst undef) w)
  (hs:AllReadyY P md ops Q S z fuel listed a w rs):AllReadyY P md ops Q S z fuel listed a w (i::rs):=fun j hj=>by
 rcases List.mem_cons.1 hj with rfl|hj
 ·exact wpOp_step ho (fun K' hK=>h K' (fun a w hS hW=>hK a w ⟨hS,hW hS⟩))
 ·exact hs j hj
theorem wpAnyY_ready {rs:List Nat}{fuel:Nat}{listed:Array Bool}{a:Act}{w:World}(hr:Region.ready md ops listed=rs)(hne:rs≠ [])
  (h:AllReadyY P md ops Q S z fuel listed a w rs):wpAnyY P md ops Q S z (fuel+1) listed a w:=⟨fun h0=>absurd (hr▸h0) hne,hr▸h⟩
theorem wpAnyY_done {listed:Array Bool}{a:Act}{w:World}(hr:Region.ready md ops listed=[])(h:Q .normal a w): ∀fuel,wpAnyY P md ops Q S z fuel listed a w
 | 0=>⟨hr,h⟩
 | _+1=>⟨fun _=>h,by rw [hr];simp⟩
theorem wp_region_Y (z:Nat){id:Nat}{a:Act}{w:World}(hm:P.follows .mixedOrders=true)(hS:S w.drew)
  (h:S w.drew→wpAnyY P .any ops Q S z ops.size (Array.replicate ops.size false) a w.drew):(Code.region id ops true).wp P Q a w:=
 wp_region_any hm (wpAny_of_Y _ _ _ _ (h hS))
end
end Go.Proofs.YtfejobjgbadfjaaGreat.Draw
namespace Go.Proofs.YtfejobjgbadfjaaGreat.Giv
open Go.RowKit RowG
def fitN (g:Gv)(s:ByteArray):Int:=min (s.size:Int) (min (g.cp-g.bs.size) (1000000000-(g.ba+g.bs.size)))
def writeG (g:Gv)(s:ByteArray):Gv×Int:=if g.en then(g,0)else(⟨g.ba,g.bs++s.extract 0 (fitN g s).toNat,g.cp,g.lm,g.en,g.dn⟩,fitN g s)
theorem fit_in {g:Gv}(h:g.ok=true)(s:ByteArray):0≤fitN g s∧fitN g s≤s.size∧g.bs.size+fitN g s≤g.cp∧g.ba+(g.bs.size+fitN g s)≤1000000000:=by
 obtain⟨h1,h2,h3,h4,h5,h6,h7⟩:=ok_iff.1 h
 unfold fitN
 omega
theorem ext_size (b:ByteArray)(i j:Nat)(h:j≤b.size):(b.extract i j).size=j-i:=by
 rw [ByteArray.size_extract]
 omega
theorem write_ok {g:Gv}(h:g.ok=true)(s:ByteArray):(writeG g s).1.ok=true:=by
 obtain⟨f1,f2,f3,f4⟩:=fit_in h s
 obtain⟨h1,h2,h3,h4,h5,h6,h7⟩:=ok_iff.1 h
 unfold writeG
 split
 ·exact h
 ·rename_i he
  have e:(s.extract 0 (fitN g s).toNat).size=(fitN g s).toNat:=by rw [ext_size _ _ _ (by omega)];omega
  refine ok_iff.2 ⟨h1,h2,?_,?_,h5,h6,fun hd=>absurd (h7 hd).1 he⟩
  ·show((g.bs++s.extract 0 (fitN g s).toNat).size:Int)≤g.cp
   rw [ByteArray.size_append,e];omega
  ·show g.ba+((g.bs++s.extract 0 (fitN g s).toNat).size:Int)≤1000000000
   rw [ByteArray.size_append,e];omega
theorem l6WriteW {T:TypeId}{pre post:List Value}{ow:Nat}(k:Nat)(g:Gv)(s:ByteArray)(w:World)(hv:Win T pre post ow w k g.c)(hok:g.ok=true)(hs:s.size≤2097152):
  Calls Tryz.prog 64 #[.pointer (some ⟨k,ow,none⟩),.string s] w fun x w'=>x=.returned (.int .i64 (writeG g s).2)∧Win T pre post ow w' k (writeG g s).1.c∧Draw.Kept k w w':=by
 have hmix:=mix
 obtain⟨i1,i2,i3,i4,i5,i6,i7⟩:=ok_iff.1 hok
 obtain⟨f1,f2,f3,f4⟩:=fit_in hok s
 have hE:=fun w'=>l6End g w' ⟨⟨by omega,by omega⟩,by omega⟩
 have hM1: ∀w',Calls Tryz.prog 38 #[.int .i64 (g.cp-g.bs.size),.int .i64 (1000000000-(g.ba+g.bs.size))] w' fun e w''=>e=.returned (.int .i64 (min (g.cp-g.bs.size) (1000000000-(g.ba+g.bs.size))))∧w'=w'':=fun w'=>by
  have:=Tak.l1Min (g.cp-g.bs.size) (1000000000-(g.ba+g.bs.size)) w'
  rw [show(if g.cp-g.bs.size<1000000000-(g.ba+g.bs.size)then g.cp-g.bs.size else 1000000000-(g.ba+g.bs.size))=min (g.cp-g.bs.size) (1000000000-(g.ba+g.bs.size)) by split <;>omega]at this
  exact this
 have hM2: ∀w',Calls Tryz.prog 38 #[.int .i64 (s.size:Int),.int .i64 (min (g.cp-g.bs.size) (1000000000-(g.ba+g.bs.size)))] w' fun e w''=>e=.returned (.int .i64 (fitN g s))∧w'=w'':=fun w'=>by
  have:=Tak.l1Min (s.size:Int) (min (g.cp-g.bs.size) (1000000000-(g.ba+g.bs.size))) w'
  rw [show(if (s.size:Int)<min (g.cp-g.bs.size) (1000000000-(g.ba+g.bs.size))then(s.size:Int)else min (g.cp-g.bs.size) (1000000000-(g.ba+g.bs.size)))=fitN g s by unfold fitN;split <;>omega]at this
  exact this
 have hW:Hid _:=(show writeG g s=if g.en then(g,0)else(⟨g.ba,g.bs++s.extract 0 (fitN g s).toNat,g.cp,g.lm,g.en,g.dn⟩,fitN g s)from rfl)
 obtain⟨n,hn⟩: ∃n,fitN g s=n:=⟨_,rfl⟩
 obtain⟨m,hm⟩: ∃m,min (g.cp-g.bs.size) (1000000000-(g.ba+g.bs.size))=m:=⟨_,rfl⟩
 rw [hn]at hM2 f1 f2 f3 f4 hW
 rw [hm]at hM1 hM2
 clear hn hm hok i7
 obtain⟨i8,i9⟩:=i1
 obtain⟨j1,j2⟩:=i2
 obtain⟨ba,bs,cp,lm,en,dn⟩:=g
 dsimp only [Gv.c,Gv.v]at *
 have HE:Hid _:=hE
 have H1:Hid _:=hM1
 have H2:Hid _:=hM2
 clear hE hM1 hM2
 have e0:=hv.cell0 rfl
 have e1:=hv.cell (i:=1) rfl
 have e2:=hv.cell (i:=2) rfl
 have e3:=hv.cell (i:=3) rfl
 have e4:=hv.cell (i:=4) rfl
 have e5:=hv.cell (i:=5) rfl
 have d0:=Draw.Later.cell e0
 have d1:=Draw.Later.cell e1
 have d2:=Draw.Later.cell e2
 have d3:=Draw.Later.cell e3
 have d4:=Draw.Later.cell e4
 have d5:=Draw.Later.cell e5
 go_enter Tryz.func64,Tryz.ntmps64
 go_wp2_with fail
 refine Draw.wp_region_later hmix (by kernel_rfl) ?_
 repeat (go_big_quiet_step (first|(go_at_call 36;exact Draw.later_of (HE.out _))|(go_at_call 38;first|(with_reducible exact Draw.later_same (H1.out _))|(with_reducible exact Draw.later_same (H2.out _)))))
 refine wpQuiet_nil ?_
 intro wq hw'
 obtain⟨q9,hq⟩:=hw'
 have hBq:=q9.h
 rw [←hq]at hBq
 clear hq q9 d0 d1 d2 d3 d4 d5 e0 e1 e2 e3 e4 e5 HE H1 H2
 have hv2:=hv.later hBq
 have K2:Draw.Kept k w wq:=Draw.Kept.ofBelow hBq (Nat.le_refl _)
 clear hBq hv
 have e1:=hv2.cell (i:=1) rfl
 have e4:=hv2.cell (i:=4) rfl
 have x1:=hv2.free 1
 cases en
 case true=>
  go_wp2_with fail
  go_ret
  rw [hW.out]
  exact⟨rfl,hv2,K2⟩
 have hcat: ¬9223372036854775807<bs.size+n.toNat:=by omega
 go_wp2_with fail
 refine Draw.wp_region_Y (S:=(fun w'=>w'.cell? ⟨k,ow+1,none⟩=some (.string bs))) 11 (by kernel_rfl) ?_ (fun hHeld=>?_)
 focus ((try dsimp only) <;>(first|with_reducible exact hHeld|exact e1))
 refine Draw.wpAnyY_take (i:=0) (v:=?_) rfl (by kernel_rfl) (by kernel_rfl) (by kernel_rfl) (by kernel_rfl) (fun _ _ _ h=>h) (Or.inl ⟨by rfl,?_⟩) (by assumption) ?_
 rotate_left 1
 focus (intro s h;(try dsimp only at h);go_simp;(try apply And.intro) <;>with_reducible rfl)
 (try simp only [Act.put,Draw.lays])
 refine Draw.wpAnyY_take (i:=1) (v:=?_) rfl (by kernel_rfl) (by kernel_rfl) (by kernel_rfl) (by kernel_rfl) (fun _ _ _ h=>h) (Or.inl ⟨by rfl,?_⟩) (by assumption) ?_
 rotate_left 1
 focus (intro s h;(try dsimp only at h);go_simp;(try apply And.intro) <;>with_reducible rfl)
 (try simp only [Act.put,Draw.lays])
 refine Draw.wpAnyY_take (i:=2) (v:=?_) rfl (by kernel_rfl) (by kernel_rfl) (by kernel_rfl) (by kernel_rfl) (fun _ _ _ h=>h) (Or.inl ⟨by rfl,?_⟩) (by assumption) ?_
 rotate_left 1
 focus (intro s h;(try dsimp only at h);go_simp;(try apply And.intro) <;>with_reducible rfl)
 (try simp only [Act.put,Draw.lays])
 refine Draw.wpAnyY_take (i:=3) (v:=?_) rfl (by kernel_rfl) (by kernel_rfl) (by kernel_rfl) (by kernel_rfl) (fun _ _ _ h=>h) (Or.inl ⟨by rfl,?_⟩) (by assumption) ?_
 rotate_left 1
 focus (intro s h;(try dsimp only at h);go_simp;(try apply And.intro) <;>with_reducible rfl)
 (try simp only [Act.put,Draw.lays])
 refine Draw.wpAnyY_take (i:=4) (v:=?_) rfl (by kernel_rfl) (by kernel_rfl) (by kernel_rfl) (by kernel_rfl) (fun _ _ _ h=>h) (Or.inl ⟨by rfl,?_⟩) (by assumption) ?_
 rotate_left 1
 focus (intro s h;(try dsimp only at h);go_simp;(try apply And.intro) <;>with_reducible rfl)
 (try simp only [Act.put,Draw.lays])
 refine Draw.wpAnyY_take (i:=5) (v:=?_) rfl (by kernel_rfl) (by kernel_rfl) (by kernel_rfl) (by kernel_rfl) (fun _ _ _ h=>h) (Or.inl ⟨by rfl,?_⟩) (by assumption) ?_
 rotate_left 1
 focus (intro s h;(try dsimp only at h);go_simp;(try apply And.intro) <;>with_reducible rfl)
 (try simp only [Act.put,Draw.lays])
 refine Draw.wpAnyY_take (i:=6) (v:=?_) rfl (by kernel_rfl) (by kernel_rfl) (by kernel_rfl) (by kernel_rfl) (fun _ _ _ h=>h) (Or.inl ⟨by rfl,?_⟩) (by assumption) ?_
 rotate_left 1
 focus (intro s h;(try dsimp only at h);go_simp;(try apply And.intro) <;>with_reducible rfl)
 (try simp only [Act.put,Draw.lays])
 refine Draw.wpAnyY_take (i:=7) (v:=?_) rfl (by kernel_rfl) (by kernel_rfl) (by kernel_rfl) (by kernel_rfl) (fun _ _ _ h=>h) (Or.inl ⟨by rfl,?_⟩) (by assumption) ?_
 rotate_left 1
 focus (intro s h;(try dsimp only at h);go_simp;(try apply And.intro) <;>with_reducible rfl)
 (try simp only [Act.put,Draw.lays])
 refine Draw.wpAnyY_take (i:=8) (v:=?_) rfl (by kernel_rfl) (by kernel_rfl) (by kernel_rfl) (by kernel_rfl) (fun _ _ _ h=>h) (Or.inl ⟨by rfl,?_⟩) (by assumption) ?_
 rotate_left 1
 focus (intro s h;(try dsimp only at h);go_simp;(try apply And.intro) <;>with_reducible rfl)
 (try simp only [Act.put,Draw.lays])
 refine Draw.wpAnyY_takeT (i:=9) (v:=?_) rfl (by kernel_rfl) (by kernel_rfl) (by kernel_rfl) (fun _ _ _ h=>h) (Or.inl ⟨by rfl,?_⟩) ?_
 rotate_left 1
 focus (intro s h;(try dsimp only at h);go_simp;(try apply And.intro) <;>with_reducible rfl)
 (try simp only [Act.put,Draw.lays])
 refine Draw.wpAnyY_takeT (i:=10) (v:=?_) rfl (by kernel_rfl) (by kernel_rfl) (by kernel_rfl) (fun _ _ _ h=>h) (Or.inl ⟨by rfl,?_⟩) ?_
 rotate_left 1
 focus (intro s h;(try dsimp only at h);go_simp;(try apply And.intro) <;>with_reducible rfl)
 (try simp only [Act.put,Draw.lays])
 refine Draw.wpAnyY_ready (rs:=[11]) (by kernel_rfl) (by simp) ?_
 refine Draw.AllReadyY.cons rfl (fun K hK=>?_) Draw.AllReadyY.nil
 go_simp
 refine hK.out _ _ (fun h=>absurd rfl h) (fun hHeld2=>?_)
 clear hK K hHeld hHeld2
 (try simp only [Act.put,Draw.lays])
 refine Draw.wpAnyY_done (by kernel_rfl) ?_ _
 go_wp2_with fail
 go_ret
 rw [hW.out]
 exact⟨rfl,hv2.drew.set 1 _,(K2.drew).setCell (.inl rfl) _⟩
theorem l6Write (k:Nat)(g:Gv)(s:ByteArray)(w:World)(hv:Var 41 w k g.c)(hok:g.ok=true)(hs:s.size≤2097152):
  Calls Tryz.prog 64 #[.pointer (some ⟨k,0,none⟩),.string s] w fun x w'=>x=.returned (.int .i64 (writeG g s).2)∧Var 41 w' k (writeG g s).1.c∧Draw.Kept k w w':=
 (l6WriteW k g s w hv.win hok hs).mono fun _ _ ⟨h1,h2,h3⟩=>⟨h1,h2.whole,h3⟩
end Go.Proofs.YtfejobjgbadfjaaGreat.Giv
