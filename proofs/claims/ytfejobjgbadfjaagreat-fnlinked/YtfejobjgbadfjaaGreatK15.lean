/- Contracts of this seat's functions, and their mathematics (TakP TakQ TakR). -/
import Derived.Test.YtfejobjgbadfjaaGreatK7
import Derived.Test.YtfejobjgbadfjaaGreatK14
import Derived.Shelf.Abstract
import Derived.Shelf.RegionOpen
import Derived.WalkKit
import Derived.OwnWalkIn
import Derived.TacticsInMore
import Derived.LoopNIn
import Derived.LoopIn
set_option linter.unusedVariables false
set_option linter.unusedSimpArgs false
set_option maxRecDepth 100000
set_option maxHeartbeats 4000000
namespace Go.Proofs.YtfejobjgbadfjaaGreat.Tak
open Go.RowKit RowG
theorem isCap (n:Int)(w:World):Calls Tryz.prog 109 #[.int .i64 n] w fun e w'=>e=.returned (.bool (capB n))∧w=w':=by
 by_cases h1:1≤n
 ·by_cases h2:n≤400
  ·go_enter Tryz.func109,Tryz.ntmps109
   go_wp2_with fail
   go_ret
   exact⟨Num.ret_bool (by simp [capB,h1,h2]),rfl⟩
  ·go_enter Tryz.func109,Tryz.ntmps109
   go_wp2_with fail
   go_ret
   exact⟨Num.ret_bool (by simp [capB,h1,h2]),rfl⟩
 ·go_enter Tryz.func109,Tryz.ntmps109
  go_wp2_with fail
  go_ret
  exact⟨Num.ret_bool (by simp [capB];omega),rfl⟩
theorem isCapEq {n:Int}{v:Bool}(h:capB n=v)(w:World):Calls Tryz.prog 109 #[.int .i64 n] w fun e w'=>e=.returned (.bool v)∧w=w':=by
 subst h
 exact isCap n w
def bdP (p:Pt):Prop:= -1152921504606846976≤p.1∧p.1≤4611686018427387904∧p.2.size≤2097152
theorem behind (p:Int)(b:ByteArray)(w:World)(h:bdP (p,b)):
  Calls Tryz.prog 120 #[.agg #[.int .i64 p,.string b]] w fun x w'=>x=.returned (.int .i64 (endP (p,b)))∧Below w.heap.size w w':=by
 obtain⟨hp0,hp,hb⟩:=h
 simp only at hp0 hp hb
 go_enter Tryz.func120,Tryz.ntmps120
 go_wp2_with fail
 go_ret
 exact⟨rfl,(Below.refl _ _).alloc (Nat.le_refl _) _⟩
theorem behindEq {p:Int}{b:ByteArray}{e:Int}(w:World)(h:bdP (p,b))(he:endP (p,b)=e):
  Calls Tryz.prog 120 #[.agg #[.int .i64 p,.string b]] w fun x w'=>x=.returned (.int .i64 e)∧Below w.heap.size w w':=by
 subst he
 exact behind p b w h
theorem isPlaceEq {n:Int}{v:Bool}(h:Num.plB n=v)(w:World):Calls Tryz.prog 108 #[.int .i64 n] w fun x w'=>x=.returned (.bool v)∧w=w':=by
 subst h
 exact Num.isPlace n w
def partB (p:Pt):Bool:= !p.2.toList.isEmpty&&(decide (p.2.size≤40)&&(Num.plB p.1&&Num.plB (endP p)))
theorem isPart (p:Int)(b:ByteArray)(w:World)(h:bdP (p,b)):
  Calls Tryz.prog 119 #[.agg #[.int .i64 p,.string b]] w fun x w'=>x=.returned (.bool (partB (p,b)))∧Below w.heap.size w w':=by
 have fin: ∀ {o:Obj},Below w.heap.size w (w.alloc o):=fun {o}=>(Below.refl _ _).alloc (Nat.le_refl _) o
 have BV:Below w.heap.size w (w.alloc (.cells #[.int .i64 p,.string b] 123)):=fin
 by_cases h1:b.toList=[]
 ·have e1:Hid (partB (p,b)=false):=by show _=_;simp [partB,h1]
  go_enter Tryz.func119,Tryz.ntmps119
  go_wp2_with fail
  go_ret
  exact⟨Num.ret_bool e1.out.symm,fin⟩
 ·by_cases h2:b.size≤40
  ·cases h3:Num.plB p
   ·have e1:Hid (partB (p,b)=false):=by show _=_;simp [partB,h3]
    go_enter Tryz.func119,Tryz.ntmps119
    go_wp2_with (go_at_call 108;refine(isPlaceEq h3 _).mono ?_;rintro x w' ⟨rfl,rfl⟩)
    go_ret
    exact⟨Num.ret_bool e1.out.symm,fin⟩
   ·cases h4:Num.plB (endP (p,b))
    ·have e1:Hid (partB (p,b)=false):=by show _=_;simp [partB,h4]
     have h4':Hid _:=h4
     clear h4
     obtain⟨e,he⟩: ∃e,e=endP (p,b):=⟨_,rfl⟩
     have h5:Num.plB e=false:=by rw [he];exact h4'.out
     have he':Hid (endP (p,b)=e):=he.symm
     clear he
     go_enter Tryz.func119,Tryz.ntmps119
     go_wp2_with (first|(go_at_call 108;refine(Num.isPlace _ _).mono ?_;rintro x w2 ⟨rfl,rfl⟩)|(go_at_call 120;refine(behindEq _ h he'.out).mono ?_;rintro x w' ⟨rfl,hb⟩))
     go_ret
     exact⟨Num.ret_bool e1.out.symm,BV.trans (hb.mono (by simp))⟩
    ·have e1:Hid (partB (p,b)=true):=by show _=_;simp [partB,h1,h2,h3,h4]
     have h4':Hid _:=h4
     clear h4
     obtain⟨e,he⟩: ∃e,e=endP (p,b):=⟨_,rfl⟩
     have h5:Num.plB e=true:=by rw [he];exact h4'.out
     have he':Hid (endP (p,b)=e):=he.symm
     clear he
     go_enter Tryz.func119,Tryz.ntmps119
     go_wp2_with (first|(go_at_call 108;refine(Num.isPlace _ _).mono ?_;rintro x w2 ⟨rfl,rfl⟩)|(go_at_call 120;refine(behindEq _ h he'.out).mono ?_;rintro x w' ⟨rfl,hb⟩))
     go_ret
     exact⟨Num.ret_bool (by rw [e1.out];simp [h1]),BV.trans (hb.mono (by simp))⟩
  ·have e1:Hid (partB (p,b)=false):=by show _=_;simp [partB,h2]
   go_enter Tryz.func119,Tryz.ntmps119
   go_wp2_with fail
   go_ret
   exact⟨Num.ret_bool e1.out.symm,fin⟩
theorem isPartEq {p:Int}{b:ByteArray}{v:Bool}(w:World)(h:bdP (p,b))(hv:partB (p,b)=v):
  Calls Tryz.prog 119 #[.agg #[.int .i64 p,.string b]] w fun x w'=>x=.returned (.bool v)∧Below w.heap.size w w':=by
 subst hv
 exact isPart p b w h
theorem limitOfI (nx:Int)(bs:ByteArray)(a:Option Addr)(n c:Nat)(cp fi:Int)(en:Bool)(w:World)(hn:0≤nx∧nx≤1152921504606846976)(hb:bs.size≤1152921504606846976)(hc:0≤cp∧cp≤1152921504606846976){v:Int}(hv:limT nx bs cp=v):
  Calls Tryz.prog 121 #[.agg #[.int .i64 nx,.string bs,.slice a n c,.int .i64 cp,.int .i64 fi,.bool en]] w fun x w'=>x=.returned (.int .i64 v)∧Below w.heap.size w w':=by
 obtain⟨hn0,hn1⟩:=hn
 obtain⟨hc0,hc1⟩:=hc
 subst hv
 go_enter Tryz.func121,Tryz.ntmps121
 go_wp2_with fail
 go_ret
 exact⟨rfl,(Below.refl _ _).alloc (Nat.le_refl _) _⟩
theorem behindAll (nx:Int)(bs:ByteArray)(a:Option Addr)(n c:Nat)(cp fi:Int)(en:Bool)(l:List Pt)(w:World)(hn:n=l.length)(h:partE.Lies w a l)(hl:l.length≤2097152)(hp:Bd l){v:Int}(hv:lastEnd nx l=v):
  Calls Tryz.prog 122 #[.agg #[.int .i64 nx,.string bs,.slice a n c,.int .i64 cp,.int .i64 fi,.bool en]] w fun x w'=>x=.returned (.int .i64 v)∧Below w.heap.size w w':=by
 subst hn hv
 have fin: ∀ {o:Obj},Below w.heap.size w (w.alloc o):=fun {o}=>(Below.refl _ _).alloc (Nat.le_refl _) o
 rcases List.eq_nil_or_concat l with rfl|⟨r,⟨p,b⟩,hr⟩
 ·go_enter Tryz.func122,Tryz.ntmps122
  go_wp2_with fail
  go_ret
  exact⟨rfl,fin⟩
 ·rw [List.concat_eq_append]at hr
  subst hr
  have hq:bdP (p,b):=hp (p,b) (by simp)
  have hle:Hid (lastEnd nx (r++[(p,b)])=endP (p,b)):=by show _=_;simp [lastEnd]
  rcases h with e|⟨k,off,rfl,hc⟩
  ·simp at e
  have hlen:(r++[(p,b)]).length=r.length+1:=by simp
  have hx:(r++[(p,b)])[r.length]? =some (p,b):=by simp
  have g0:w.cell? ⟨k,off+r.length*2,none⟩=some (.int .i64 p):=El.Lies.cell hc hx (j:=0) rfl
  have g1:w.cell? ⟨k,off+r.length*2+1,none⟩=some (.string b):=El.Lies.cell hc hx (j:=1) rfl
  have c0:=fun o=>alloc_cell g0 o
  have c1:=fun o=>alloc_cell g1 o
  rw [hlen]at hl ⊢
  clear g0 g1
  clear hc hx hp hlen
  go_enter Tryz.func122,Tryz.ntmps122
  go_wp2_with ((go_at_call 120;refine(behindEq _ hq rfl).mono ?_;rintro x w' ⟨rfl,hb⟩))
  go_ret
  exact⟨by rw [hle.out];rfl,fin.trans (hb.mono fin.size)⟩
def endOfB (fi last:Int):Bool:=decide (fi= -1)||(Num.plB fi&&decide (last≤fi))
theorem isEndOf (nx:Int)(bs:ByteArray)(a:Option Addr)(n c:Nat)(cp fi:Int)(en:Bool)(l:List Pt)(w:World)(hn:n=l.length)(h:partE.Lies w a l)(hl:l.length≤2097152)(hp:Bd l){last:Int}(hv:lastEnd nx l=last):
  Calls Tryz.prog 112 #[.agg #[.int .i64 nx,.string bs,.slice a n c,.int .i64 cp,.int .i64 fi,.bool en]] w fun x w'=>x=.returned (.bool (endOfB fi last))∧Below w.heap.size w w':=by
 subst hn
 have HV:Hid (lastEnd nx l=last):=hv
 have HP:Hid (Bd l):=hp
 clear hv hp
 have hmix:=mix
 have hbx:=box6 w (.int .i64 nx) (.string bs) (.slice a l.length c) (.int .i64 cp) (.int .i64 fi) (.bool en) 44
 have BV:Below w.heap.size w (w.alloc (.cells #[.int .i64 nx,.string bs,.slice a l.length c,.int .i64 cp,.int .i64 fi,.bool en] 44)):=(Below.refl _ _).alloc (Nat.le_refl _) _
 have hL:Hid (partE.Lies (w.alloc (.cells #[.int .i64 nx,.string bs,.slice a l.length c,.int .i64 cp,.int .i64 fi,.bool en] 44)) a l):=h.alloc _
 have d0:=Draw.Later.cell hbx.1
 have d1:=Draw.Later.cell hbx.2.1
 have d2:=Draw.Later.cell hbx.2.2.1
 have d3:=Draw.Later.cell hbx.2.2.2.1
 have d4:=Draw.Later.cell hbx.2.2.2.2.1
 have d5:=Draw.Later.cell hbx.2.2.2.2.2
 clear hbx h
 go_enter Tryz.func112,Tryz.ntmps112
 go_wp2_with fail
 generalize hV:(w.alloc (.cells #[.int .i64 nx,.string bs,.slice a l.length c,.int .i64 cp,.int .i64 fi,.bool en] 44))=V at *
 clear hV
 by_cases h1:fi= -1
 ·have HF:Hid (endOfB fi last=true):=by show _=_;simp [endOfB,h1]
  have hd:(fi== -1)=true:=by simp [h1]
  go_wp2_with fail
  refine Draw.wp_region_later hmix (by kernel_rfl) ?_
  repeat (go_big_quiet_step (fail))
  refine wpQuiet_nil ?_
  intro wq hw'
  obtain⟨q,hq⟩:=hw'
  have hBq:=q.h
  rw [←hq]at hBq
  clear hq q
  go_wp2_with fail
  go_ret
  exact⟨by rw [HF.out];rfl,BV.trans (hBq.mono BV.size)⟩
 have hd1:(fi== -1)=false:=by simp [h1]
 cases hpl:Num.plB fi
 ·have HF:Hid (endOfB fi last=false):=by show _=_;simp [endOfB,h1,hpl]
  go_wp2_with fail
  refine Draw.wp_region_later hmix (by kernel_rfl) ?_
  repeat (go_big_quiet_step ((go_at_call 108;exact Draw.later_same (isPlaceEq hpl _))))
  refine wpQuiet_nil ?_
  intro wq hw'
  obtain⟨q,hq⟩:=hw'
  have hBq:=q.h
  rw [←hq]at hBq
  clear hq q
  go_wp2_with fail
  go_ret
  exact⟨by rw [HF.out];rfl,BV.trans (hBq.mono BV.size)⟩
 by_cases h3:last≤fi
 ·have HF:Hid (endOfB fi last=true):=by show _=_;simp [endOfB,h1,hpl,h3]
  have hd3:decide (last≤fi)=true:=decide_eq_true h3
  go_wp2_with fail
  refine Draw.wp_region_later hmix (by kernel_rfl) ?_
  repeat (go_big_quiet_step (first|(go_at_call 108;exact Draw.later_same (isPlaceEq hpl _))|(go_at_call 122;exact Draw.later_of (behindAll _ _ _ _ _ _ _ _ l _ rfl (hL.out.later (Draw.Later.h _)) hl HP.out HV.out))))
  refine wpQuiet_nil ?_
  intro wq hw'
  obtain⟨q,hq⟩:=hw'
  have hBq:=q.h
  rw [←hq]at hBq
  clear hq q
  go_wp2_with fail
  go_ret
  exact⟨by rw [HF.out];rfl,BV.trans (hBq.mono BV.size)⟩
 ·have HF:Hid (endOfB fi last=false):=by show _=_;simp [endOfB,h1,hpl];omega
  have hd3:decide (last≤fi)=false:=decide_eq_false h3
  go_wp2_with fail
  refine Draw.wp_region_later hmix (by kernel_rfl) ?_
  repeat (go_big_quiet_step (first|(go_at_call 108;exact Draw.later_same (isPlaceEq hpl _))|(go_at_call 122;exact Draw.later_of (behindAll _ _ _ _ _ _ _ _ l _ rfl (hL.out.later (Draw.Later.h _)) hl HP.out HV.out))))
  refine wpQuiet_nil ?_
  intro wq hw'
  obtain⟨q,hq⟩:=hw'
  have hBq:=q.h
  rw [←hq]at hBq
  clear hq q
  go_wp2_with fail
  go_ret
  exact⟨by rw [HF.out];rfl,BV.trans (hBq.mono BV.size)⟩
end Go.Proofs.YtfejobjgbadfjaaGreat.Tak
namespace Go.Proofs.YtfejobjgbadfjaaGreat.Tak
open Go.RowKit RowG Rng
attribute [local go_sem] Oper.semAt_some
def pairs:Int→List Pt→List (Int×Pt)
 | _,[]=>[]
 | b,p::l=>(b,p)::pairs (endP p) l
def behAt:Int→List Pt→Nat→Int
 | b,_,0=>b
 | b,[],_+1=>b
 | _,p::l,k+1=>behAt (endP p) l k
theorem behAt_succ: ∀(b:Int) (l:List Pt) (k:Nat) (p:Pt),l[k]? =some p→behAt b l (k+1)=endP p
 | b,[],k,p,h=>by simp at h
 | b,q::l,0,p,h=>by
  have e:q=p:=by simpa using h
  subst e
  cases l <;>rfl
 | b,q::l,k+1,p,h=>by
  have e:l[k]? =some p:=by simpa using h
  have:=behAt_succ (endP q) l k p e
  simpa [behAt]using this
theorem pairs_at: ∀(b:Int) (l:List Pt) (k:Nat) (p:Pt),l[k]? =some p→(pairs b l)[k]? =some (behAt b l k,p)
 | b,[],k,p,h=>by simp at h
 | b,q::l,0,p,h=>by
  have e:q=p:=by simpa using h
  subst e
  rfl
 | b,q::l,k+1,p,h=>by
  have e:l[k]? =some p:=by simpa using h
  simpa [pairs,behAt]using pairs_at (endP q) l k p e
theorem pairs_len: ∀(b:Int) (l:List Pt),(pairs b l).length=l.length
 | _,[]=>rfl
 | _,p::l=>by simp [pairs,pairs_len (endP p) l]
def encQ (x:Int×Pt):Array Value:= #[.int .i64 x.1,.agg #[.int .i64 x.2.1,.string x.2.2]]
theorem lies_lt {α:Type}{E:El α}{w:World}{a:Option Addr}{l:List α}(h:E.Lies w a l)(hl:l≠ []): ∀x,a=some x→x.block<w.heap.size:=by
 rcases h with e|⟨b,off,rfl,hc⟩
 ·exact absurd e hl
 ·intro x hx
  cases hx
  cases hv:E.vals l with
  | nil=>
   have e:=E.vals_len l
   rw [hv]at e
   have:=E.pos
   cases l with
   | nil=>exact absurd rfl hl
   | cons y r=>simp [Nat.succ_mul]at e;omega
  | cons u r=>exact Draw.lt_of_cell (hc 0 u (by rw [hv];rfl))
theorem partsFrom (nx:Int)(a:Option Addr)(n c:Nat)(w:World):
  Calls Tryz.prog 118 #[.int .i64 nx,.slice a n c] w fun e w'=>e=.returned (.func (.func 123) #[] #[.pointer (some ⟨w.heap.size,0,none⟩),.pointer (some ⟨w.heap.size+1,0,none⟩)])∧
   w'=(w.alloc (.cells #[.int .i64 nx] 2)).alloc (.cells #[.slice a n c] 42):=by
 go_enter Tryz.func118,Tryz.ntmps118
 go_wp2_with fail
 go_ret
 exact⟨rfl,rfl⟩
theorem partsFrom1 (nx:Int)(a:Option Addr)(c:Nat)(l:List Pt)(bn bp:Nat)(mine:Nat→Obj→Prop)(w:World)
  (hbn:Var 2 w bn [.int .i64 nx]) (hbp:Var 42 w bp [.slice a l.length c]) (hL:partE.Lies w a l) (hl:l.length≤2097152) (hp:Bd l)
  (hrow:l≠ []→ ∀x,a=some x→ ∀o,¬mine x.block o) (hnew: ∀k v0 v1,w.heap.size≤k→ ¬mine k (.cells #[v0,v1] 123 (0,0))):
  Gives Tryz.prog 123 #[.pointer (some ⟨bn,0,none⟩),.pointer (some ⟨bp,0,none⟩)] encQ (pairs nx l) mine w:=by
 intro lp J Jx W hW hW2 stJ stJx hY h0
 have n0:W.cell? ⟨bn,0,none⟩=some (.int .i64 nx):=(hbn.later hW).cell rfl
 have p0:W.cell? ⟨bp,0,none⟩=some (.slice a l.length c):=(hbp.later hW).cell rfl
 have hLW:Hid (partE.Lies W a l):=hL.later hW
 have hsz:Hid (w.heap.size≤W.heap.size):=hW.size
 have hY':Hid _:=hY
 have hlen:Hid _:=pairs_len nx l
 clear hL hW hbn hbp hY hW2
 show CallsIn Fence.wide 0 Tryz.prog 123 #[.func (.yield lp) #[] #[],.pointer (some ⟨bn,0,none⟩),.pointer (some ⟨bp,0,none⟩)] W _
 refine callsIn_of_wp Tryz.func123 rfl trivial ?_ rfl
 simp only [Tryz.ntmps123,List.size_toArray,List.length_cons,List.length_nil,Nat.reduceAdd,Nat.reduceSub,Array.replicate_succ,Array.replicate_zero,List.push_toArray,List.append_toArray,List.nil_append,List.cons_append]
 gi_wp2
 gi_loopw [4,10] (fun b i wr=> ∃k:Nat,k≤l.length∧b=.int .i64 (behAt nx l k)∧i=.int .i64 k∧J k wr∧partE.Lies wr a l∧W.heap.size≤wr.heap.size)
  (fun b i _=>l.length-(intOf i).toNat)
 case atStart=>exact⟨0,Nat.zero_le _,by cases l <;>rfl,rfl,h0,hLW.out,Nat.le_refl _⟩
 case round=>
  obtain⟨k,hk,rfl,rfl,hJ,hLr,hsr⟩:=hrel
  by_cases hlt:k<l.length
  ·obtain⟨⟨pa,pb⟩,hx⟩: ∃x,l[k]? =some x:=⟨l[k],List.getElem?_eq_getElem hlt⟩
   rcases hLr with e|⟨b,off,rfl,hc⟩
   ·subst e;simp at hlt
   have c0:wr.cell? ⟨b,off+k*2,none⟩=some (.int .i64 pa):=El.Lies.cell hc hx (j:=0) rfl
   have c1:wr.cell? ⟨b,off+k*2+1,none⟩=some (.string pb):=El.Lies.cell hc hx (j:=1) rfl
   have hB1:Below wr.heap.size wr (wr.alloc (.cells #[.int .i64 pa,.string pb] 123)):=(Below.refl _ _).alloc (Nat.le_refl _) _
   have hV1:Hid (Var 123 (wr.alloc (.cells #[.int .i64 pa,.string pb] 123)) wr.heap.size [.int .i64 pa,.string pb]):=Var.new wr [.int .i64 pa,.string pb]
   have hL1:Hid (partE.Lies (wr.alloc (.cells #[.int .i64 pa,.string pb] 123)) (some ⟨b,off,none⟩) l):=El.Lies.later (.inr ⟨b,off,rfl,hc⟩) hB1
   have hbd:bdP (pa,pb):=hp _ (List.mem_of_getElem? hx)
   have hbe:Hid (behAt nx l (k+1)=endP (pa,pb)):=behAt_succ nx l k _ hx
   obtain⟨fn,tmps,assign,body,hy,hR⟩:=hY'.out k (behAt nx l k,pa,pb) (wr.alloc (.cells #[.int .i64 pa,.string pb] 123)) (pairs_at nx l k _ hx) (stJ k _ _ hJ (Chg.later hB1))
   dsimp only [encQ]at hy
   have hrow':Hid _:=hrow (by rintro rfl;simp at hlt)
   clear hx hc
   gi_wp2
   refine⟨rfl,hR.mono ?_⟩
   clear hR hy
   rintro e W3 (⟨rfl,hJ3,hk3⟩|⟨rfl,hJx3,_⟩)
   ·have hV3:Var 123 W3 wr.heap.size [.int .i64 pa,.string pb]:=hk3.same _ _ hV1.out (hnew _ _ _ (by have:=hsz.out;omega))
    have v0:=hV3.cell (i:=0) rfl
    have v1:=hV3.cell (i:=1) rfl
    have hL3:Hid (partE.Lies W3 (some ⟨b,off,none⟩) l):=hL1.out.same (fun x ex hlx=>by
     cases ex
     have e1:=Array.getElem?_eq_getElem hlx
     rw [hk3.same _ _ e1 (hrow'.out _ rfl _),e1])
    have hs3:Hid (wr.heap.size≤W3.heap.size):=by show _≤_;have:=hk3.size;simp at this;omega
    clear hV3 hk3 hL1 hV1 hB1
    gi_wp2_with (refine⟨trivial,rfl,?_⟩;gi_at_call 120;refine(callsIn_wide.2 (behind _ _ _ hbd)).mono ?_;rintro e w4 ⟨rfl,hb4⟩)
    go_roundw
    case rel=>exact⟨k+1,by omega,by rw [hbe.out],by simp,stJ _ _ _ hJ3 (Chg.later hb4),hL3.out.later hb4,by have:=hs3.out;have:=hb4.size;omega⟩
    case measure=>simp [intOf];omega
   ·gi_wp2
    refine bodyPost_ret (results_none rfl _ _ _) rfl ?_
    exact⟨⟨_,rfl⟩,.inr hJx3⟩
  ·obtain rfl:k=l.length:=by omega
   gi_wp2
   go_end0
   exact⟨⟨_,rfl⟩,.inl (by rw [hlen.out];exact hJ)⟩
end Go.Proofs.YtfejobjgbadfjaaGreat.Tak
namespace Go.Proofs.YtfejobjgbadfjaaGreat.Tak
open Go.RowKit RowG Rng
attribute [local go_sem] Oper.semAt_some
theorem std_below {D b:Nat}{A B:World}(hs:Std b A B)(hD:D≤b)(hA:D≤A.heap.size):Below D A B:=hs.below hA (fun k o hk e=>by omega)
def okQ5 (nx lim:Int)(x:Int×Pt):Bool:=partB x.2&&(!decide (x.2.1=nx)&&(!decide (x.2.1<x.1)&& !decide (lim<endP x.2)))
theorem pairs_mem: ∀(b:Int) (l:List Pt) (x:Int×Pt),x∈pairs b l→x.2∈l
 | _,[],x,h=>by simp [pairs]at h
 | b,p::l,x,h=>by
  simp only [pairs,List.mem_cons]at h
  rcases h with rfl|h
  ·simp
  ·exact List.mem_cons_of_mem _ (pairs_mem _ l x h)
theorem arePartsOf (nx:Int)(bs:ByteArray)(a:Option Addr)(n c:Nat)(cp fi:Int)(en:Bool)(l:List Pt)(w:World)(hn:n=l.length)(h:partE.Lies w a l)(hl:l.length≤2097152)(hp:Bd l)
  (hnx:0≤nx∧nx≤1152921504606846976) (hb:bs.size≤1152921504606846976) (hc:0≤cp∧cp≤1152921504606846976) {lim:Int} (hlim:limT nx bs cp=lim):
  Calls Tryz.prog 111 #[.agg #[.int .i64 nx,.string bs,.slice a n c,.int .i64 cp,.int .i64 fi,.bool en]] w fun x w'=>x=.returned (.bool ((pairs nx l).all (okQ5 nx lim)))∧Below w.heap.size w w':=by
 subst hn
 have hmix:=mix
 have B4:Below w.heap.size w ((((w.alloc (.cells #[.int .i64 nx,.string bs,.slice a l.length c,.int .i64 cp,.int .i64 fi,.bool en] 44)).alloc (.cells #[.bool false] 4)).alloc (.cells #[.int .i64 nx] 2)).alloc (.cells #[.slice a l.length c] 42)):=((((Below.refl _ _).alloc (Nat.le_refl _) _).alloc (by simp) _).alloc (by simp;omega) _).alloc (by simp;omega) _
 have V0:Var 44 ((((w.alloc (.cells #[.int .i64 nx,.string bs,.slice a l.length c,.int .i64 cp,.int .i64 fi,.bool en] 44)).alloc (.cells #[.bool false] 4)).alloc (.cells #[.int .i64 nx] 2)).alloc (.cells #[.slice a l.length c] 42)) w.heap.size [.int .i64 nx,.string bs,.slice a l.length c,.int .i64 cp,.int .i64 fi,.bool en]:=(((Var.new w [.int .i64 nx,.string bs,.slice a l.length c,.int .i64 cp,.int .i64 fi,.bool en]).alloc _).alloc _).alloc _
 have V1:Var 4 ((((w.alloc (.cells #[.int .i64 nx,.string bs,.slice a l.length c,.int .i64 cp,.int .i64 fi,.bool en] 44)).alloc (.cells #[.bool false] 4)).alloc (.cells #[.int .i64 nx] 2)).alloc (.cells #[.slice a l.length c] 42)) (w.heap.size+1) [.bool false]:=by
  have e:=((Var.new (T:=4) (w.alloc (.cells #[.int .i64 nx,.string bs,.slice a l.length c,.int .i64 cp,.int .i64 fi,.bool en] 44)) [.bool false]).alloc (.cells #[.int .i64 nx] 2)).alloc (.cells #[.slice a l.length c] 42)
  rwa [World.size_alloc]at e
 have V2:Var 2 ((((w.alloc (.cells #[.int .i64 nx,.string bs,.slice a l.length c,.int .i64 cp,.int .i64 fi,.bool en] 44)).alloc (.cells #[.bool false] 4)).alloc (.cells #[.int .i64 nx] 2)).alloc (.cells #[.slice a l.length c] 42)) (w.heap.size+1+1) [.int .i64 nx]:=by
  have e:=(Var.new (T:=2) ((w.alloc (.cells #[.int .i64 nx,.string bs,.slice a l.length c,.int .i64 cp,.int .i64 fi,.bool en] 44)).alloc (.cells #[.bool false] 4)) [.int .i64 nx]).alloc (.cells #[.slice a l.length c] 42)
  rwa [World.size_alloc,World.size_alloc]at e
 have V3:Var 42 ((((w.alloc (.cells #[.int .i64 nx,.string bs,.slice a l.length c,.int .i64 cp,.int .i64 fi,.bool en] 44)).alloc (.cells #[.bool false] 4)).alloc (.cells #[.int .i64 nx] 2)).alloc (.cells #[.slice a l.length c] 42)) (w.heap.size+1+1+1) [.slice a l.length c]:=by
  have e:=Var.new (T:=42) (((w.alloc (.cells #[.int .i64 nx,.string bs,.slice a l.length c,.int .i64 cp,.int .i64 fi,.bool en] 44)).alloc (.cells #[.bool false] 4)).alloc (.cells #[.int .i64 nx] 2)) [.slice a l.length c]
  rwa [World.size_alloc,World.size_alloc,World.size_alloc]at e
 have S4:((((w.alloc (.cells #[.int .i64 nx,.string bs,.slice a l.length c,.int .i64 cp,.int .i64 fi,.bool en] 44)).alloc (.cells #[.bool false] 4)).alloc (.cells #[.int .i64 nx] 2)).alloc (.cells #[.slice a l.length c] 42)).heap.size=w.heap.size+4:=by simp
 have L4:=h.later B4
 obtain⟨W4,hW4⟩: ∃W4,((((w.alloc (.cells #[.int .i64 nx,.string bs,.slice a l.length c,.int .i64 cp,.int .i64 fi,.bool en] 44)).alloc (.cells #[.bool false] 4)).alloc (.cells #[.int .i64 nx] 2)).alloc (.cells #[.slice a l.length c] 42))=W4:=⟨_,rfl⟩
 rw [hW4]at B4 V0 V1 V2 V3 S4 L4
 have HN:Hid (0≤nx∧nx≤1152921504606846976):=hnx
 have HC:Hid (0≤cp∧cp≤1152921504606846976):=hc
 have HLT:Hid (l≠ []→ ∀x,a=some x→x.block<w.heap.size):=lies_lt h
 have HW4:Hid _:=hW4
 clear hnx hc h hW4
 refine callsIn_wide.1 (callsIn_of_wp_marks (F:=Fence.wide) (n:=0) Tryz.func111 rfl trivial ?_ rfl)
 simp only [Tryz.ntmps111,List.size_toArray,List.length_cons,List.length_nil,Nat.reduceAdd,Nat.reduceSub,Array.replicate_succ,Array.replicate_zero,List.push_toArray,List.append_toArray,List.nil_append,List.cons_append]
 gi_wp2_with (refine⟨trivial,rfl,?_⟩;gi_at_call 118;refine(callsIn_wide.2 (partsFrom _ _ _ _ _)).mono ?_;rintro e w' ⟨rfl,rfl⟩)
 rw [HW4.out]
 clear HW4
 refine wp_range (gf:=123) (lb:= #[.pointer (some ⟨w.heap.size+1+1,0,none⟩),.pointer (some ⟨w.heap.size+1+1+1,0,none⟩)]) (xs:=pairs nx l) (encs:=encQ) (mb:=fun k o=>k=w.heap.size+1∧o.isCells=true) rfl (enters_of Tryz.func123 (by kernel_rfl) rfl)
  (partsFrom1 nx a c l _ _ _ W4 V2 V3 L4 hl hp (fun hne x hx o hm=>by have:=HLT.out hne x hx;rcases hm with⟨hm,_⟩|⟨hm,_⟩ <;>omega) (fun k v0 v1 hk hm=>by rcases hm with⟨hm,_⟩|⟨_,hm⟩;omega;cases hm))
  (fun o ho=>⟨fun hm=>(by rw [hm.2]at ho;cases ho),fun hm=>(by rw [hm.2]at ho;cases ho)⟩) (fun _=>rfl)
  (fun i W=>Var 44 W w.heap.size [.int .i64 nx,.string bs,.slice a l.length c,.int .i64 cp,.int .i64 fi,.bool en]∧Var 4 W (w.heap.size+1) [.bool false]∧Below w.heap.size w W∧((pairs nx l).take i).all (okQ5 nx lim)=true)
  (fun c W=>c=.ret∧Var 4 W (w.heap.size+1) [.bool false]∧Below w.heap.size w W∧(pairs nx l).all (okQ5 nx lim)=false)
  (fun i A B ⟨h1,h2,h3,h4⟩ hs=>⟨std_var hs h1,std_var hs h2,h3.trans (std_below hs (by omega) h3.size),h4⟩)
  (fun c A B ⟨h1,h2,h3,h4⟩ hs=>⟨h1,std_var hs h2,h3.trans (std_below hs (by omega) h3.size),h4⟩)
  ⟨V0,V1,B4,by simp⟩
  (fun x W a' A=>Var 123 A W.heap.size [.int .i64 x.2.1,.string x.2.2]∧a'={tmps:= #[.agg #[.int .i64 nx,.string bs,.slice a l.length c,.int .i64 cp,.int .i64 fi,.bool en],.pointer (some ⟨w.heap.size,0,none⟩),.pointer (some ⟨w.heap.size+1,0,none⟩),.int .i64 x.1,.pointer (some ⟨W.heap.size,0,none⟩),.pointer (some ⟨w.heap.size,0,none⟩),.int .i64 nx,.pointer (some ⟨w.heap.size,2,none⟩),.slice a l.length c,.func (.func 123) #[] #[.pointer (some ⟨w.heap.size+1+1,0,none⟩),.pointer (some ⟨w.heap.size+1+1+1,0,none⟩)],.int .i64 x.1,.agg #[.int .i64 x.2.1,.string x.2.2],undef,undef,undef,undef,undef,undef,undef,undef,undef,undef,undef,undef,undef,undef,undef,undef,undef,undef,undef,undef,undef,undef,undef],defers:=[]})
  (fun x W a' A B ⟨h1,h2⟩ hs=>⟨std_var hs h1,h2⟩) ?assign ?body ?done ?stop
 case assign=>
  rintro i ⟨b,pa,pb⟩ W hx hi hsz
  dsimp only [encQ]
  gi_wp2
  refine⟨⟨Var.new W [.int .i64 pa,.string pb],?_⟩,(Below.refl _ _).alloc (Nat.le_refl _) _⟩
  first|rfl|trivial
 case body=>
  rintro i ⟨b,pa,pb⟩ a' W0 W hx ⟨h1,h2,h3,h4⟩ ⟨hV,rfl⟩ hs1 hs2
  have hm:(pa,pb)∈l:=pairs_mem nx l _ (List.mem_of_getElem? hx)
  have hbd:bdP (pa,pb):=hp _ hm
  have HT:Hid (((pairs nx l).take (i+1)).all (okQ5 nx lim)=(((pairs nx l).take i).all (okQ5 nx lim)&&okQ5 nx lim (b,pa,pb))):=by
   show _=_
   rw [List.take_add_one,hx]
   simp
  have HA:Hid (okQ5 nx lim (b,pa,pb)=false→(pairs nx l).all (okQ5 nx lim)=false):=fun h=>by
   rw [List.all_eq_false]
   exact⟨_,List.mem_of_getElem? hx,by rw [h];simp⟩
  have d0:=Draw.Later.cell (h1.cell (i:=0) rfl)
  have d1:=Draw.Later.cell (h1.cell (i:=1) rfl)
  have d2:=Draw.Later.cell (h1.cell (i:=2) rfl)
  have d3:=Draw.Later.cell (h1.cell (i:=3) rfl)
  have d4:=Draw.Later.cell (h1.cell (i:=4) rfl)
  have d5:=Draw.Later.cell (h1.cell (i:=5) rfl)
  have f0:=Draw.Later.cell (hV.cell (i:=0) rfl)
  have f1:=Draw.Later.cell (hV.cell (i:=1) rfl)
  obtain⟨e,he⟩: ∃e,endP (pa,pb)=e:=⟨_,rfl⟩
  have HE:Hid _:=he
  have HLIM:Hid _:=hlim
  have HP:Hid _:=hp
  obtain⟨pv,hpv⟩: ∃pv,partB (pa,pb)=pv:=⟨_,rfl⟩
  have HPB:Hid _:=hpv
  have ho:Hid (okQ5 nx lim (b,pa,pb)=(pv&&(!decide (pa=nx)&&(!decide (pa<b)&& !decide (lim<e))))):=by show _=_;simp only [okQ5,hpv,he]
  clear he hlim hp hpv hm hx hV V0 V1 V2 V3 L4 B4
  cases pv
  ·have HO:Hid (okQ5 nx lim (b,pa,pb)=false):=by show _=_;rw [ho.out];rfl
   gi_wp2_with fail
   refine region_round_later hmix (by kernel_rfl) (by kernel_rfl) (fun⟨_,_,h⟩=>h) ?_
   repeat (go_big_quiet_step (first|(go_at_call 119;exact Draw.later_of (isPartEq _ hbd HPB.out))|(go_at_call 120;exact Draw.later_of (behindEq _ hbd HE.out))|(go_at_call 121;exact Draw.later_of (limitOfI _ _ _ _ _ _ _ _ _ HN.out hb HC.out HLIM.out))))
   refine wpQuiet_nil ?_
   intro wq hw'
   obtain⟨q,hq⟩:=hw'
   have hBq:=q.h
   rw [←hq]at hBq
   clear hq q
   have vq:=(h2.later hBq).cell (i:=0) rfl
   have vf:=(h2.later hBq).free 0
   gi_wp2
   exact⟨(Chg.later hBq).trans (Chg.kept ((Draw.Kept.refl (w.heap.size+1) wq).setCell (p:=⟨w.heap.size+1,0,none⟩) (.inl rfl) (.bool false)) (fun o ho=>⟨rfl,by rw [show wq.heap[w.heap.size+1]? =_ from h2.later hBq]at ho;cases ho;rfl⟩)),rfl,(h2.later hBq).set 0 _,(h3.trans (hBq.mono h3.size)).setCell (by simp) _,HA.out HO.out⟩
  by_cases g1:pa=nx
  ·have HO:Hid (okQ5 nx lim (b,pa,pb)=false):=by show _=_;rw [ho.out];simp [g1]
   have g1':(pa==nx)=true:=by simp [g1]
   clear g1
   gi_wp2_with fail
   refine region_round_later hmix (by kernel_rfl) (by kernel_rfl) (fun⟨_,_,h⟩=>h) ?_
   repeat (go_big_quiet_step (first|(go_at_call 119;exact Draw.later_of (isPartEq _ hbd HPB.out))|(go_at_call 120;exact Draw.later_of (behindEq _ hbd HE.out))|(go_at_call 121;exact Draw.later_of (limitOfI _ _ _ _ _ _ _ _ _ HN.out hb HC.out HLIM.out))))
   refine wpQuiet_nil ?_
   intro wq hw'
   obtain⟨q,hq⟩:=hw'
   have hBq:=q.h
   rw [←hq]at hBq
   clear hq q
   have vq:=(h2.later hBq).cell (i:=0) rfl
   have vf:=(h2.later hBq).free 0
   gi_wp2
   exact⟨(Chg.later hBq).trans (Chg.kept ((Draw.Kept.refl (w.heap.size+1) wq).setCell (p:=⟨w.heap.size+1,0,none⟩) (.inl rfl) (.bool false)) (fun o ho=>⟨rfl,by rw [show wq.heap[w.heap.size+1]? =_ from h2.later hBq]at ho;cases ho;rfl⟩)),rfl,(h2.later hBq).set 0 _,(h3.trans (hBq.mono h3.size)).setCell (by simp) _,HA.out HO.out⟩
  have g1':(pa==nx)=false:=by simp [g1]
  by_cases g2:pa<b
  ·have HO:Hid (okQ5 nx lim (b,pa,pb)=false):=by show _=_;rw [ho.out];simp [g2]
   have g2':decide (pa<b)=true:=decide_eq_true g2
   clear g1
   gi_wp2_with fail
   refine region_round_later hmix (by kernel_rfl) (by kernel_rfl) (fun⟨_,_,h⟩=>h) ?_
   repeat (go_big_quiet_step (first|(go_at_call 119;exact Draw.later_of (isPartEq _ hbd HPB.out))|(go_at_call 120;exact Draw.later_of (behindEq _ hbd HE.out))|(go_at_call 121;exact Draw.later_of (limitOfI _ _ _ _ _ _ _ _ _ HN.out hb HC.out HLIM.out))))
   refine wpQuiet_nil ?_
   intro wq hw'
   obtain⟨q,hq⟩:=hw'
   have hBq:=q.h
   rw [←hq]at hBq
   clear hq q
   have vq:=(h2.later hBq).cell (i:=0) rfl
   have vf:=(h2.later hBq).free 0
   gi_wp2
   exact⟨(Chg.later hBq).trans (Chg.kept ((Draw.Kept.refl (w.heap.size+1) wq).setCell (p:=⟨w.heap.size+1,0,none⟩) (.inl rfl) (.bool false)) (fun o ho=>⟨rfl,by rw [show wq.heap[w.heap.size+1]? =_ from h2.later hBq]at ho;cases ho;rfl⟩)),rfl,(h2.later hBq).set 0 _,(h3.trans (hBq.mono h3.size)).setCell (by simp) _,HA.out HO.out⟩
  have g2':decide (pa<b)=false:=decide_eq_false g2
  by_cases g3:lim<e
  ·have HO:Hid (okQ5 nx lim (b,pa,pb)=false):=by show _=_;rw [ho.out];simp [g3]
   have g3':decide (lim<e)=true:=decide_eq_true g3
   clear g1
   gi_wp2_with fail
   refine region_round_later hmix (by kernel_rfl) (by kernel_rfl) (fun⟨_,_,h⟩=>h) ?_
   repeat (go_big_quiet_step (first|(go_at_call 119;exact Draw.later_of (isPartEq _ hbd HPB.out))|(go_at_call 120;exact Draw.later_of (behindEq _ hbd HE.out))|(go_at_call 121;exact Draw.later_of (limitOfI _ _ _ _ _ _ _ _ _ HN.out hb HC.out HLIM.out))))
   refine wpQuiet_nil ?_
   intro wq hw'
   obtain⟨q,hq⟩:=hw'
   have hBq:=q.h
   rw [←hq]at hBq
   clear hq q
   have vq:=(h2.later hBq).cell (i:=0) rfl
   have vf:=(h2.later hBq).free 0
   gi_wp2
   exact⟨(Chg.later hBq).trans (Chg.kept ((Draw.Kept.refl (w.heap.size+1) wq).setCell (p:=⟨w.heap.size+1,0,none⟩) (.inl rfl) (.bool false)) (fun o ho=>⟨rfl,by rw [show wq.heap[w.heap.size+1]? =_ from h2.later hBq]at ho;cases ho;rfl⟩)),rfl,(h2.later hBq).set 0 _,(h3.trans (hBq.mono h3.size)).setCell (by simp) _,HA.out HO.out⟩
  ·have HO:Hid (okQ5 nx lim (b,pa,pb)=true):=by show _=_;rw [ho.out];simp [g1];omega
   have g3':decide (lim<e)=false:=decide_eq_false g3
   clear g1
   gi_wp2_with fail
   refine region_round_later hmix (by kernel_rfl) (by kernel_rfl) (fun⟨_,_,h⟩=>h) ?_
   repeat (go_big_quiet_step (first|(go_at_call 119;exact Draw.later_of (isPartEq _ hbd HPB.out))|(go_at_call 120;exact Draw.later_of (behindEq _ hbd HE.out))|(go_at_call 121;exact Draw.later_of (limitOfI _ _ _ _ _ _ _ _ _ HN.out hb HC.out HLIM.out))))
   refine wpQuiet_nil ?_
   intro wq hw'
   obtain⟨q,hq⟩:=hw'
   have hBq:=q.h
   rw [←hq]at hBq
   clear hq q
   have vq:=(h2.later hBq).cell (i:=0) rfl
   have vf:=(h2.later hBq).free 0
   gi_wp2
   exact⟨Chg.later hBq,h1.later hBq,h2.later hBq,h3.trans (hBq.mono h3.size),by rw [HT.out,HO.out,h4];rfl⟩
 case done=>
  rintro W ⟨h1,h2,h3,h4⟩ hK
  have vq:=h2.cell (i:=0) rfl
  have vf:=h2.free 0
  gi_wp2
  have hv:=var_put (o:=.deferred none) (h2.set 0 (.bool true)) (D:=W4.heap.size) (by omega)
  have c0:=hv.cell (i:=0) rfl
  rw [S4]at c0
  refine ret_marks (.bool true) (heap_cell hK (by simp;omega)) (by rw [res_cell rfl];go_simp) ⟨?_,below_put (h3.setCell (by simp) _) (by omega)⟩
  rw [List.take_of_length_le (by simp)]at h4
  rw [h4]
 case stop=>
  rintro c W ⟨rfl,h2,h3,h4⟩ hK
  gi_wp2
  have hv:=var_put (o:=.deferred none) h2 (D:=W4.heap.size) (by omega)
  have c0:=hv.cell (i:=0) rfl
  rw [S4]at c0
  exact ret_marks (.bool false) hK (by rw [res_cell rfl];go_simp) ⟨by rw [h4],below_put h3 (by omega)⟩
end Go.Proofs.YtfejobjgbadfjaaGreat.Tak
