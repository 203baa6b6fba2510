/- Contracts of this seat's functions, and their mathematics (RoaA RoaB Rng). -/
import Derived.Test.YtfejobjgbadfjaaGreatK1
import Derived.Test.YtfejobjgbadfjaaGreatK13
import Derived.Test.YtfejobjgbadfjaaGreatK4
import Derived.RangeFuncNested
import Derived.RangeFuncBound
import Derived.RangeFuncCalls
import Derived.RangeFuncLeaves
import Derived.OrdersIn
import Derived.Deep.Quiet
set_option linter.unusedVariables false
set_option linter.unusedSimpArgs false
set_option maxHeartbeats 2000000
namespace Go.Proofs.YtfejobjgbadfjaaGreat.Roa
open Go.RowKit RowG
structure Rd where
 op:Bool
 co:Int
 se:Int
 lo:Int
abbrev Rd.v (r:Rd):Value:=.agg #[.bool r.op,.int .i64 r.co,.int .i64 r.se,.int .i64 r.lo]
instance:DecidableEq Rd:=fun a b=>decidable_of_iff (a.op=b.op∧a.co=b.co∧a.se=b.se∧a.lo=b.lo) ⟨fun h=>by cases a;cases b;simp_all,fun h=>by subst h;exact⟨rfl,rfl,rfl,rfl⟩⟩
def zr:Rd:=⟨false,0,0,0⟩
def E:El Rd where
 enc r:=[.bool r.op,.int .i64 r.co,.int .i64 r.se,.int .i64 r.lo]
 size:=4
 len _:=rfl
 one x u hu:=by simp at hu;rcases hu with rfl|rfl|rfl|rfl <;>rfl
 pos:=by decide
def at' (l:List Rd)(k:Nat):Rd:=l.getD k zr
theorem at_some {l:List Rd}{k:Nat}(h:k<l.length):l[k]? =some (at' l k):=by
 unfold at'
 rw [List.getD_eq_getElem?_getD,List.getElem?_eq_getElem h]
 rfl
def rdB (r:Rd):Bool:=Num.plB r.co&&(Num.plB r.se&&decide (0≤r.lo∧r.lo≤r.se))
def roadsB (l:List Rd):Bool:=l.all rdB&&decide (1≤l.length∧l.length≤4)
theorem mix:Tryz.prog.follows .mixedOrders=true:=by kernel_rfl
theorem cells4 {w:World}{b off:Nat}{l:List Rd}(h: ∀j u,(E.vals l)[j]? =some u→w.cell? ⟨b,off+j,none⟩=some u){k:Nat}(hk:k<l.length):
  w.cell? ⟨b,off+k*4,none⟩=some (.bool (at' l k).op)∧w.cell? ⟨b,off+k*4+1,none⟩=some (.int .i64 (at' l k).co)∧w.cell? ⟨b,off+k*4+2,none⟩=some (.int .i64 (at' l k).se)∧w.cell? ⟨b,off+k*4+3,none⟩=some (.int .i64 (at' l k).lo):=by
 have hx:=at_some hk
 have q:=fun j u=>El.Lies.cell (E:=E) h hx (j:=j) (u:=u)
 refine⟨?_,?_,?_,?_⟩
 ·have:=q 0 _ rfl;simpa [E]using this
 ·have:=q 1 _ rfl;rw [Nat.add_assoc];exact this
 ·have:=q 2 _ rfl;rw [Nat.add_assoc];exact this
 ·have:=q 3 _ rfl;rw [Nat.add_assoc];exact this
theorem infoRoad:(Tryz.prog.info? 95).map (fun i=>(i.zero,i.size,i.bytes))=some (some (.agg #[.bool false,.int .i64 0,.int .i64 0,.int .i64 0]),4,32):=by kernel_rfl
theorem ty:Typ Tryz.prog 25 95 E 32:=⟨Tryz.underlying25,by
 obtain⟨i,hi,h0,h1,h2⟩:=info_parts infoRoad
 exact⟨i,_,hi,h0,h1,h2,rfl⟩⟩
def Own (w:World)(B g c:Nat)(l:List Rd):Prop:=E.Own 95 w B (some ⟨g,0,none⟩) c l
theorem own_empty (w:World):E.Own 95 (w.alloc (.cells #[] 95)) w.heap.size (some ⟨w.heap.size,0,none⟩) 0 []:=El.Own.made w
theorem rd_false {l:List Rd}{k:Nat}(hk:k<l.length)(h:rdB (at' l k)=false):roadsB l=false:=by
 have:l.all rdB=false:=by
  rw [List.all_eq_false]
  exact⟨at' l k,List.mem_of_getElem? (at_some hk),by simp [h]⟩
 simp only [roadsB,this,Bool.false_and]
theorem rd_all {l:List Rd}(h: ∀j,j<l.length→rdB (at' l j)=true):roadsB l=decide (1≤(l.length:Int)∧(l.length:Int)≤4):=by
 have:l.all rdB=true:=by
  rw [List.all_eq_true]
  intro x hx
  obtain⟨i,hi,rfl⟩:=List.getElem_of_mem hx
  have:=h i hi
  rwa [show at' l i=l[i] by unfold at';rw [List.getD_eq_getElem?_getD,List.getElem?_eq_getElem hi];rfl]at this
 simp only [roadsB,this,Bool.true_and]
 congr 1
 apply propext
 omega
theorem l1PlaceEq {n:Int}{v:Bool}(h:Num.plB n=v)(w:World):Calls Tryz.prog 56 #[.int .i64 n] w fun x w'=>x=.returned (.bool v)∧w=w':=by
 subst h
 exact Num.l1Place n w
theorem specRoadsOk (a:Option Addr)(n cap:Nat)(l:List Rd)(w:World)(hn:n=l.length)(h:E.Lies w a l)(hl:l.length≤2097152):
  Calls Tryz.prog 34 #[.slice a n cap] w fun x w'=>x=.returned (.bool (roadsB l))∧Below w.heap.size w w':=by
 subst hn
 have hmix:=mix
 go_enter Tryz.func34,Tryz.ntmps34
 go_wp2_with fail
 go_loopw [3] (fun iv wr=> ∃k:Nat,k≤l.length∧iv=.int .i64 k∧Hid (∀j,j<k→rdB (at' l j)=true)∧Below w.heap.size w wr) (fun iv _=>l.length-(intOf iv).toNat)
 case atStart=>exact⟨0,Nat.zero_le _,rfl,fun j hj=>by omega,Below.refl _ _⟩
 case round=>
  obtain⟨k,hk,rfl,hgood,hB⟩:=hrel
  by_cases hlt:k<l.length
  ·rcases h.later hB with hs|⟨b,off,rfl,hs⟩
   ·simp [hs]at hlt
   ·obtain⟨c0,c1,c2,c3⟩:=cells4 hs hlt
    clear hs
    have i0:(0:Int)≤(k:Int):=by omega
    have i1:(k:Int)<(l.length:Int):=by omega
    have HB:rdB (at' l k)=false→roadsB l=false:=rd_false hlt
    obtain⟨s,HS⟩: ∃s,Hid (at' l k=s):=⟨_,rfl⟩
    rw [HS.out]at c0 c1 c2 c3 HB
    replace HB:Hid _:=HB
    obtain⟨o,co,se,lo⟩:=s
    simp only at c0 c1 c2 c3
    have d1:=Draw.Later.cell c1
    have d2:=Draw.Later.cell c2
    have d3:=Draw.Later.cell c3
    clear c0 c1 c2 c3
    cases h1:Num.plB co
    ·go_wp2_with fail
     refine Draw.wp_region_later hmix (by kernel_rfl) ?_
     repeat (go_big_quiet_step (first|(go_at_call 56;exact Draw.later_same (l1PlaceEq h1 _))))
     refine wpQuiet_nil ?_
     intro _ hw'
     obtain⟨⟨wq,hBq⟩,hw''⟩:=hw'
     subst hw''
     go_wp2_with fail
     go_ret
     exact⟨by rw [HB.out (by simp [rdB,h1])];rfl,hB.trans (hBq.mono hB.size)⟩
    cases h2:Num.plB se
    ·go_wp2_with fail
     refine Draw.wp_region_later hmix (by kernel_rfl) ?_
     repeat (go_big_quiet_step (first|(go_at_call 56;first|with_reducible exact Draw.later_same (l1PlaceEq h1 _)|with_reducible exact Draw.later_same (l1PlaceEq h2 _))))
     refine wpQuiet_nil ?_
     intro _ hw'
     obtain⟨⟨wq,hBq⟩,hw''⟩:=hw'
     subst hw''
     go_wp2_with fail
     go_ret
     exact⟨by rw [HB.out (by simp [rdB,h2])];rfl,hB.trans (hBq.mono hB.size)⟩
    cases h3:decide (0≤lo∧lo≤se)
    ·go_wp2_with fail
     refine Draw.wp_region_later hmix (by kernel_rfl) ?_
     repeat (go_big_quiet_step (first|(go_at_call 57;with_reducible exact Draw.later_same (Tak.l1InEq h3 _))|(go_at_call 56;first|with_reducible exact Draw.later_same (l1PlaceEq h1 _)|with_reducible exact Draw.later_same (l1PlaceEq h2 _))))
     refine wpQuiet_nil ?_
     intro _ hw'
     obtain⟨⟨wq,hBq⟩,hw''⟩:=hw'
     subst hw''
     go_wp2_with fail
     go_ret
     exact⟨by rw [HB.out (by simp only [rdB,h3,Bool.and_false])];rfl,hB.trans (hBq.mono hB.size)⟩
    have HY:Hid (rdB ⟨o,co,se,lo⟩=true):=by show _=_;simp only [rdB,h1,h2,h3,Bool.and_true]
    go_wp2_with fail
    refine Draw.wp_region_later hmix (by kernel_rfl) ?_
    repeat (go_big_quiet_step (first|(go_at_call 57;with_reducible exact Draw.later_same (Tak.l1InEq h3 _))|(go_at_call 56;first|with_reducible exact Draw.later_same (l1PlaceEq h1 _)|with_reducible exact Draw.later_same (l1PlaceEq h2 _))))
    refine wpQuiet_nil ?_
    intro _ hw'
    obtain⟨⟨wq,hBq⟩,hw''⟩:=hw'
    subst hw''
    go_wp2_with fail
    go_roundw
    case rel=>exact⟨k+1,by omega,by go_num,fun j hj=>by
     by_cases e:j=k
     ·rw [e,HS.out];exact HY.out
     ·exact hgood.out j (by omega),hB.trans (hBq.mono hB.size)⟩
    case measure=>simp [intOf];omega
  ·have i1: ¬(k:Int)<(l.length:Int):=by omega
   have HF:Hid (decide (1≤(l.length:Int)∧(l.length:Int)≤4)=roadsB l):=(rd_all fun j hj=>hgood.out j (by omega)).symm
   go_wp2_with fail
   refine(Tak.l1InEq HF.out _).mono ?_
   rintro x w3 ⟨rfl,rfl⟩
   go_wp2_with fail
   go_ret
   exact⟨rfl,hB⟩
end Go.Proofs.YtfejobjgbadfjaaGreat.Roa
namespace Go.Proofs.YtfejobjgbadfjaaGreat.Roa
open Go.RowKit RowG
def hasB (l:List Rd)(r:Int):Bool:=decide (0≤r∧r<(l.length:Int))
def turnB (l:List Rd)(r:Int)(o:Bool):Bool:=roadsB l&&(hasB l r&&((at' l r.toNat).op !=o))
def turnL (l:List Rd)(r:Int)(o:Bool):List Rd:=if roadsB l then(if turnB l r o then l.set r.toNat {at' l r.toNat with op:=o}else l)else []
def openN:Nat→List Rd→List Int
 | _,[]=>[]
 | k,x::l=>if x.op then(k:Int)::openN (k+1) l else openN (k+1) l
def openL (l:List Rd):List Int:=if roadsB l then openN 0 l else []
theorem openN_append: ∀(l l':List Rd) (k:Nat),openN k (l++l')=openN k l++openN (k+l.length) l'
 | [],l',k=>by simp [openN]
 | x::l,l',k=>by
  have:=openN_append l l' (k+1)
  simp only [List.cons_append,openN,List.length_cons]
  rw [this,show k+1+l.length=k+(l.length+1) by omega]
  split <;>simp
theorem take_at {l:List Rd}{k:Nat}(h:k<l.length):l.take (k+1)=l.take k++[at' l k]:=by
 rw [List.take_add_one,at_some h]
 rfl
theorem openN_step {l:List Rd}{k:Nat}(h:k<l.length):openN 0 (l.take (k+1))=openN 0 (l.take k)++(if (at' l k).op then [(k:Int)]else []):=by
 rw [take_at h,openN_append,List.length_take,Nat.min_eq_left (by omega)]
 simp [openN]
theorem openN_len: ∀(l:List Rd) (k:Nat),(openN k l).length≤l.length
 | [],k=>by simp [openN]
 | x::l,k=>by
  have:=openN_len l (k+1)
  simp only [openN,List.length_cons]
  split
  ·simp only [List.length_cons];omega
  ·omega
def EI:El Int where
 enc n:=[.int .i64 n]
 size:=1
 len _:=rfl
 one x u hu:=by simp at hu;rw [hu];rfl
 pos:=by decide
theorem infoInt:(Tryz.prog.info? 2).map (fun i=>(i.zero,i.size,i.bytes))=some (some (.int .i64 0),1,8):=by kernel_rfl
theorem tyI:Typ Tryz.prog 56 2 EI 8:=⟨Tryz.underlying56,by
 obtain⟨i,hi,h0,h1,h2⟩:=info_parts infoInt
 exact⟨i,_,hi,h0,h1,h2,rfl⟩⟩
def OwnI (w:World)(B g c:Nat)(l:List Int):Prop:=EI.Own 2 w B (some ⟨g,0,none⟩) c l
theorem ownI_empty (w:World):EI.Own 2 (w.alloc (.cells #[] 2)) w.heap.size (some ⟨w.heap.size,0,none⟩) 0 []:=El.Own.made w
theorem l10Copy (a:Option Addr)(n cap:Nat)(l:List Rd)(w:World)(hn:n=l.length)(h:E.Lies w a l)(ha:a=none→cap=0)(hl:l.length≤2097152):
  Calls Tryz.prog 70 #[.slice a n cap] w fun x w'=> ∃g c,x=.returned (.slice (some ⟨g,0,none⟩) l.length c)∧Own w' w.heap.size g c l∧Below w.heap.size w w':=by
 subst hn
 have b0:Below w.heap.size w (w.alloc (.cells #[] 95)):=(Below.refl _ _).alloc (Nat.le_refl _) _
 have o0:=own_empty w
 have L0:=h.alloc (.cells #[] 95)
 have n0:w.heap.size≤(w.alloc (.cells #[] 95)).heap.size:=b0.size
 go_enter Tryz.func70,Tryz.ntmps70
 go_wp2_with (at_builtin;refine wpList_appS ty (by decide) (by rfl) _ _ (by rfl) w.heap.size w.heap.size 0 0 [] l rfl (by rfl) o0 n0 a _ cap rfl (by rfl) L0 ha (by simp only [List.length_nil];omega) ?_;intro g1 c1 w3 o3 gr3)
 have b3:Below w.heap.size w w3:=grown_below b0 (Nat.le_refl _) (fun j hj=>by cases hj;exact Nat.le_refl _) gr3
 go_ret
 exact⟨g1,c1,rfl,o3,b3⟩
theorem l10Has (a:Option Addr)(n cap:Nat)(r:Int)(v:Bool)(w:World)(hv:decide (0≤r∧r<(n:Int))=v):
  Calls Tryz.prog 95 #[.slice a n cap,.int .i64 r] w fun x w'=>x=.returned (.bool v)∧w=w':=by
 subst hv
 by_cases h0:0≤r
 ·by_cases h1:r<(n:Int)
  all_goals
   go_enter Tryz.func95,Tryz.ntmps95
   go_wp2_with fail
   go_ret
   exact⟨Num.ret_bool (by simp [h0,h1]),rfl⟩
 ·go_enter Tryz.func95,Tryz.ntmps95
  go_wp2_with fail
  go_ret
  exact⟨Num.ret_bool (by rw [decide_eq_false (show ¬(0:Int)≤r by omega)];rfl),rfl⟩
theorem specTurn (a:Option Addr)(n cap:Nat)(l:List Rd)(r:Int)(o:Bool)(w:World)(hn:n=l.length)(h:E.Lies w a l)(ha:a=none→cap=0)(hl:l.length≤2097152):
  Calls Tryz.prog 68 #[.slice a n cap,.int .i64 r,.bool o] w fun x w'=> ∃g c,x=.returned (.tuple #[.slice (some ⟨g,0,none⟩) (turnL l r o).length c,.bool (turnB l r o)])∧Own w' w.heap.size g c (turnL l r o)∧Below w.heap.size w w':=by
 subst hn
 go_enter Tryz.func68,Tryz.ntmps68
 go_wp2_with fail
 refine(specRoadsOk _ _ _ l _ rfl h hl).mono ?_
 rintro x w1 ⟨rfl,b1⟩
 cases hok:roadsB l
 ·have e1:turnL l r o=[]:=by simp [turnL,hok]
  have e2:turnB l r o=false:=by simp [turnB,hok]
  have o1:=(own_empty w1).mono b1.size
  have b2:=b1.alloc b1.size (.cells #[] 95)
  go_wp2_with fail
  go_ret2
  exact⟨_,0,by rw [e1,e2];rfl,by rw [e1];exact o1,b2⟩
 have h1:=h.later b1
 go_wp2_with fail
 refine(l10Copy _ _ _ l _ rfl h1 ha hl).mono ?_
 rintro x w2 ⟨g,c,rfl,o2,b2⟩
 have h2:=h1.later b2
 have O2:Own w2 w.heap.size g c l:=El.Own.mono (E:=E) o2 b1.size
 have B2:=b1.trans (b2.mono b1.size)
 clear h1 o2 b2 b1 h
 by_cases hr:0≤r∧r<(l.length:Int)
 ·obtain⟨k,rfl⟩: ∃k:Nat,r=(k:Int):=⟨r.toNat,by omega⟩
  have hlt:k<l.length:=by omega
  have i0:(0:Int)≤(k:Int):=by omega
  have i1:(k:Int)<(l.length:Int):=by omega
  rcases h2 with hs|⟨b,off,rfl,hs⟩
  ·simp [hs]at hlt
  obtain⟨c0,c1,c2,c3⟩:=cells4 hs hlt
  have f0:=El.Own.frozen (E:=E) O2 (k*4+0)
  have hb:=El.Own.lies (E:=E) O2
  rcases hb with hs'|⟨b',off',he,hs'⟩
  ·simp [hs']at hlt
  cases he
  obtain⟨d0,_,_,_⟩:=cells4 hs' hlt
  rw [Nat.zero_add]at d0
  rw [Nat.add_zero]at f0
  clear hs hs' c1 c2 c3
  cases hop:((at' l k).op==o)
  ·have e2:turnB l (k:Int) o=true:=by
    simp only [turnB,hok,hasB,Int.toNat_natCast,Bool.true_and,bne,hop,decide_eq_true (And.intro i0 i1)]
    rfl
   have e1:turnL l (k:Int) o=l.set k {at' l k with op:=o}:=by simp [turnL,hok,e2]
   have O3:Own (w2.setCell ⟨g,k*4+0,none⟩ (.bool o)) w.heap.size g c (l.set k {at' l k with op:=o}):=El.Own.put (E:=E) O2 (at_some hlt) (j:=0) (u:=.bool o) (by decide) rfl
   rw [Nat.add_zero]at O3
   have HO:Hid (Own _ _ _ _ _):=O3
   have hne:((at' l k).op==o)=false:=hop
   have HR:Hid (turnL l (k:Int) o=_):=e1
   have HL:Hid ((turnL l (k:Int) o).length=l.length):=by show _=_;rw [e1,List.length_set]
   clear O3 e1 hop
   generalize (at' l k).op=oo at *
   go_wp2_with fail
   refine(l10Has _ _ _ _ true _ (by simp [i0,i1])).mono ?_
   rintro x w3 ⟨rfl,rfl⟩
   go_wp2_with fail
   go_ret2
   exact⟨g,c,by rw [HL.out,e2];rfl,by rw [HR.out];exact HO.out,Draw.Kept.below ((Draw.Kept.refl g w2).setCell (.inl rfl) _) (El.Own.lt (E:=E) O2 _ rfl).1 B2.size |> B2.trans⟩
  ·have e2:turnB l (k:Int) o=false:=by
    simp only [turnB,hok,hasB,Int.toNat_natCast,Bool.true_and,bne,hop,decide_eq_true (And.intro i0 i1)]
    rfl
   have e1:turnL l (k:Int) o=l:=by simp [turnL,hok,e2]
   have hne:((at' l k).op==o)=true:=hop
   clear hop
   generalize (at' l k).op=oo at *
   go_wp2_with fail
   refine(l10Has _ _ _ _ true _ (by simp [i0,i1])).mono ?_
   rintro x w3 ⟨rfl,rfl⟩
   go_wp2_with fail
   go_ret2
   exact⟨g,c,by rw [e1,e2];rfl,by rw [e1];exact O2,B2⟩
 ·have hv:decide (0≤r∧r<(l.length:Int))=false:=decide_eq_false hr
  have e2:turnB l r o=false:=by simp [turnB,hasB,hv]
  have e1:turnL l r o=l:=by simp [turnL,hok,e2]
  go_wp2_with fail
  refine(l10Has _ _ _ _ false _ hv).mono ?_
  rintro x w3 ⟨rfl,rfl⟩
  go_wp2_with fail
  go_ret2
  exact⟨g,c,by rw [e1,e2];rfl,by rw [e1];exact O2,B2⟩
theorem specOpenOnes (a:Option Addr)(n cap:Nat)(l:List Rd)(w:World)(hn:n=l.length)(h:E.Lies w a l)(hl:l.length≤2097152):
  Calls Tryz.prog 61 #[.slice a n cap] w fun x w'=> ∃g c,x=.returned (.slice (some ⟨g,0,none⟩) (openL l).length c)∧OwnI w' w.heap.size g c (openL l)∧Below w.heap.size w w':=by
 subst hn
 have b0:Below w.heap.size w (w.alloc (.cells #[] 2)):=(Below.refl _ _).alloc (Nat.le_refl _) _
 have o0:=ownI_empty w
 have hL: ∀k,(openN 0 (l.take k)).length≤k:=fun k=>by have:=openN_len (l.take k) 0;rw [List.length_take]at this;omega
 have HL:Hid _:=hL
 clear hL
 go_enter Tryz.func61,Tryz.ntmps61
 go_wp2_with fail
 go_loopw [3,4] (fun v iv wr=> ∃(k g c:Nat) (out:List Int),k≤l.length∧iv=.int .i64 k∧v=.slice (some ⟨g,0,none⟩) out.length c∧Hid (out=openN 0 (l.take k))∧Hid (0<k→roadsB l=true)∧EI.Own 2 wr w.heap.size (some ⟨g,0,none⟩) c out∧Below w.heap.size w wr) (fun _ iv _=>l.length-(intOf iv).toNat)
 case atStart=>exact⟨0,_,0,[],Nat.zero_le _,rfl,rfl,by show _=_;simp [openN],fun q=>absurd q (by omega),o0,b0⟩
 case round=>
  clear o0 b0
  obtain⟨k,g,c,out,hk,rfl,rfl,hout,hyes,o1,b1⟩:=hrel
  by_cases hlt:k<l.length
  ·have i0:(0:Int)≤(k:Int):=by omega
   have i1:(k:Int)<(l.length:Int):=by omega
   have h1:=h.later b1
   go_wp2_with fail
   refine(specRoadsOk _ _ _ l _ rfl h1 hl).mono ?_
   rintro x w2 ⟨rfl,b2⟩
   have h2:=h1.later b2
   have o2:=o1.later b2
   have B2:=b1.trans (b2.mono b1.size)
   clear h1 o1 b2 b1
   cases hok:roadsB l
   ·have hk0:k=0:=by
     rcases Nat.eq_zero_or_pos k with e|e
     ·exact e
     ·have:=hyes.out e;rw [hok]at this;cases this
    subst hk0
    have hout0:out=[]:=by rw [hout.out];simp [openN]
    subst hout0
    have e1:openL l=[]:=by simp [openL,hok]
    go_wp2_with fail
    go_ret
    exact⟨g,c,by rw [e1];rfl,by rw [e1];exact o2,B2⟩
   ·rcases h2 with hs|⟨b,off,rfl,hs⟩
    ·simp [hs]at hlt
    obtain⟨c0,_,_,_⟩:=cells4 hs hlt
    have hst:=openN_step hlt
    have HS:Hid _:=hst
    have hol:out.length≤k:=by rw [hout.out];exact HL.out k
    clear hs hst
    have HOK:Hid (roadsB l=true):=hok
    clear hok
    cases hop:(at' l k).op
    ·rw [hop]at c0
     have HF:Hid (out=openN 0 (l.take (k+1))):=by show _=_;rw [HS.out,hop,hout.out];simp
     clear HS hout
     go_wp2_with fail
     go_roundw
     case rel=>exact⟨k+1,g,c,out,by omega,by go_num,rfl,HF,fun _=>HOK.out,o2,B2⟩
     case measure=>simp [intOf];omega
    ·rw [hop]at c0
     have HF:Hid (out++[(k:Int)]=openN 0 (l.take (k+1))):=by show _=_;rw [HS.out,hop,hout.out];simp
     clear HS hout
     have n2:w.heap.size≤(w2.alloc (.cells #[.int .i64 (k:Int)] 2)).heap.size:=by have:=B2.size;simp;omega
     have q2:=o2.alloc (.cells #[.int .i64 (k:Int)] 2)
     have L2:EI.Lies (w2.alloc (.cells #[.int .i64 (k:Int)] 2)) (some ⟨w2.heap.size,0,none⟩) [(k:Int)]:=El.lies_new rfl
     go_wp2_with (at_builtin;refine wpList_appS tyI (by decide) (by rfl) _ _ (by rfl) w.heap.size g c _ out [(k:Int)] rfl (by rfl) q2 n2 (some ⟨w2.heap.size,0,none⟩) 1 1 rfl (by rfl) L2 (fun e=>by cases e) (by simp only [List.length_cons,List.length_nil];omega) ?_;intro g1 c1 w3 q3 gr3)
     have b3:Below w.heap.size w w3:=grown_below (B2.alloc B2.size _) (Nat.le_refl _) (fun j hj=>by cases hj;exact(o2.lt _ rfl).1) gr3
     have hlen:(out++[(k:Int)]).length=out.length+1:=by simp
     go_roundw
     case rel=>exact⟨k+1,g1,c1,out++[(k:Int)],by omega,by go_num,by rw [hlen],HF,fun _=>HOK.out,q3,b3⟩
     case measure=>simp [intOf];omega
  ·have hkl:l.take k=l:=List.take_of_length_le (by omega)
   have i1: ¬(k:Int)<(l.length:Int):=by omega
   have HF:Hid (openL l=out):=by
    show _=_
    rw [hout.out,hkl,openL]
    rcases Nat.eq_zero_or_pos k with e|e
    ·have:l=[]:=List.eq_nil_of_length_eq_zero (by omega)
     subst this
     split <;>rfl
    ·rw [if_pos (hyes.out e)]
   clear hout
   go_wp2_with fail
   go_ret
   exact⟨g,c,by rw [HF.out];rfl,by rw [HF.out];exact o1,b1⟩
end Go.Proofs.YtfejobjgbadfjaaGreat.Roa
namespace Go.Proofs.YtfejobjgbadfjaaGreat.Rng
open Go.RowKit Go.Proofs.YtfejobjgbadfjaaGreat.RowG
structure Chg (m:Nat→Obj→Prop)(A B:World):Prop where
 os:B.os=A.os
 tape:B.tape=A.tape
 output:B.output=A.output
 size:A.heap.size≤B.heap.size
 same: ∀k o,A.heap[k]? =some o→ ¬m k o→B.heap[k]? =some o
variable {m m':Nat→Obj→Prop} {A B C:World}
theorem Chg.trans (h:Chg m A B)(g:Chg m B C):Chg m A C:=
 ⟨g.os.trans h.os,g.tape.trans h.tape,g.output.trans h.output,Nat.le_trans h.size g.size,fun k o hk hn=>g.same k o (h.same k o hk hn) hn⟩
theorem Chg.mono (h:Chg m A B)(hm: ∀k o,m k o→m' k o):Chg m' A B:=
 ⟨h.os,h.tape,h.output,h.size,fun k o hk hn=>h.same k o hk (fun e=>hn (hm k o e))⟩
theorem lt_some {k:Nat}{o:Obj}(h:A.heap[k]? =some o):k<A.heap.size:=(Array.getElem?_eq_some_iff.1 h).1
theorem Chg.later (h:Below A.heap.size A B):Chg m A B:=⟨h.os,h.tape,h.output,h.size,fun k o hk _=>(h.block k (lt_some hk)).trans hk⟩
theorem Chg.kept {c:Nat}(h:Draw.Kept c A B)(hc: ∀o,A.heap[c]? =some o→m c o):Chg m A B:=
 ⟨h.os,h.tape,h.output,h.size,fun k o hk hn=>(h.block k (lt_some hk) (fun e=>hn (by subst e;exact hc o hk))).trans hk⟩
theorem Chg.grown {r:Option Nat}(h:A.grownBy B r)(hc: ∀g o,r=some g→A.heap[g]? =some o→m g o):Chg m A B:=
 ⟨h.os,h.tape,h.output,h.size,fun k o hk hn=>(h.block k (lt_some hk) (fun e=>hn (hc k o e.symm hk))).trans hk⟩
theorem Chg.below {D:Nat}(h:Chg m A B)(hs:D≤A.heap.size)(hm: ∀k o,k<D→ ¬m k o):Below D A B:=
 ⟨h.os,h.tape,h.output,h.size,fun k hk=>by
  have e:A.heap[k]? =some A.heap[k]:=Array.getElem?_eq_getElem (by omega)
  rw [h.same k _ e (hm k _ hk),e]⟩
theorem Chg.put (A:World){l:Nat}{o o':Obj}(h:A.heap[l]? =some o)(hm:m l o):Chg m A (A.putObj l o'):=
 Chg.grown (grownBy_putObj' A l o') (fun g x e hg=>by cases e;rw [h]at hg;cases hg;exact hm)
abbrev Std (b:Nat):World→World→Prop:=Chg (fun k o=>b≤k∧o.isCells=false)
theorem Chg.var {T:TypeId}{k:Nat}{vs:List Value}(h:Chg m A B)(hv:Var T A k vs)(hn: ∀o,o.isCells=true→ ¬m k o):Var T B k vs:=h.same k _ hv (hn _ rfl)
theorem Chg.cell {p:Addr}{v:Value}(h:Chg m A B)(hv:A.cell? p=some v)(hn: ∀o,o.isCells=true→ ¬m p.block o):B.heap[p.block]? =A.heap[p.block]? :=by
 unfold World.cell? at hv
 cases ho:A.heap[p.block]? with
 | none=>simp [ho]at hv
 | some o=>exact h.same _ _ ho (hn o (by cases o <;>simp_all [Obj.isCells]))
theorem Chg.read {p:Addr}{v:Value}(h:Chg m A B)(hv:A.cell? p=some v)(hn: ∀o,o.isCells=true→ ¬m p.block o):B.cell? p=some v:=(World.cell?_of_block (h.cell hv hn)).trans hv
theorem std_no {b k:Nat}: ∀o:Obj,o.isCells=true→ ¬(b≤k∧o.isCells=false):=fun o h e=>by rw [h]at e;cases e.2
theorem std_var {b:Nat}{T:TypeId}{k:Nat}{vs:List Value}(h:Std b A B)(hv:Var T A k vs):Var T B k vs:=h.var hv std_no
def noDefer (o:Oper):Bool:=match o.op with
 | .defer _=>false
 | _=>true
theorem op_round {P:Program}{o:Oper}{a:Act}{w:World}{next:Act→World→Prop}{Q:Exit→Act→World→Prop}{l n:Nat}(hd:noDefer o=true)(h:o.wp P a w next Q):o.wpIn (Fence.wide.inRound l) n P a w next Q:=by
 refine⟨fun _ _=>trivial,?_⟩
 rw [Oper.semAt_eq _ _ _ (fun c e=>by simp [noDefer,e]at hd)]
 unfold Oper.wp at h
 generalize (execOp a.eval o).run P w=r at *
 cases r with
 | ok x w'=>
  cases x <;>simp only [Oper.upon,Oper.uponIn]at h ⊢
  all_goals first
   | exact h
   | exact⟨fun e=>(by cases e),CallsIn.inRound l (callsIn_wide.2 h)⟩
   | exact⟨fun e=>(by cases e),fun c cs _=>let ⟨v,w2,r,s⟩:=h c cs;⟨v,w2,r,stepsIn_wide.2 s⟩⟩
   | exact h.elim
 | halt x w'=>cases x <;>simp only [Oper.upon,Oper.uponIn]at h ⊢ <;>exact h
theorem any_round {P:Program}{md:Region.Mode}{ops:Array Oper}{Q:Exit→Act→World→Prop}{l n:Nat}(hQ: ¬LetsOut Q)(hd:ops.toList.all noDefer=true): ∀(fuel:Nat) (listed:Array Bool) (a:Act) (w:World),wpAny P md ops Q fuel listed a w→wpAnyIn (Fence.wide.inRound l) n P md ops Q fuel listed a w
 | 0,listed,a,w,h=>h
 | fuel+1,listed,a,w,h=>⟨h.1,fun i hi=>by
   have h2:=h.2 i hi
   unfold wpOpIn
   unfold wpOp at h2
   cases ho:ops[i]? with
   | none=>simp only [ho]at h2 ⊢;exact any_round hQ hd fuel _ _ _ h2
   | some o=>
    have hdo:noDefer o=true:=(List.all_eq_true.1 hd) o (by
     have:=Array.mem_of_getElem? ho
     exact Array.mem_toList_iff.2 this)
    simp only [ho]at h2 ⊢
    split
    ·rename_i hw
     rw [if_pos hw]at h2
     rcases h2 with h2|⟨_,h2⟩
     ·exact op_round hdo (Oper.wp_mono (fun a w h=>any_round hQ hd fuel _ a w h) h2)
     ·exact absurd h2 hQ
    ·rename_i hw
     rw [if_neg hw]at h2
     exact⟨fun _ _=>trivial,any_round hQ hd fuel _ _ _ h2⟩⟩
theorem region_round_later {P:Program}{id:Nat}{Q:Exit→Act→World→Prop}{a:Act}{w:World}{ls:List Oper}{l n:Nat}(hm:P.follows .mixedOrders=true)(hB:Region.lexB .any ls.toArray=true)(hd:ls.all noDefer=true)(hQ: ¬LetsOut Q)
  (h:wpQuiet P ls.toArray (fun w'=> ∃p:Draw.Later w,w'=p.v) (fun a'=> ∀w',(∃p:Draw.Later w,w'=p.v)→Q .normal a' w') ls a):(Code.region id ls.toArray true).wpIn (Fence.wide.inRound l) n P Q a w:=by
 simp only [Region.lexB,Bool.and_eq_true]at hB
 refine wpIn_region_any hm (any_round hQ (by simpa using hd) _ _ _ _ (wpAny_of_quiet (C:=fun w'=> ∃p:Draw.Later w,w'=p.v) (Q:=fun a'=> ∀w',(∃p:Draw.Later w,w'=p.v)→Q .normal a' w') (fun _ w' hw' h=>h w' hw') _ _ _ _ ⟨⟨w.drew,(Below.refl _ _).drew⟩,rfl⟩ ?_))
 have:=wpAnyQ_lex (C:=fun w'=> ∃p:Draw.Later w,w'=p.v) (md:=.any) hB.1 ls.toArray.toList 0 (Array.replicate ls.toArray.size false) a (by simp) (by simpa using hB.2) (by simpa using h)
 simpa using this
def Gives {α:Type}(P:Program)(g:Nat)(lb:Array Value)(encs:α→Array Value)(xs:List α)(mine:Nat→Obj→Prop)(w:World):Prop:=
 ∀(l:Nat) (J:Nat→World→Prop) (Jx:World→Prop) (W:World),Below w.heap.size w W→w.heap.size+2≤W.heap.size→
  (∀i A B,J i A→Std W.heap.size A B→J i B)→(∀A B,Jx A→Std W.heap.size A B→Jx B)→
  (∀i x W1,xs[i]? =some x→J i W1→YieldAt Fence.wide 0 P l (encs x) W1 fun e W'=>(e=.returned (.bool true)∧J (i+1) W'∧Chg mine W1 W')∨(e=.returned (.bool false)∧Jx W'∧Chg mine W1 W'))→
  J 0 W→CallsIn Fence.wide 0 P g (#[.func (.yield l) #[] #[]]++lb) W fun e W'=>(∃v,e=.returned v)∧(J xs.length W'∨Jx W')
def left (mb:Nat→Obj→Prop)(I:Nat→World→Prop)(Ix:Code→World→Prop)(i:Nat)(W:World):Exit→Act→World→Prop
 | .normal,_,W'=>Chg mb W W'∧I (i+1) W'
 | .ret,_,W'=>Chg mb W W'∧Ix .ret W'
 | .exit id,_,W'=>Chg mb W W'∧Ix (.exit id) W'
 | .goto t,_,W'=>Chg mb W W'∧Ix (.goto t) W'
 | .panic _,_,_=>False
 | .outgrown,_,_=>False
theorem wp_range {α:Type}{P:Program}{g:Operand}{ps:Array Tmp}{assign body:Code}{Q:Exit→Act→World→Prop}{a:Act}{w:World}{gf:Nat}{lb:Array Value}
  (hg:a.eval g=.func (.func gf) #[] lb) (eg: ∀args w,(callFunc gf args).run P w=.ok (.enter gf args) w)
  {encs:α→Array Value} {xs:List α} {mb:Nat→Obj→Prop} (hseq:Gives P gf lb encs xs (fun k o=>mb k o∨(k=w.heap.size+1∧o.isCells=false)) w)
  (hmb: ∀o,o.isCells=false→ ¬mb w.heap.size o∧ ¬mb (w.heap.size+1) o) (hps: ∀x,(encs x).size=ps.size)
  (I:Nat→World→Prop) (Ix:Code→World→Prop) (hI: ∀i A B,I i A→Std (w.heap.size+1) A B→I i B) (hIx: ∀c A B,Ix c A→Std (w.heap.size+1) A B→Ix c B)
  (h0:I 0 w) (Ax:α→World→Act→World→Prop) (hAx: ∀x W a' A B,Ax x W a' A→Std (w.heap.size+1) A B→Ax x W a' B)
  (hassign: ∀(i:Nat) (x:α) (W:World),xs[i]? =some x→I i W→w.heap.size+2≤W.heap.size→
   assign.wpIn (Fence.wide.inRound (w.heap.size+1)) 0 P (Exit.then (fun a' W'=>Ax x W a' W'∧Below W.heap.size W W') (fun _ _ _=>False)) {tmps:=(ps.zip (encs x)).foldl (fun t (p,v)=>t.setIfInBounds p v) a.tmps,defers:=[]} W)
  (hbody: ∀(i:Nat) (x:α) (a':Act) (W0 W:World),xs[i]? =some x→I i W→Ax x W0 a' W→w.heap.size+2≤W0.heap.size→W0.heap.size≤W.heap.size→body.wpIn (Fence.wide.inRound (w.heap.size+1)) 0 P (left mb I Ix i W) a' W)
  (hdone: ∀(W:World),I xs.length W→W.heap[w.heap.size]? =some (.deferred (some []))→Q .normal {a with defers:={target:=.collected w.heap.size,args:= #[]}::a.defers} W)
  (hstop: ∀(c:Code) (W:World),Ix c W→W.heap[w.heap.size]? =some (.deferred (some []))→c.wpIn Fence.wide 0 P Q {a with defers:={target:=.collected w.heap.size,args:= #[]}::a.defers} W):
  (Code.rangeFunc g ps assign body).wpIn Fence.wide 0 P Q a w:=by
 refine wpIn_rangeFunc ?_
 intro fn hfn
 obtain⟨rec,hrec⟩: ∃rec:LoopState→Option Code→Loop,rec=fun st pe=>{state:=st,pending:=pe,fn,tmps:=a.tmps,params:=ps,assign,body,defers:=w.heap.size}:=⟨_,rfl⟩
 obtain⟨W1,hW1⟩: ∃W1,(w.alloc (.deferred (some []))).alloc (.loop (rec .ready none))=W1:=⟨_,rfl⟩
 have hs1:W1.heap.size=w.heap.size+2:=by rw [←hW1];simp
 have hB1:Below w.heap.size w W1:=by rw [←hW1];exact((Below.refl _ w).alloc (Nat.le_refl _) _).alloc (by simp) _
 have hL1:W1.heap[w.heap.size+1]? =some (.loop (rec .ready none)):=by
  rw [←hW1]
  have e:=World.alloc_heap_new (w.alloc (.deferred (some []))) (.loop (rec .ready none))
  rwa [World.size_alloc]at e
 have hD1:W1.heap[w.heap.size]? =some (.deferred (some [])):=by
  rw [←hW1]
  exact(Below.heap_alloc _ _ _ (by simp)).trans (World.alloc_heap_new w _)
 have hnl: ∀(k:Nat) (o:Obj),(W1.heap.size≤k∧o.isCells=false)→(w.heap.size+1≤k∧o.isCells=false):=fun k o h=>⟨by omega,h.2⟩
 refine⟨w.heap.size+1,[{target:=.collected w.heap.size,args:= #[]}],W1,{target:=.fn (.func gf) lb,args:= #[.func (.yield (w.heap.size+1)) #[] #[]]},W1,gf,#[.func (.yield (w.heap.size+1)) #[] #[]]++lb,W1,?_,?_,?_,?_,?_,?_⟩
 ·rw [←hW1,hrec];exact run_enterLoop_outer _ _ _ _ _
 ·simp only [resolve,hg]
  simp [go_sem]
 ·intro _ _;trivial
 ·simp [invoke,go_sem,eg]
 ·intro h;cases h
 have rec_cells: ∀r:Loop,(Obj.loop r).isCells=false:=fun _=>rfl
 refine(hseq (w.heap.size+1) (fun i W=>I i W∧W.heap[w.heap.size+1]? =some (.loop (rec .ready none))∧W.heap[w.heap.size]? =some (.deferred (some [])))
  (fun W=> ∃c,Ix c W∧W.heap[w.heap.size+1]? =some (.loop (rec .done (some c)))∧W.heap[w.heap.size]? =some (.deferred (some []))) W1 hB1 (by omega) ?_ ?_ ?_ ⟨hI 0 _ _ h0 (Chg.later hB1),hL1,hD1⟩).mono ?_
 ·rintro i A B ⟨h1,h2,h3⟩ hs
  exact⟨hI i _ _ h1 (hs.mono hnl),hs.same _ _ h2 (fun e=>by omega),hs.same _ _ h3 (fun e=>by omega)⟩
 ·rintro A B ⟨c,h1,h2,h3⟩ hs
  exact⟨c,hIx c _ _ h1 (hs.mono hnl),hs.same _ _ h2 (fun e=>by omega),hs.same _ _ h3 (fun e=>by omega)⟩
 ·rintro i x W hx ⟨hi,hl,hd⟩
  have hsz:w.heap.size+2≤W.heap.size:=by have:=lt_some hl;omega
  have hy:=run_yield (P:=P) (args:=encs x) hl (by rw [hrec];exact hps x)
  rw [hrec]at hy
  refine⟨fn,_,assign,body,hy,roundIn_of_wpIn trivial (wpIn_mono (hassign i x W hx hi hsz) ?_)⟩
  intro e a' Wa he
  cases e with
  | normal=>
   obtain⟨hax,hba⟩:=he
   have hla:=(hba.block _ (lt_some hl)).trans hl
   have hda:=(hba.block _ (lt_some hd)).trans hd
   refine⟨_,run_beginRound hla (by rw [hrec]),?_⟩
   obtain⟨W2,hW2⟩: ∃W2,Wa.putObj (w.heap.size+1) (.loop {rec .ready none with state:=.busy})=W2:=⟨_,rfl⟩
   rw [hW2]
   have hl2:W2.heap[w.heap.size+1]? =some (.loop {rec .ready none with state:=.busy}):=by rw [←hW2];exact World.putObj_heap_same (lt_some hla)
   have hd2:W2.heap[w.heap.size]? =some (.deferred (some [])):=by rw [←hW2];exact(World.putObj_heap_other (by omega)).trans hda
   have c2:Std (w.heap.size+1) Wa W2:=by rw [←hW2];exact Chg.put _ hla ⟨Nat.le_refl _,rfl⟩
   have m2:Chg (fun k o=>mb k o∨(k=w.heap.size+1∧o.isCells=false)) Wa W2:=by rw [←hW2];exact Chg.put _ hla (.inr ⟨rfl,rfl⟩)
   have i2:=hI i _ _ (hI i _ _ hi (Chg.later hba)) c2
   have hs2:W.heap.size≤W2.heap.size:=Nat.le_trans hba.size m2.size
   refine wpIn_mono (hbody i x a' W W2 hx i2 (hAx _ _ _ _ _ hax c2) hsz hs2) ?_
   have fin: ∀(jump:Option Code) (W3:World),Chg mb W2 W3→
     (Instr.endRound (w.heap.size+1) jump).run P W3=.ok (.bool jump.isNone) (W3.putObj (w.heap.size+1) (.loop (rec (if jump.isNone then .ready else .done) jump)))∧
     Std (w.heap.size+1) W3 (W3.putObj (w.heap.size+1) (.loop (rec (if jump.isNone then .ready else .done) jump)))∧
     (W3.putObj (w.heap.size+1) (.loop (rec (if jump.isNone then .ready else .done) jump))).heap[w.heap.size+1]? =some (.loop (rec (if jump.isNone then .ready else .done) jump))∧
     (W3.putObj (w.heap.size+1) (.loop (rec (if jump.isNone then .ready else .done) jump))).heap[w.heap.size]? =some (.deferred (some []))∧
     Chg (fun k o=>mb k o∨(k=w.heap.size+1∧o.isCells=false)) W3 (W3.putObj (w.heap.size+1) (.loop (rec (if jump.isNone then .ready else .done) jump))):=fun jump W3 hc=>by
    have hl3:=hc.same _ _ hl2 (hmb _ rfl).2
    have hd3:=hc.same _ _ hd2 (hmb _ rfl).1
    have e:=run_endRound (P:=P) jump hl3
    rw [hrec]at e hl3 ⊢
    exact⟨e,Chg.put _ hl3 ⟨Nat.le_refl _,rfl⟩,World.putObj_heap_same (lt_some hl3),(World.putObj_heap_other (by omega)).trans hd3,Chg.put _ hl3 (.inr ⟨rfl,rfl⟩)⟩
   rintro e a3 W3 hp
   cases e with
   | normal=>
    obtain⟨hc,hi3⟩:=hp
    obtain⟨f1,f2,f3,f4,f5⟩:=fin none W3 hc
    exact⟨_,_,f1,.inl ⟨rfl,⟨hI _ _ _ hi3 f2,f3,f4⟩,((Chg.later hba).trans m2).trans ((hc.mono (fun k o=>.inl)).trans f5)⟩⟩
   | ret=>
    obtain⟨hc,hi3⟩:=hp
    obtain⟨f1,f2,f3,f4,f5⟩:=fin (some .ret) W3 hc
    exact⟨_,_,f1,.inr ⟨rfl,⟨.ret,hIx _ _ _ hi3 f2,f3,f4⟩,((Chg.later hba).trans m2).trans ((hc.mono (fun k o=>.inl)).trans f5)⟩⟩
   | exit id=>
    obtain⟨hc,hi3⟩:=hp
    obtain⟨f1,f2,f3,f4,f5⟩:=fin (some (.exit id)) W3 hc
    exact⟨_,_,f1,.inr ⟨rfl,⟨.exit id,hIx _ _ _ hi3 f2,f3,f4⟩,((Chg.later hba).trans m2).trans ((hc.mono (fun k o=>.inl)).trans f5)⟩⟩
   | goto t=>
    obtain⟨hc,hi3⟩:=hp
    obtain⟨f1,f2,f3,f4,f5⟩:=fin (some (.goto t)) W3 hc
    exact⟨_,_,f1,.inr ⟨rfl,⟨.goto t,hIx _ _ _ hi3 f2,f3,f4⟩,((Chg.later hba).trans m2).trans ((hc.mono (fun k o=>.inl)).trans f5)⟩⟩
   | panic ch=>exact hp.elim
   | outgrown=>exact hp.elim
  | ret=>exact he.elim
  | exit id=>exact he.elim
  | goto t=>exact he.elim
  | panic ch=>exact he.elim
  | outgrown=>exact he.elim
 ·rintro e W2 ⟨⟨v,rfl⟩,⟨hi,hl,hd⟩|⟨c,hi,hl,hd⟩⟩
  ·have e:=run_endLoop (P:=P) hl (by rw [hrec];simp)
   rw [hrec]at e hl
   exact⟨none,_,e,hdone _ (hI _ _ _ hi (Chg.put _ hl ⟨Nat.le_refl _,rfl⟩)) ((World.putObj_heap_other (by omega)).trans hd)⟩
  ·have e:=run_endLoop (P:=P) hl (by rw [hrec];simp)
   rw [hrec]at e hl
   exact⟨some c,_,e,hstop c _ (hIx _ _ _ hi (Chg.put _ hl ⟨Nat.le_refl _,rfl⟩)) ((World.putObj_heap_other (by omega)).trans hd)⟩
theorem ret_marks {P:Program}{fn:Func}{R:Ending→World→Prop}{tmps:Array Value}{D:Nat}{W:World}(v:Value)(hK:W.heap[D]? =some (.deferred (some [])))(hres:(results fn tmps).run P (W.putObj D (.deferred none))=.ok v (W.putObj D (.deferred none)))
  (hR:R (.returned v) (W.putObj D (.deferred none))):bodyPostM Fence.wide 0 P fn R .ret {tmps,defers:=[{target:=.collected D,args:= #[]}]} W:=
 ⟨by simp,.inl ⟨_,_,rfl,run_takeDeferred hK,⟨v,hres,hR⟩⟩⟩
theorem var_put {T:TypeId}{W:World}{k D:Nat}{vs:List Value}{o:Obj}(h:Var T W k vs)(hk:k≠D):Var T (W.putObj D o) k vs:=(World.putObj_heap_other hk).trans h
theorem below_put {B D:Nat}{w W:World}{o:Obj}(h:Below B w W)(hD:B≤D):Below B w (W.putObj D o):=
 ⟨h.os,h.tape,h.output,by simpa using h.size,fun k hk=>(World.putObj_heap_other (by omega)).trans (h.block k hk)⟩
theorem heap_cell {W:World}{p:Addr}{v:Value}{D:Nat}{o:Obj}(h:W.heap[D]? =some o)(hp:p.block≠D):(W.setCell p v).heap[D]? =some o:=(Below.heap_setCell _ _ _ _ (fun e=>hp e.symm)).trans h
end Go.Proofs.YtfejobjgbadfjaaGreat.Rng
