/- Contracts of this seat's functions, and their mathematics (TakH HopB HopC TakeP RowL). -/
import Derived.Test.YtfejobjgbadfjaaGreatK6
import Derived.Test.YtfejobjgbadfjaaGreatK4
import Derived.Test.YtfejobjgbadfjaaGreatK3
import Derived.Test.YtfejobjgbadfjaaGreatK1
import Derived.Maps.AppendAt
set_option linter.unusedVariables false
set_option linter.unusedSimpArgs false
set_option maxRecDepth 10000
set_option maxHeartbeats 4000000
namespace Go.Proofs.YtfejobjgbadfjaaGreat.Tak
open Go.RowKit RowG
def takes (t:Tk)(p:Int)(bz:ByteArray)(e:Bool):Tk×Bool:=if t.ok then takeT t p bz e else(zeroK,false)
theorem scan_bd {nx lim:Int}(hn:0≤nx)(hm:lim≤2000000000): ∀ {l:List Pt} {last out:Int},scan nx lim last l=some out→Bd l
 | [],_,_,_=>fun p hp=>by cases hp
 | q::r,last,out,h=>by
  rw [scan]at h
  split at h
  next hq=>
   intro p hp
   rcases List.mem_cons.1 hp with rfl|hp
   ·have h1:=hq.1
    have h2:=hq.2.1
    have h3:=hq.2.2.2
    unfold endP at h3
    exact⟨by omega,by omega,by omega⟩
   ·exact scan_bd hn hm h p hp
  next=>cases h
theorem scan_tot {nx lim:Int}: ∀ {l:List Pt} {last out:Int},scan nx lim last l=some out→tot l≤40*l.length
 | [],_,_,_=>Nat.zero_le _
 | q::r,last,out,h=>by
  rw [scan]at h
  split at h
  next hq=>
   have:=scan_tot h
   have h1:=hq.1.2
   simp only [tot,List.length_cons]
   omega
  next=>cases h
theorem ok_scan {t:Tk}(h:t.ok=true):inT t.nx t.bs t.l t.cp∧ ∃last,scan t.nx (limT t.nx t.bs t.cp) t.nx t.l=some last∧endB t.fi last t.nx t.en=true:=by
 simp only [Tk.ok,takerB,Bool.and_eq_true,decide_eq_true_eq]at h
 refine⟨h.1,?_⟩
 have h2:=h.2
 split at h2
 ·cases h2
 ·rename_i last hl
  exact⟨last,hl,h2⟩
theorem ok_small {t:Tk}(h:t.ok=true):Bd t.l∧t.bs.size+tot t.l≤1000000:=by
 obtain⟨hin,last,hs,_⟩:=ok_scan h
 obtain⟨⟨h1,h2⟩,⟨h3,h4⟩,⟨h5,h6⟩,h7⟩:=hin
 have hlim:limT t.nx t.bs t.cp≤2000000000:=by unfold limT;omega
 have ht:=scan_tot hs
 exact⟨scan_bd h3 hlim hs,by omega⟩
end Go.Proofs.YtfejobjgbadfjaaGreat.Tak
namespace Go.Proofs.YtfejobjgbadfjaaGreat.Hop
open Go.RowKit RowG
theorem mix:Tryz.prog.follows .mixedOrders=true:=by kernel_rfl
structure Lt where
 bk:Bool
 rd:Int
 pl:Int
 bs:ByteArray
 en:Bool
 lm:Int
 dn:Bool
abbrev Lt.c (x:Lt):List Value:=[.bool x.bk,.int .i64 x.rd,.int .i64 x.pl,.string x.bs,.bool x.en,.int .i64 x.lm,.bool x.dn]
abbrev Lt.v (x:Lt):Value:=.agg #[.bool x.bk,.int .i64 x.rd,.int .i64 x.pl,.string x.bs,.bool x.en,.int .i64 x.lm,.bool x.dn]
def letE:El Lt where
 enc x:=x.c
 size:=7
 len _:=rfl
 one x u hu:=by
  simp at hu
  rcases hu with rfl|rfl|rfl|rfl|rfl|rfl|rfl <;>rfl
 pos:=by decide
def letB (x:Lt):Bool:=decide (0≤x.rd∧x.rd≤3)&&(Num.plB x.pl&&(if x.bk then decide (x.bs.size=0)&&(!x.en&&Num.plB x.lm)else
 decide (x.lm=0)&&(!x.dn&&(decide (x.bs.size≤40)&&((x.en|| !decide (x.bs.size=0))&&Num.plB (x.pl+x.bs.size))))))
theorem infoLet:(Tryz.prog.info? 75).map (fun i=>(i.zero,i.size,i.bytes))=some (some (.agg #[.bool false,.int .i64 0,.int .i64 0,.string ByteArray.empty,.bool false,.int .i64 0,.bool false]),7,64):=by kernel_rfl
theorem typ:Typ Tryz.prog 45 75 letE 64:=by
 obtain⟨i,hi,hz0,hz1,hz2⟩:=info_parts infoLet
 exact⟨Tryz.underlying45,i,_,hi,hz0,hz1,hz2,rfl⟩
theorem l7Letter (x:Lt)(w:World)(hs:x.bs.size≤2097152):
  Calls Tryz.prog 58 #[x.v] w fun e w'=>e=.returned (.bool (letB x))∧Below w.heap.size w w':=by
 obtain⟨bk,rd,pl,bs,en,lm,dn⟩:=x
 dsimp only [Lt.v]at *
 obtain⟨W,hW⟩: ∃z,Hid (z=w.alloc (.cells #[.bool bk,.int .i64 rd,.int .i64 pl,.string bs,.bool en,.int .i64 lm,.bool dn] 75)):=⟨_,rfl⟩
 have v0:Var 75 W w.heap.size [.bool bk,.int .i64 rd,.int .i64 pl,.string bs,.bool en,.int .i64 lm,.bool dn]:=by rw [hW.out];exact Var.new w _
 have B0:Below w.heap.size w W:=by rw [hW.out];exact(Below.refl _ _).alloc (Nat.le_refl _) _
 have HSE:Hid _:=Giv.isEmpty_eq bs
 go_enter Tryz.func58,Tryz.ntmps58
 go_upto_region 1 with(fail)
 rw [←hW.out]
 clear hW
 obtain⟨e0,e1,e2,e3,e4,e5,e6⟩:=v0.c7
 clear v0
 go_wp2_with fail
 refine(Tak.l1In _ _ _ _).mono ?_
 rintro x w1 ⟨rfl,rfl⟩
 cases h1:decide (0≤rd∧rd≤3)
 case false=>
  go_wp2_with fail
  go_ret
  exact⟨Num.ret_bool (by simp [letB,h1]),B0⟩
 go_wp2_with fail
 refine(Num.l1Place _ _).mono ?_
 rintro x w1 ⟨rfl,rfl⟩
 cases h2:Num.plB pl
 case false=>
  go_wp2_with fail
  go_ret
  exact⟨Num.ret_bool (by simp [letB,h1,h2]),B0⟩
 have hpl:0≤pl∧pl≤1000000000:=by simpa [Num.plB]using h2
 cases bk
 case true=>
  cases h3:decide (bs.size=0)
  case false=>
   have hse:bs.toList.isEmpty=false:=by rw [HSE.out,h3]
   have hnn: ¬bs.toList=[]:=fun q=>absurd ((Giv.nil_iff bs).1 q) (of_decide_eq_false h3)
   have h3n: ¬bs.size=0:=of_decide_eq_false h3
   go_wp2_with fail
   go_ret
   exact⟨Num.ret_bool (by simp [letB,h1,h2,h3,h3n]),B0⟩
  have hse:bs.toList.isEmpty=true:=by rw [HSE.out,h3]
  have hnn:bs.toList=[]:=(Giv.nil_iff bs).2 (of_decide_eq_true h3)
  have h3n:bs.size=0:=of_decide_eq_true h3
  cases en
  case true=>
   go_wp2_with fail
   go_ret
   exact⟨Num.ret_bool (by simp [letB,h1,h2,h3,h3n]),B0⟩
  go_wp2_with fail
  refine(Num.l1Place _ _).mono ?_
  rintro x w1 ⟨rfl,rfl⟩
  go_wp2_with fail
  go_ret
  exact⟨Num.ret_bool (by simp [letB,h1,h2,h3,h3n]),B0⟩
 case false=>
  cases h3:decide (lm=0)
  case false=>
   have h3n: ¬lm=0:=of_decide_eq_false h3
   go_wp2_with fail
   go_ret
   exact⟨Num.ret_bool (by simp [letB,h1,h2,h3,h3n]),B0⟩
  have h3n:lm=0:=of_decide_eq_true h3
  cases dn
  case true=>
   go_wp2_with fail
   go_ret
   exact⟨Num.ret_bool (by simp [letB,h1,h2,h3,h3n]),B0⟩
  cases h4:decide (bs.size≤40)
  case false=>
   have h4n: ¬(bs.size:Int)≤40:=by have:=of_decide_eq_false h4;omega
   have h4m: ¬bs.size≤40:=of_decide_eq_false h4
   go_wp2_with fail
   go_ret
   exact⟨Num.ret_bool (by simp [letB,h1,h2,h3,h3n,h4,h4m]),B0⟩
  have h4n:(bs.size:Int)≤40:=by have:=of_decide_eq_true h4;omega
  have h4m:bs.size≤40:=of_decide_eq_true h4
  have ew:IntKind.i64.wrap (pl+(bs.size:Int))=pl+bs.size:=by rw [IntKind.wrap_i64];omega
  cases en
  case true=>
   go_wp2_with fail
   refine(Num.l1Place _ _).mono ?_
   rintro x w1 ⟨rfl,rfl⟩
   go_wp2_with fail
   go_ret
   exact⟨Num.ret_bool (by simp [letB,h1,h2,h3,h3n,h4,h4m,ew]),B0⟩
  cases h5:decide (bs.size=0)
  case true=>
   have hse:bs.toList.isEmpty=true:=by rw [HSE.out,h5]
   have hnn:bs.toList=[]:=(Giv.nil_iff bs).2 (of_decide_eq_true h5)
   have h5n:bs.size=0:=of_decide_eq_true h5
   go_wp2_with fail
   go_ret
   exact⟨Num.ret_bool (by simp [letB,h1,h2,h3,h3n,h4,h4m,h5,h5n]),B0⟩
  have hse:bs.toList.isEmpty=false:=by rw [HSE.out,h5]
  have hnn: ¬bs.toList=[]:=fun q=>absurd ((Giv.nil_iff bs).1 q) (of_decide_eq_false h5)
  have h5n: ¬bs.size=0:=of_decide_eq_false h5
  go_wp2_with fail
  refine(Num.l1Place _ _).mono ?_
  rintro x w1 ⟨rfl,rfl⟩
  go_wp2_with fail
  go_ret
  exact⟨Num.ret_bool (by simp [letB,h1,h2,h3,h3n,h4,h4m,h5,h5n,ew]),B0⟩
end Go.Proofs.YtfejobjgbadfjaaGreat.Hop
namespace Go.Proofs.YtfejobjgbadfjaaGreat.Hop
open Go.RowKit RowG
structure Hp where
 g:Giv.Gv
 t:Tak.Tk
 ws:List Lt
abbrev Hp.c (h:Hp)(aT:Option Addr)(cT:Nat)(aW:Option Addr)(cW:Nat):List Value:=[.int .i64 h.g.ba,.string h.g.bs,.int .i64 h.g.cp,.int .i64 h.g.lm,.bool h.g.en,.bool h.g.dn,.int .i64 h.t.nx,.string h.t.bs,.slice aT h.t.l.length cT,.int .i64 h.t.cp,.int .i64 h.t.fi,.bool h.t.en,.slice aW h.ws.length cW]
abbrev Hp.v (h:Hp)(aT:Option Addr)(cT:Nat)(aW:Option Addr)(cW:Nat):Value:=.agg #[.int .i64 h.g.ba,.string h.g.bs,.int .i64 h.g.cp,.int .i64 h.g.lm,.bool h.g.en,.bool h.g.dn,.int .i64 h.t.nx,.string h.t.bs,.slice aT h.t.l.length cT,.int .i64 h.t.cp,.int .i64 h.t.fi,.bool h.t.en,.slice aW h.ws.length cW]
def hopB (h:Hp):Bool:=h.ws.all letB&&(h.g.ok&&(h.t.ok&&decide (h.ws.length≤30)))
structure Hp.Sm (h:Hp):Prop where
 gb:h.g.bs.size≤2097152
 tb:h.t.bs.size≤2097152
 tl:h.t.l.length≤524288
 bd:Tak.Bd h.t.l
 wl:h.ws.length≤524288
 wb: ∀x∈h.ws,x.bs.size≤2097152
theorem all_take {α:Type}{l:List α}{k:Nat}{x:α}(h:l[k]? =some x)(p:α→Bool):(l.take (k+1)).all p=((l.take k).all p&&p x):=by
 have hk:k<l.length:=(List.getElem?_eq_some_iff.1 h).1
 rw [List.take_add_one,h]
 simp
theorem specHopOk (h:Hp)(aT:Option Addr)(cT:Nat)(aW:Option Addr)(cW:Nat)(w:World)(hT:Tak.partE.Lies w aT h.t.l)(hW:letE.Lies w aW h.ws)(hs:h.Sm):
  Calls Tryz.prog 35 #[h.v aT cT aW cW] w fun e w'=>e=.returned (.bool (hopB h))∧Below w.heap.size w w':=by
 obtain⟨V,hV⟩: ∃z,Hid (z=w.alloc (.cells #[.int .i64 h.g.ba,.string h.g.bs,.int .i64 h.g.cp,.int .i64 h.g.lm,.bool h.g.en,.bool h.g.dn,.int .i64 h.t.nx,.string h.t.bs,.slice aT h.t.l.length cT,.int .i64 h.t.cp,.int .i64 h.t.fi,.bool h.t.en,.slice aW h.ws.length cW] 47)):=⟨_,rfl⟩
 have v0:Var 47 V w.heap.size [.int .i64 h.g.ba,.string h.g.bs,.int .i64 h.g.cp,.int .i64 h.g.lm,.bool h.g.en,.bool h.g.dn,.int .i64 h.t.nx,.string h.t.bs,.slice aT h.t.l.length cT,.int .i64 h.t.cp,.int .i64 h.t.fi,.bool h.t.en,.slice aW h.ws.length cW]:=by rw [hV.out];exact Var.new w _
 have BV:Below w.heap.size w V:=by rw [hV.out];exact(Below.refl _ _).alloc (Nat.le_refl _) _
 have lW:=hW.later BV
 have lT:=hT.later BV
 have hwl:=hs.wl
 go_enter Tryz.func35,Tryz.ntmps35
 go_wp2_with fail
 rw [←hV.out]
 clear hV
 have HV0:Hid (Var 47 V w.heap.size [.int .i64 h.g.ba,.string h.g.bs,.int .i64 h.g.cp,.int .i64 h.g.lm,.bool h.g.en,.bool h.g.dn,.int .i64 h.t.nx,.string h.t.bs,.slice aT h.t.l.length cT,.int .i64 h.t.cp,.int .i64 h.t.fi,.bool h.t.en,.slice aW h.ws.length cW]):=v0
 have e12:=v0.cell (i:=12) rfl
 clear v0
 go_loopw [3] (fun iv wr=> ∃j:Nat,j≤h.ws.length∧iv=.int .i64 j∧Hid ((h.ws.take j).all letB=true)∧Below V.heap.size V wr) (fun iv _=>h.ws.length-(intOf iv).toNat)
 case atStart=>exact⟨0,Nat.zero_le _,rfl,by show _=_;simp,Below.refl _ _⟩
 case round=>
  clear e12
  obtain⟨j,hj,rfl,hall,hB⟩:=hrel
  have vr:=Var.later (T:=47) HV0.out hB
  have e12:=vr.cell (i:=12) rfl
  have lW2:=lW.later hB
  by_cases hjl:j<h.ws.length
  case pos=>
   obtain⟨x,hx⟩: ∃x,h.ws[j]? =some x:=⟨h.ws[j],List.getElem?_eq_getElem hjl⟩
   have hL:=fun w'=>l7Letter x w' (hs.wb x (List.mem_of_getElem? hx))
   rcases lW2 with hL1|⟨b,off,ha',hL1⟩
   ·simp [hL1]at hjl
   have c0:wr.cell? ⟨b,off+j*7,none⟩=some (.bool x.bk):=El.Lies.cell hL1 hx (j:=0) rfl
   have c1:wr.cell? ⟨b,off+j*7+1,none⟩=some (.int .i64 x.rd):=El.Lies.cell hL1 hx (j:=1) rfl
   have c2:wr.cell? ⟨b,off+j*7+2,none⟩=some (.int .i64 x.pl):=El.Lies.cell hL1 hx (j:=2) rfl
   have c3:wr.cell? ⟨b,off+j*7+3,none⟩=some (.string x.bs):=El.Lies.cell hL1 hx (j:=3) rfl
   have c4:wr.cell? ⟨b,off+j*7+4,none⟩=some (.bool x.en):=El.Lies.cell hL1 hx (j:=4) rfl
   have c5:wr.cell? ⟨b,off+j*7+5,none⟩=some (.int .i64 x.lm):=El.Lies.cell hL1 hx (j:=5) rfl
   have c6:wr.cell? ⟨b,off+j*7+6,none⟩=some (.bool x.dn):=El.Lies.cell hL1 hx (j:=6) rfl
   have i0:(0:Int)≤(j:Int):=by omega
   have i1:(j:Int)<(h.ws.length:Int):=by omega
   have HN:Hid ((h.ws.take (j+1)).all letB=letB x):=by show _=_;rw [all_take hx,hall.out,Bool.true_and]
   have HF:Hid (letB x=false→hopB h=false):=fun q=>by
    have:h.ws.all letB=false:=by
     rw [List.all_eq_false]
     exact⟨x,List.mem_of_getElem? hx,by rw [q];decide⟩
    simp [hopB,this]
   clear hL1 hx hall vr
   subst ha'
   go_wp2_with fail
   refine(hL _).mono ?_
   rintro e w1 ⟨rfl,b1⟩
   have B3:=hB.trans (b1.mono hB.size)
   clear b1 hB hL c0 c1 c2 c3 c4 c5 c6
   cases hb:letB x
   case false=>
    go_wp2_with fail
    go_ret
    exact⟨Num.ret_bool (HF.out hb).symm,BV.trans (B3.mono BV.size)⟩
   case true=>
    go_wp2_with fail
    go_roundw
    case rel=>exact⟨j+1,by omega,by go_num,by show _=_;rw [HN.out,hb],B3⟩
    case measure=>simp [intOf];omega
  case neg=>
   have hje:j=h.ws.length:=by omega
   subst hje
   have HA:Hid (h.ws.all letB=true):=by have:=hall.out;rw [List.take_length]at this;exact this
   have i1: ¬(h.ws.length:Int)<(h.ws.length:Int):=by omega
   have hG:=fun w'=>Giv.specGiverOk h.g w' hs.gb
   have hK:=fun w' l'=>Tak.specTakerOk h.t.nx h.t.bs aT h.t.l.length cT h.t.cp h.t.fi h.t.en h.t.l w' rfl l' (by have:=hs.tl;omega) hs.tb hs.bd.up
   have HK:Hid _:=hK
   dsimp only [Giv.Gv.v]at hG
   clear hall hK lW2
   have lT2:=lT.later hB
   obtain⟨f0,f1,f2,f3,f4,f5,f6,f7,f8,f9,f10,f11,f12⟩:=vr.c13
   clear e12
   go_wp2_with fail
   refine(hG _).mono ?_
   rintro e w1 ⟨rfl,b1⟩
   have B3:=hB.trans (b1.mono hB.size)
   have vs:=vr.later b1
   have lT3:=lT2.later b1
   clear b1 hB hG f0 f1 f2 f3 f4 f5 f6 f7 f8 f9 f10 f11 f12 vr lT2
   cases hg:h.g.ok
   case false=>
    go_wp2_with fail
    go_ret
    exact⟨Num.ret_bool (by simp [hopB,hg]),BV.trans (B3.mono BV.size)⟩
   obtain⟨f0,f1,f2,f3,f4,f5,f6,f7,f8,f9,f10,f11,f12⟩:=vs.c13
   go_wp2_with fail
   refine(HK.out _ lT3).mono ?_
   rintro e w2 ⟨rfl,b2⟩
   have B4:=B3.trans (b2.mono B3.size)
   have vt:=vs.later b2
   clear b2 B3 f0 f1 f2 f3 f4 f5 f6 f7 f8 f9 f10 f11 f12 vs
   have f12:=vt.cell (i:=12) rfl
   have HTK:Hid (Tak.takerB h.t.nx h.t.bs h.t.l h.t.cp h.t.fi h.t.en=h.t.ok):=rfl
   generalize Tak.takerB h.t.nx h.t.bs h.t.l h.t.cp h.t.fi h.t.en=tk at *
   cases tk
   case false=>
    go_wp2_with fail
    go_ret
    exact⟨Num.ret_bool (by simp [hopB,hg,←HTK.out]),BV.trans (B4.mono BV.size)⟩
   by_cases hn:h.ws.length≤30
   case pos=>
    have hn2:(h.ws.length:Int)≤30:=by omega
    go_wp2_with fail
    go_ret
    exact⟨Num.ret_bool (by simp [hopB,hg,←HTK.out,HA.out,hn]),BV.trans (B4.mono BV.size)⟩
   case neg=>
    have hn2: ¬(h.ws.length:Int)≤30:=by omega
    go_wp2_with fail
    go_ret
    exact⟨Num.ret_bool (by simp [hopB,hg,←HTK.out,HA.out,hn];omega),BV.trans (B4.mono BV.size)⟩
end Go.Proofs.YtfejobjgbadfjaaGreat.Hop
namespace Go.Proofs.YtfejobjgbadfjaaGreat.Draw
open Go.RowKit
section
variable {P:Program} {ops:Array Oper} {Q:Exit→Act→World→Prop} {md:Region.Mode} {S:World→Prop} {z:Nat}
def chainB (md:Region.Mode)(ops:Array Oper):Nat→List Nat→Nat→Bool
 | z,[],i=>waits md ops z i
 | z,m::ps,i=>waits md ops z m&&chainB md ops m ps i
theorem not_ready_un {listed:Array Bool}{x m:Nat}(hw:waits md ops x m=true)(hi0:listed.getD m true=false):x ∉ Region.ready md ops listed:=by
 intro hz
 obtain⟨_,oz,hoz,hall⟩:=mem_ready.1 hz
 simp only [waits,hoz,List.any_eq_true,Bool.and_eq_true,beq_iff_eq]at hw
 obtain⟨e,he,hb,heq⟩:=hw
 have h1:=hall e (by simpa using he) hb
 rw [heq]at h1
 by_cases hl:m<listed.size
 ·simp [hl]at hi0 h1
  simp [hi0]at h1
 ·simp [Array.getElem?_eq_none (Nat.le_of_not_lt hl)]at h1
theorem chain_not {listed:Array Bool}{i:Nat}: ∀(ps:List Nat) (x:Nat),chainB md ops x ps i=true→(∀m∈ps,listed.getD m true=false)→listed.getD i true=false→x ∉ Region.ready md ops listed∧ ∀m∈ps,m ∉ Region.ready md ops listed
 | [],x,h,_,hi=>⟨not_ready_un h hi,fun m hm=>by cases hm⟩
 | m::ps,x,h,hu,hi=>by
  rw [chainB,Bool.and_eq_true]at h
  have ih:=chain_not ps m h.2 (fun k hk=>hu k (List.mem_cons_of_mem _ hk)) hi
  refine⟨not_ready_un h.1 (hu m (List.mem_cons_self ..)),fun k hk=>?_⟩
  rcases List.mem_cons.1 hk with rfl|hk
  ·exact ih.1
  ·exact ih.2 k hk
def unB (listed:Array Bool)(ps:List Nat):Bool:=ps.all fun m=> !(listed.getD m true)
theorem wpAnyY_firstP {i:Nat}{ps:List Nat}{oi:Oper}{v:Value}(hi:ops[i]? =some oi)(hw:chainB md ops z ps i=true)(hsel: ∀(j:Nat) (o:Oper) cs b,ops[j]? =some o→o.op≠ .select cs b)(hQ: ∀c a w,Q (.panic c) (a.put oi.dst v) w→Q (.panic c) a w):
  ∀(fuel:Nat) (listed:Array Bool) (a:Act) (w:World),(∀j oj,ops[j]? =some oj→j≠i→listed.getD j true=false→(∀e∈oj.after,Region.binds md e=true→e.on≠i)→oi.apart ops oj=true)→(∀m∈ps,listed.getD m true=false)→i∈Region.ready md ops listed→YieldsIf P ops S oi v a→S w→
   wpAnyY P md ops Q S z fuel (listed.setIfInBounds i true) (a.put oi.dst v) w→wpAnyY P md ops Q S z (fuel+1) listed a w
 | fuel,listed,a,w,hfree,hun0,hr,hy,hS,H=>by
  have hcn:=chain_not ps z hw hun0 (mem_ready.1 hr).1
  refine⟨fun h=>absurd hr (by simp [h]),fun j hj=>?_⟩
  by_cases hji:j=i
  ·subst hji
   exact hy.wpOp hi hS ⟨fun _ h=>h,H⟩
  ·have hjz:j≠z:=fun e=>hcn.1 (e▸hj)
   match fuel,H with
   | 0,H=>exact absurd (ready_mono hj hji) (by simp [H.1])
   | fuel+1,H=>
    obtain⟨hjun,oj,hoj,hall⟩:=mem_ready.1 hj
    have hi0:=(mem_ready.1 hr).1
    have hap:oi.apart ops oj=true:=hfree j oj hoj hji hjun fun e he hb heq=>by
     have h1:=hall e he hb
     rw [heq]at h1
     by_cases hl:i<listed.size
     ·simp [hl]at hi0 h1
      simp [hi0]at h1
     ·simp [Array.getElem?_eq_none (Nat.le_of_not_lt hl)]at h1
    refine wpOp_mono ?_ (wpOp_putIf hoj hap (fun cs b=>hsel i oi cs b hi) (fun cs b=>hsel j oj cs b hoj) hQ hy (H.2 j (ready_mono hj hji)))
    rintro a' w' ⟨hy',hS',H'⟩
    refine⟨hS',wpAnyY_firstP hi hw hsel hQ fuel (listed.setIfInBounds j true) _ w' ?_ (fun m hm=>by have hne:j≠m:=fun q=>hcn.2 m hm (q▸hj);rw [getD_set_ne true hne];exact hun0 m hm) (ready_mono hr (Ne.symm hji)) hy' (hS' hjz hS) (by rw [Array.setIfInBounds_comm _ _ hji];exact H')⟩
    intro k ok hk hki hun hno
    refine hfree k ok hk hki ?_ hno
    by_cases hjk:j=k
    ·rw [←hjk];exact hjun
    ·rw [getD_set_ne true hjk]at hun;exact hun
theorem wpAnyY_takeP {i:Nat}{ps:List Nat}{oi:Oper}{v:Value}{fuel:Nat}{listed:Array Bool}{a:Act}{w:World}(hi:ops[i]? =some oi)(hw:chainB md ops z ps i=true)(hu:unB listed ps=true)
  (hs:Region.noSelect ops=true) (hf:Region.free md ops listed i=true) (hr:(Region.ready md ops listed).contains i=true)
  (hQ: ∀c a w,Q (.panic c) (a.put oi.dst v) w→Q (.panic c) a w) (hy:YieldsIf P ops S oi v a) (hS:S w)
  (h:wpAnyY P md ops Q S z fuel (listed.setIfInBounds i true) (a.put oi.dst v) w):wpAnyY P md ops Q S z (fuel+1) listed a w:=
 wpAnyY_firstP hi hw (Region.noSelect_spec hs) hQ fuel listed a w (Region.free_spec hi hf) (fun m hm=>by simpa using (List.all_eq_true.1 hu) m hm) (by simpa using hr) hy hS h
end
end Go.Proofs.YtfejobjgbadfjaaGreat.Draw
namespace Go.Proofs.YtfejobjgbadfjaaGreat.RowG
open Go.RowKit
variable {α:Type} {E:El α}
def Locd (n:Nat)(a a':Option Addr):Prop:= ∀y,a'=some y→(∃x,a=some x∧x.block=y.block)∨n≤y.block
theorem Locd.refl (n:Nat)(a:Option Addr):Locd n a a:=fun y hy=>.inl ⟨y,hy,rfl⟩
theorem Locd.trans {n m:Nat}{a b c:Option Addr}(h:Locd n a b)(k:Locd m b c)(hm:n≤m):Locd n a c:=fun y hy=>by
 rcases k y hy with⟨x,hx,e⟩|q
 ·rcases h x hx with⟨z,hz,e'⟩|q
  ·exact .inl ⟨z,hz,e'.trans e⟩
  ·exact .inr (by omega)
 ·exact .inr (by omega)
theorem Locd.le {n m:Nat}{a b:Option Addr}(h:Locd m a b)(hm:n≤m):Locd n a b:=fun y hy=>(h y hy).imp id (fun q=>by omega)
theorem Locd.new {n:Nat}{a b:Option Addr}(h: ∀y,b=some y→n≤y.block):Locd n a b:=fun y hy=>.inr (h y hy)
theorem wp_appL {P:Program}{tS T:TypeId}{bytes:Nat}(ty:Typ P tS T E bytes)(hby:bytes≤1024){w:World}{o:Oper}{a:Act}{K:Act→World→Prop}{Q:Exit→Act→World→Prop}(s x:Operand)
  (ho:o.op=.call {callee:=.builtin .append,args:= #[s,x],argTypes:= #[tS,tS]})
  (B:Nat) (ao:Option Addr) (c n:Nat) (l1 l2:List α) (hn:n=l1.length) (hs:a.eval s=.slice ao n c) (hown:E.Own T w B ao c l1) (hB:B≤w.heap.size)
  (sp:Option Addr) (m cap:Nat) (hm:m=l2.length) (hx:a.eval x=.slice sp m cap) (hsp:E.Lies w sp l2) (hcap:sp=none→cap=0) (hl:l1.length+l2.length≤4194304)
  (h: ∀a' c' w',E.Own T w' B a' c' (l1++l2)→w.grownBy w' (blk ao)→Locd w.heap.size ao a'→K (a.put o.dst (.slice a' (n+m) c')) w'):o.wp P a w K Q:=by
 subst hn hm
 obtain⟨hu,i,z,hi,hz0,hz1,hz2,hz3⟩:=ty
 cases sp with
 | none=>
  have hl0:l2=[]:=by rcases hsp with e|⟨_,_,e,_⟩;exact e;cases e
  subst hl0
  have hc0:=hcap rfl
  subst hc0
  have hrun:=run_append_owned_none (P:=P) (w:=w) B tS o.type T i E.size hu hi _ l1.length (E.vals l1) hown
  unfold Oper.wp
  simp [execOp,ho,resolve,invoke,builtin,hs,hx,hrun,Result.andThen]
  exact h ao c w (by rw [List.append_nil];exact hown) ⟨rfl,rfl,rfl,Nat.le_refl _,fun _ _ _=>rfl⟩ (Locd.refl _ _)
 | some x'=>
  have hbytes:(l1.length+l2.length)*bytes≤140737488355328:=by
   have:(l1.length+l2.length)*bytes≤4194304*1024:=Nat.mul_le_mul hl hby
   omega
  obtain⟨v',w',hr,h1,h2,h3,h5⟩:=run_append_own_at (P:=P) w B tS o.type T i z E.size bytes hu hi hz0 hz1 hz2 hz3 E.pos _ l1.length (E.vals l1) hown x' l2.length cap (E.vals l2) (E.vals_len l2) (hsp.src rfl) (E.vals_cells l2) (by unfold maxLen;omega) hbytes hB
  have key:K (a.put o.dst v') w':=by
   rw [own_blk]at h2 h5
   rcases h1.2 with⟨hv,q⟩|⟨g',cap',cur,hv,_⟩
   ·subst hv
    have e1:l1=[]:=List.eq_nil_of_length_eq_zero (by omega)
    have e2:l2=[]:=List.eq_nil_of_length_eq_zero (by omega)
    subst e1;subst e2
    exact h none 0 w' (El.Own.none w' B) h2 (fun y hy=>by cases hy)
   ·subst hv
    refine h _ cap' w' ?_ h2 ?_
    ·unfold El.Own
     rw [List.length_append,E.vals_append]
     exact h1
    ·intro y hy
     cases hy
     rw [own_blk]at h5
     simp only [blk,Option.map_some]at h5
     rcases h5 with q|q
     ·cases ao with
      | none=>simp at q
      | some z=>exact .inl ⟨z,rfl,by simpa using q.symm⟩
     ·right
      simp only [Option.some.injEq]at q
      show w.heap.size≤g'
      omega
  unfold Oper.wp execOp
  simp only [ho,resolve,invoke,builtin,Sem.run_bind,Sem.run_pure,Result.andThen_ok,List.map_toArray,List.map_cons,List.map_nil,hs,hx,hr]
  exact key
theorem wpList_appK {P:Program}{tS T:TypeId}{bytes:Nat}(ty:Typ P tS T E bytes)(hby:bytes≤1024){w:World}{ops:Array Oper}{rest:List Oper}{o:Oper}{a:Act}{Q:Exit→Act→World→Prop}(hgd:o.guard=none)(s x:Operand)
  (ho:o.op=.call {callee:=.builtin .append,args:= #[s,x],argTypes:= #[tS,tS]})
  (B:Nat) (ao:Option Addr) (c n:Nat) (l1 l2:List α) (hn:n=l1.length) (hs:a.eval s=.slice ao n c) (hown:E.Own T w B ao c l1) (hB:B≤w.heap.size)
  (sp:Option Addr) (m cap:Nat) (hm:m=l2.length) (hx:a.eval x=.slice sp m cap) (hsp:E.Lies w sp l2) (hcap:sp=none→cap=0) (hl:l1.length+l2.length≤4194304)
  (h: ∀a' c' w',E.Own T w' B a' c' (l1++l2)→w.grownBy w' (blk ao)→Locd w.heap.size ao a'→wpList P ops Q rest (a.put o.dst (.slice a' (n+m) c')) w'):wpList P ops Q (o::rest) a w:=
 wpList_plain hgd fun _ hK=>wp_appL ty hby s x ho B ao c n l1 l2 hn hs hown hB sp m cap hm hx hsp hcap hl fun a' c' w' h1 h2 h3=>hK _ _ (h a' c' w' h1 h2 h3)
theorem step_appL {P:Program}{tS T:TypeId}{bytes:Nat}(ty:Typ P tS T E bytes)(hby:bytes≤1024){w:World}{ops:Array Oper}{o:Oper}{a:Act}{K:Act→World→Prop}{Q:Exit→Act→World→Prop}{X:Prop}(hgd:o.guard=none)(s x:Operand)
  (ho:o.op=.call {callee:=.builtin .append,args:= #[s,x],argTypes:= #[tS,tS]})
  (B:Nat) (ao:Option Addr) (c n:Nat) (l1 l2:List α) (hn:n=l1.length) (hs:a.eval s=.slice ao n c) (hown:E.Own T w B ao c l1) (hB:B≤w.heap.size)
  (sp:Option Addr) (m cap:Nat) (hm:m=l2.length) (hx:a.eval x=.slice sp m cap) (hsp:E.Lies w sp l2) (hcap:sp=none→cap=0) (hl:l1.length+l2.length≤4194304)
  (h: ∀a' c' w',E.Own T w' B a' c' (l1++l2)→w.grownBy w' (blk ao)→Locd w.heap.size ao a'→K (a.put o.dst (.slice a' (n+m) c')) w'):if Region.wanted o (yielded ops a.tmps)=true then Oper.wp P o a w K Q else X:=by
 rw [if_pos (by simp [Region.wanted,hgd])]
 exact wp_appL ty hby s x ho B ao c n l1 l2 hn hs hown hB sp m cap hm hx hsp hcap hl h
end Go.Proofs.YtfejobjgbadfjaaGreat.RowG
