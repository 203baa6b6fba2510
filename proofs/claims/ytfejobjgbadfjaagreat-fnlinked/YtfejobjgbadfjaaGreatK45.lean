/- Contracts of this seat's functions, and their mathematics (LinF LinG). -/
import Derived.Test.YtfejobjgbadfjaaGreatK27
import Derived.Test.YtfejobjgbadfjaaGreatK18
import Derived.Test.YtfejobjgbadfjaaGreatK44
import Derived.WalkMore
set_option linter.unusedVariables false
set_option linter.unusedSimpArgs false
set_option maxRecDepth 10000
set_option maxHeartbeats 4000000
namespace Go.Proofs.YtfejobjgbadfjaaGreat.Lin
open Go.RowKit RowG Hop Roa Wor
def okI (hs:List Hp)(rs:List Rd)(i:Nat):Bool:=hopB (hs.getD i zeroH)&&(hs.getD i zeroH).ws.all (roadB i rs)
theorem hops_okI (hs:List Hp)(rs:List Rd):hopsB hs rs=(decide (hs.length=3)&&(roadsB rs&&((List.range 3).all (okI hs rs)))):=rfl
theorem hops_len {hs:List Hp}{rs:List Rd}(h:hs.length≠3):hopsB hs rs=false:=by simp [hopsB,h]
theorem hops_roads {hs:List Hp}{rs:List Rd}(h:roadsB rs=false):hopsB hs rs=false:=by simp [hopsB,h]
theorem hops_no {hs:List Hp}{rs:List Rd}{i:Nat}(hi:i<3)(h:okI hs rs i=false):hopsB hs rs=false:=by
 rw [hops_okI]
 have:(List.range 3).all (okI hs rs)=false:=by
  rw [List.all_eq_false]
  exact⟨i,List.mem_range.2 hi,by rw [h];decide⟩
 rw [this];simp
theorem hops_yes {hs:List Hp}{rs:List Rd}(h3:hs.length=3)(hr:roadsB rs=true)(h: ∀i,i<3→okI hs rs i=true):hopsB hs rs=true:=by
 rw [hops_okI,hr,decide_eq_true h3]
 simp only [Bool.true_and,List.all_eq_true,List.mem_range]
 exact fun i hi=>h i hi
theorem okI_eq {xs:List Ha}{rs:List Rd}{i:Nat}{x:Ha}(hx:xs[i]? =some x):okI (xs.map (·.h)) rs i=(hopB x.h&&x.h.ws.all (roadB i rs)):=by
 have:(xs.map (·.h)).getD i zeroH=x.h:=by simp [List.getD,hx]
 rw [okI,this]
theorem specLineOk (aH aR:Option Addr)(n m cH cR:Nat)(xs:List Ha)(rs:List Rd)(w:World)(hn:n=xs.length)(hm:m=rs.length)(L:LL w aH xs)(R:Roa.E.Lies w aR rs)(hl:xs.length≤1000)(hr:rs.length≤1000)(hs: ∀x∈xs,x.h.Sm):
  Calls Tryz.prog 16 #[.agg #[.slice aH n cH,.slice aR m cR]] w fun e w'=>e=.returned (.bool (hopsB (xs.map (·.h)) rs))∧Below w.heap.size w w':=by
 subst hn hm
 have v0:Var 27 (w.alloc (.cells #[.slice aH xs.length cH,.slice aR rs.length cR] 27)) w.heap.size [.slice aH xs.length cH,.slice aR rs.length cR]:=Var.new w _
 have BV:Below w.heap.size w (w.alloc (.cells #[.slice aH xs.length cH,.slice aR rs.length cR] 27)):=(Below.refl _ _).alloc (Nat.le_refl _) _
 have L0:=L.later BV
 have R0:=R.later BV
 have hRo:=fun w' (l':Roa.E.Lies w' aR rs)=>specRoadsOk aR rs.length cR rs w' rfl l' (by omega)
 go_enter Tryz.func16,Tryz.ntmps16
 go_upto_region 1 with(fail)
 generalize w.alloc (.cells #[.slice aH xs.length cH,.slice aR rs.length cR] 27)=V at *
 have HV0:Hid (Var 27 V w.heap.size [.slice aH xs.length cH,.slice aR rs.length cR]):=v0
 have e0:=v0.cell (i:=0) rfl
 have e1:=v0.cell (i:=1) rfl
 clear v0
 by_cases h3:xs.length=3
 case neg=>
  have h3i: ¬(xs.length:Int)=3:=by omega
  go_wp2_with fail
  go_ret
  exact⟨Num.ret_bool (hops_len (by simpa using h3)).symm,BV⟩
 have h3i:(xs.length:Int)=3:=by omega
 go_wp2_with fail
 refine(hRo _ R0).mono ?_
 rintro e w1 ⟨rfl,b1⟩
 cases hro:roadsB rs
 case false=>
  clear L0 R0 L R
  go_wp2_with fail
  go_ret
  exact⟨Num.ret_bool (hops_roads hro).symm,BV.trans (b1.mono BV.size)⟩
 have HRO:Hid (roadsB rs=true):=hro
 clear hro h3i hRo e0 e1 R0
 have HV1:Hid (Var 27 w1 w.heap.size [.slice aH xs.length cH,.slice aR rs.length cR]):=HV0.out.later b1
 have HL1:Hid (LL w1 aH xs):=L0.later b1
 have B1:Below w.heap.size w w1:=BV.trans (b1.mono BV.size)
 have H3:Hid (xs.length=3):=h3
 clear HV0 L0 b1 BV V L R h3
 go_wp2_with fail
 go_loopw [3,4,5] (fun iv _ _ wr=> ∃k:Nat,k≤3∧iv=.int .i64 k∧Hid (∀i,i<k→okI (xs.map (·.h)) rs i=true)∧Below w1.heap.size w1 wr) (fun iv _ _ _=>3-(intOf iv).toNat)
 case atStart=>exact⟨0,by omega,rfl,fun i hi=>by omega,Below.refl _ _⟩
 case round=>
  obtain⟨k,hk,rfl,hall,hB⟩:=hrel
  by_cases hk3:k<3
  case neg=>
   have hk4: ¬(k:Int)<3:=by omega
   go_wp2_with fail
   go_ret
   exact⟨Num.ret_bool (hops_yes (by simpa using H3.out) HRO.out (fun i hi=>hall.out i (by omega))).symm,B1.trans (hB.mono B1.size)⟩
  case pos=>
   have i0:(k:Int)<3:=by omega
   have i1:(0:Int)≤(k:Int):=by omega
   have i2:(k:Int)<(xs.length:Int):=by rw [H3.out];exact i0
   obtain⟨x,hx⟩: ∃x,xs[k]? =some x:=⟨xs[k]'(by rw [H3.out];exact hk3),List.getElem?_eq_getElem _⟩
   have HX:Hid (xs[k]? =some x):=hx
   have hxm:=List.mem_of_getElem? hx
   have Lr:=HL1.out.later hB
   have vr:=HV1.out.later hB
   have RLx:=Lr.rows x hxm
   have HN:Hid (∀p,okI (xs.map (·.h)) rs k=p→p=false→hopsB (xs.map (·.h)) rs=false):=fun p hp hf=>hops_no hk3 (hp.trans hf)
   have e0:=vr.cell (i:=0) rfl
   obtain⟨b,off,rfl,hL1⟩: ∃b off,aH=some ⟨b,off,none⟩∧ ∀j u,(hopE.vals xs)[j]? =some u→wr.cell? ⟨b,off+j,none⟩=some u:=by
    rcases Lr.row with h0|h0
    ·simp [h0]at hx
    ·exact h0
   have c0:wr.cell? ⟨b,off+k*13,none⟩=some (.int .i64 x.h.g.ba):=El.Lies.cell hL1 hx (j:=0) rfl
   have c1:wr.cell? ⟨b,off+k*13+1,none⟩=some (.string x.h.g.bs):=El.Lies.cell hL1 hx (j:=1) rfl
   have c2:wr.cell? ⟨b,off+k*13+2,none⟩=some (.int .i64 x.h.g.cp):=El.Lies.cell hL1 hx (j:=2) rfl
   have c3:wr.cell? ⟨b,off+k*13+3,none⟩=some (.int .i64 x.h.g.lm):=El.Lies.cell hL1 hx (j:=3) rfl
   have c4:wr.cell? ⟨b,off+k*13+4,none⟩=some (.bool x.h.g.en):=El.Lies.cell hL1 hx (j:=4) rfl
   have c5:wr.cell? ⟨b,off+k*13+5,none⟩=some (.bool x.h.g.dn):=El.Lies.cell hL1 hx (j:=5) rfl
   have c6:wr.cell? ⟨b,off+k*13+6,none⟩=some (.int .i64 x.h.t.nx):=El.Lies.cell hL1 hx (j:=6) rfl
   have c7:wr.cell? ⟨b,off+k*13+7,none⟩=some (.string x.h.t.bs):=El.Lies.cell hL1 hx (j:=7) rfl
   have c8:wr.cell? ⟨b,off+k*13+8,none⟩=some (.slice x.aT x.h.t.l.length x.cT):=El.Lies.cell hL1 hx (j:=8) rfl
   have c9:wr.cell? ⟨b,off+k*13+9,none⟩=some (.int .i64 x.h.t.cp):=El.Lies.cell hL1 hx (j:=9) rfl
   have c10:wr.cell? ⟨b,off+k*13+10,none⟩=some (.int .i64 x.h.t.fi):=El.Lies.cell hL1 hx (j:=10) rfl
   have c11:wr.cell? ⟨b,off+k*13+11,none⟩=some (.bool x.h.t.en):=El.Lies.cell hL1 hx (j:=11) rfl
   have c12:wr.cell? ⟨b,off+k*13+12,none⟩=some (.slice x.aW x.h.ws.length x.cW):=El.Lies.cell hL1 hx (j:=12) rfl
   have hH:=fun w' (p:Tak.partE.Lies w' x.aT x.h.t.l) (q:letE.Lies w' x.aW x.h.ws)=>specHopOk x.h x.aT x.cT x.aW x.cW w' p q (hs x hxm)
   clear Lr hL1 hx
   go_wp2_with fail
   refine(hH _ RLx.p RLx.l).mono ?_
   rintro e w2 ⟨rfl,b2⟩
   have hB2:=hB.trans (b2.mono hB.size)
   clear c0 c1 c2 c3 c4 c5 c6 c7 c8 c9 c10 c11 c12 e0 hH RLx vr
   cases hh:hopB x.h
   case false=>
    go_wp2_with fail
    go_ret
    exact⟨Num.ret_bool (HN.out _ (okI_eq HX.out) (by rw [hh];rfl)).symm,B1.trans (hB2.mono B1.size)⟩
   have HH:Hid (hopB x.h=true):=hh
   clear hh
   go_wp2_with fail
   have HB2:Hid (Below w1.heap.size w1 w2):=hB2
   go_loopw [4,5] (fun jv _ wq=> ∃j:Nat,j≤x.h.ws.length∧jv=.int .i64 j∧Hid ((x.h.ws.take j).all (roadB k rs)=true)∧Below w1.heap.size w1 wq) (fun jv _ _=>x.h.ws.length-(intOf jv).toNat)
   case atStart=>exact⟨0,Nat.zero_le _,rfl,by show _=_;simp,hB2⟩
   case round=>
    clear b2 hB2 HB2 hB
    obtain⟨j,hj,rfl,hall2,hB⟩:=hrel
    have Lr:=HL1.out.later hB
    have vr:=HV1.out.later hB
    have RLx:=(Lr.rows x hxm).l
    have hx:=HX.out
    have e0:=vr.cell (i:=0) rfl
    have e1:=vr.cell (i:=1) rfl
    have hL1: ∀j u,(hopE.vals xs)[j]? =some u→wr.cell? ⟨b,off+j,none⟩=some u:=by
     rcases Lr.row with h0|⟨b',off',h0,h1⟩
     ·simp [h0]at hx
     ·cases h0;exact h1
    have c12:wr.cell? ⟨b,off+k*13+12,none⟩=some (.slice x.aW x.h.ws.length x.cW):=El.Lies.cell hL1 hx (j:=12) rfl
    have hwl:x.h.ws.length≤524288:=(hs x hxm).wl
    by_cases hjl:j<x.h.ws.length
    case neg=>
     have hje:j=x.h.ws.length:=by omega
     subst hje
     have j1: ¬(x.h.ws.length:Int)<(x.h.ws.length:Int):=by omega
     have HA:Hid (x.h.ws.all (roadB k rs)=true):=by have:=hall2.out;rw [List.take_length]at this;exact this
     clear hall2 Lr hL1 hx vr RLx e1
     go_wp2_with fail
     go_roundw
     case rel=>
      refine⟨k+1,by omega,by go_num,fun i hi=>?_,hB⟩
      by_cases hik:i<k
      ·exact hall.out i hik
      ·obtain rfl:i=k:=by omega
       rw [okI_eq HX.out,HH.out,HA.out];rfl
     case measure=>simp [intOf];omega
    case pos=>
     have j0:(j:Int)<(x.h.ws.length:Int):=by omega
     have j1:(0:Int)≤(j:Int):=by omega
     obtain⟨t,ht⟩: ∃t,x.h.ws[j]? =some t:=⟨x.h.ws[j],List.getElem?_eq_getElem hjl⟩
     obtain⟨d,of,ha,hW1⟩: ∃d of,x.aW=some ⟨d,of,none⟩∧ ∀j u,(letE.vals x.h.ws)[j]? =some u→wr.cell? ⟨d,of+j,none⟩=some u:=by
      rcases RLx with h0|h0
      ·simp [h0]at hjl
      ·exact h0
     have d1:wr.cell? ⟨d,of+j*7+1,none⟩=some (.int .i64 t.rd):=El.Lies.cell hW1 ht (j:=1) rfl
     have HT:Hid ((x.h.ws.take (j+1)).all (roadB k rs)=roadB k rs t):=by show _=_;rw [all_take ht,hall2.out,Bool.true_and]
     have HF:Hid (roadB k rs t=false→hopsB (xs.map (·.h)) rs=false):=fun q=>HN.out _ (okI_eq HX.out) (by
      have:x.h.ws.all (roadB k rs)=false:=by
       rw [List.all_eq_false]
       exact⟨t,List.mem_of_getElem? ht,by rw [q];decide⟩
      rw [this];simp)
     rw [ha]at c12
     clear ha hall2 Lr hL1 hx vr RLx hW1 ht
     go_upto_region 12 with(fail)
     have HE:Hid (roadB k rs t=if k=1 then decide (t.rd<(rs.length:Int))else decide (t.rd=0)):=rfl
     clear c12 d1 e0 i0 i1 i2 j0 j1
     by_cases hk1:k=1
     case pos=>
      have ki:(k:Int)=1:=by omega
      by_cases ht1:t.rd<(rs.length:Int)
      case pos=>
       have ht2: ¬(rs.length:Int)≤t.rd:=by omega
       go_wp2_with fail
       go_roundw
       case rel=>exact⟨j+1,by omega,by go_num,by show _=_;rw [HT.out,HE.out,if_pos hk1];simpa using ht1,hB⟩
       case measure=>simp [intOf];omega
      case neg=>
       have ht2:(rs.length:Int)≤t.rd:=by omega
       go_wp2_with fail
       go_ret
       exact⟨Num.ret_bool (HF.out (by rw [HE.out,if_pos hk1];simpa using ht1)).symm,B1.trans (hB.mono B1.size)⟩
     case neg=>
      have ki: ¬(k:Int)=1:=by omega
      have kb:((k:Int) !=1)=true:=by simp;omega
      by_cases ht1:t.rd=0
      case pos=>
       have tb:(t.rd !=0)=false:=by simp [ht1]
       have HT1:Hid (t.rd=0):=ht1
       clear ht1
       go_wp2_with fail
       go_roundw
       case rel=>exact⟨j+1,by omega,by go_num,by show _=_;rw [HT.out,HE.out,if_neg hk1];simpa using HT1.out,hB⟩
       case measure=>simp [intOf];omega
      case neg=>
       have tb:(t.rd !=0)=true:=by simp [ht1]
       go_wp2_with fail
       go_ret
       exact⟨Num.ret_bool (HF.out (by rw [HE.out,if_neg hk1];simpa using ht1)).symm,B1.trans (hB.mono B1.size)⟩
end Go.Proofs.YtfejobjgbadfjaaGreat.Lin
namespace Go.Proofs.YtfejobjgbadfjaaGreat.Lin
open Go.RowKit RowG Hop Roa Wor
def along (rs:List Rd)(k:Nat):Int:=if k=1 then(rs.length:Int)else 1
theorem roadsAlong (aH aR:Option Addr)(n cH cR:Nat)(rs:List Rd)(k:Nat)(w:World):
  Calls Tryz.prog 80 #[.agg #[.slice aH n cH,.slice aR rs.length cR],.int .i64 (k:Int)] w fun e w'=>e=.returned (.int .i64 (along rs k))∧Below w.heap.size w w':=by
 have v0:Var 27 (w.alloc (.cells #[.slice aH n cH,.slice aR rs.length cR] 27)) w.heap.size [.slice aH n cH,.slice aR rs.length cR]:=Var.new w _
 have BV:Below w.heap.size w (w.alloc (.cells #[.slice aH n cH,.slice aR rs.length cR] 27)):=(Below.refl _ _).alloc (Nat.le_refl _) _
 have HA:Hid (along rs k=if k=1 then(rs.length:Int)else 1):=rfl
 go_enter Tryz.func80,Tryz.ntmps80
 go_upto_region 1 with(fail)
 generalize w.alloc (.cells #[.slice aH n cH,.slice aR rs.length cR] 27)=V at *
 have e1:=v0.cell (i:=1) rfl
 clear v0
 by_cases hk:k=1
 ·have HK:Hid (k=1):=hk
  have ki:((k:Int) !=1)=false:=by simp;omega
  clear hk
  go_wp2_with fail
  go_ret
  exact⟨by rw [HA.out,if_pos HK.out];rfl,BV⟩
 ·have HK:Hid (¬k=1):=hk
  have ki:((k:Int) !=1)=true:=by simp;omega
  clear hk
  go_wp2_with fail
  go_ret
  exact⟨by rw [HA.out,if_neg HK.out];rfl,BV⟩
theorem road_along {k:Nat}{rs:List Rd}{t:Lt}(h:letB t=true):roadB k rs t=decide (t.rd<along rs k):=by
 have h0:0≤t.rd:=by
  simp only [letB,Bool.and_eq_true,decide_eq_true_eq]at h
  exact h.1.1
 unfold roadB along
 by_cases hk:k=1
 ·rw [if_pos hk,if_pos hk]
 ·rw [if_neg hk,if_neg hk,decide_eq_decide]
  omega
theorem rightHops (aH aR:Option Addr)(cH cR:Nat)(xs:List Ha)(rs:List Rd)(w:World)(h3:xs.length=3)(L:LL w aH xs)(hs: ∀x∈xs,x.h.Sm):
  Calls Tryz.prog 52 #[.agg #[.slice aH xs.length cH,.slice aR rs.length cR]] w fun e w'=> ∃n:Nat,e=.returned (.int .i64 (n:Int))∧(n=3↔ ∀i,i<3→okI (xs.map (·.h)) rs i=true)∧Below w.heap.size w w':=by
 have hmix:=Roa.mix
 have v0:Var 27 (w.alloc (.cells #[.slice aH xs.length cH,.slice aR rs.length cR] 27)) w.heap.size [.slice aH xs.length cH,.slice aR rs.length cR]:=Var.new w _
 have BV:Below w.heap.size w (w.alloc (.cells #[.slice aH xs.length cH,.slice aR rs.length cR] 27)):=(Below.refl _ _).alloc (Nat.le_refl _) _
 have HL0:Hid (LL (w.alloc (.cells #[.slice aH xs.length cH,.slice aR rs.length cR] 27)) aH xs):=L.later BV
 have H3:Hid (xs.length=3):=h3
 clear h3 L
 go_enter Tryz.func52,Tryz.ntmps52
 go_wp2_with fail
 go_step3
 go_upto_region 1 with(fail)
 generalize w.alloc (.cells #[.slice aH xs.length cH,.slice aR rs.length cR] 27)=V at *
 have HV0:Hid (Var 27 V w.heap.size [.slice aH xs.length cH,.slice aR rs.length cR]):=v0
 have e0:=v0.cell (i:=0) rfl
 clear v0
 go_wp2_with fail
 go_step3
 go_wp2_with fail
 clear e0
 go_loopw [3,4,5,7,11] (fun rv _ _ _ iv wr=> ∃k:Nat,k≤3∧rv=.int .i64 k∧iv=.int .i64 k∧Hid (∀i,i<k→okI (xs.map (·.h)) rs i=true)∧Below V.heap.size V wr) (fun _ _ _ _ iv _=>3-(intOf iv).toNat)
 case atStart=>exact⟨0,by omega,rfl,rfl,fun i hi=>by omega,Below.refl _ _⟩
 case round=>
  obtain⟨k,hk,rfl,rfl,hall,hB⟩:=hrel
  by_cases hk3:k<3
  case neg=>
   have hk4: ¬(k:Int)<(xs.length:Int):=by rw [H3.out];omega
   go_wp2_with fail
   (try rw [Exit.noGoto_ret])
   go_ret
   exact⟨k,rfl,⟨fun _ i hi=>hall.out i (by omega),fun _=>by omega⟩,BV.trans (hB.mono BV.size)⟩
  case pos=>
   have i0:(k:Int)<(xs.length:Int):=by rw [H3.out];omega
   have i1:(0:Int)≤(k:Int):=by omega
   obtain⟨x,hx⟩: ∃x,xs[k]? =some x:=⟨xs[k]'(by rw [H3.out];exact hk3),List.getElem?_eq_getElem _⟩
   have HX:Hid (xs[k]? =some x):=hx
   have hxm:=List.mem_of_getElem? hx
   have Lr:=HL0.out.later hB
   have HN:Hid (okI (xs.map (·.h)) rs k=false→(k=3↔ ∀i,i<3→okI (xs.map (·.h)) rs i=true)):=fun hf=>⟨fun e=>by omega,fun h=>by rw [h k hk3]at hf;cases hf⟩
   obtain⟨b,off,rfl,hL1⟩: ∃b off,aH=some ⟨b,off,none⟩∧ ∀j u,(hopE.vals xs)[j]? =some u→wr.cell? ⟨b,off+j,none⟩=some u:=by
    rcases Lr.row with h0|h0
    ·simp [h0]at hx
    ·exact h0
   have c0:wr.cell? ⟨b,off+k*13,none⟩=some (.int .i64 x.h.g.ba):=El.Lies.cell hL1 hx (j:=0) rfl
   have c1:wr.cell? ⟨b,off+k*13+1,none⟩=some (.string x.h.g.bs):=El.Lies.cell hL1 hx (j:=1) rfl
   have c2:wr.cell? ⟨b,off+k*13+2,none⟩=some (.int .i64 x.h.g.cp):=El.Lies.cell hL1 hx (j:=2) rfl
   have c3:wr.cell? ⟨b,off+k*13+3,none⟩=some (.int .i64 x.h.g.lm):=El.Lies.cell hL1 hx (j:=3) rfl
   have c4:wr.cell? ⟨b,off+k*13+4,none⟩=some (.bool x.h.g.en):=El.Lies.cell hL1 hx (j:=4) rfl
   have c5:wr.cell? ⟨b,off+k*13+5,none⟩=some (.bool x.h.g.dn):=El.Lies.cell hL1 hx (j:=5) rfl
   have c6:wr.cell? ⟨b,off+k*13+6,none⟩=some (.int .i64 x.h.t.nx):=El.Lies.cell hL1 hx (j:=6) rfl
   have c7:wr.cell? ⟨b,off+k*13+7,none⟩=some (.string x.h.t.bs):=El.Lies.cell hL1 hx (j:=7) rfl
   have c8:wr.cell? ⟨b,off+k*13+8,none⟩=some (.slice x.aT x.h.t.l.length x.cT):=El.Lies.cell hL1 hx (j:=8) rfl
   have c9:wr.cell? ⟨b,off+k*13+9,none⟩=some (.int .i64 x.h.t.cp):=El.Lies.cell hL1 hx (j:=9) rfl
   have c10:wr.cell? ⟨b,off+k*13+10,none⟩=some (.int .i64 x.h.t.fi):=El.Lies.cell hL1 hx (j:=10) rfl
   have c11:wr.cell? ⟨b,off+k*13+11,none⟩=some (.bool x.h.t.en):=El.Lies.cell hL1 hx (j:=11) rfl
   have c12:wr.cell? ⟨b,off+k*13+12,none⟩=some (.slice x.aW x.h.ws.length x.cW):=El.Lies.cell hL1 hx (j:=12) rfl
   have hH:=fun w' (p:Tak.partE.Lies w' x.aT x.h.t.l) (q:letE.Lies w' x.aW x.h.ws)=>implHopOk x.h x.aT x.cT x.aW x.cW w' p q (hs x hxm)
   clear Lr hL1 hx
   have v5:Var 47 (wr.alloc (.cells #[.int .i64 x.h.g.ba,.string x.h.g.bs,.int .i64 x.h.g.cp,.int .i64 x.h.g.lm,.bool x.h.g.en,.bool x.h.g.dn,.int .i64 x.h.t.nx,.string x.h.t.bs,.slice x.aT x.h.t.l.length x.cT,.int .i64 x.h.t.cp,.int .i64 x.h.t.fi,.bool x.h.t.en,.slice x.aW x.h.ws.length x.cW] 47)) wr.heap.size [.int .i64 x.h.g.ba,.string x.h.g.bs,.int .i64 x.h.g.cp,.int .i64 x.h.g.lm,.bool x.h.g.en,.bool x.h.g.dn,.int .i64 x.h.t.nx,.string x.h.t.bs,.slice x.aT x.h.t.l.length x.cT,.int .i64 x.h.t.cp,.int .i64 x.h.t.fi,.bool x.h.t.en,.slice x.aW x.h.ws.length x.cW]:=Var.new wr _
   have b2:=(Below.refl wr.heap.size wr).alloc (Nat.le_refl _) (.cells #[.int .i64 x.h.g.ba,.string x.h.g.bs,.int .i64 x.h.g.cp,.int .i64 x.h.g.lm,.bool x.h.g.en,.bool x.h.g.dn,.int .i64 x.h.t.nx,.string x.h.t.bs,.slice x.aT x.h.t.l.length x.cT,.int .i64 x.h.t.cp,.int .i64 x.h.t.fi,.bool x.h.t.en,.slice x.aW x.h.ws.length x.cW] 47)
   go_upto_region 5 with(fail)
   clear c0 c1 c2 c3 c4 c5 c6 c7 c8 c9 c10 c11 c12
   have hB2:=hB.trans (b2.mono hB.size)
   clear hB b2
   generalize wr.alloc (.cells #[.int .i64 x.h.g.ba,.string x.h.g.bs,.int .i64 x.h.g.cp,.int .i64 x.h.g.lm,.bool x.h.g.en,.bool x.h.g.dn,.int .i64 x.h.t.nx,.string x.h.t.bs,.slice x.aT x.h.t.l.length x.cT,.int .i64 x.h.t.cp,.int .i64 x.h.t.fi,.bool x.h.t.en,.slice x.aW x.h.ws.length x.cW] 47)=V2 at *
   generalize wr.heap.size=k5 at *
   have RLx:=(HL0.out.later hB2).rows x hxm
   obtain⟨c0,c1,c2,c3,c4,c5,c6,c7,c8,c9,c10,c11,c12⟩:=v5.c13
   go_wp2_with fail
   refine(hH _ RLx.p RLx.l).mono ?_
   rintro e w2 ⟨rfl,b2⟩
   have hB:=hB2.trans (b2.mono hB2.size)
   clear c0 c1 c2 c3 c4 c5 c6 c7 c8 c9 c10 c11 c12 hH RLx hB2
   replace v5:=v5.later b2
   clear b2
   cases hh:hopB x.h
   case false=>
    go_wp2_with fail
    (try rw [Exit.noGoto_ret])
    go_ret
    exact⟨k,rfl,HN.out (by rw [okI_eq HX.out,hh];rfl),BV.trans (hB.mono BV.size)⟩
   have HH:Hid (hopB x.h=true):=hh
   clear hh
   have c12:=v5.cell (i:=12) rfl
   have hwl:x.h.ws.length≤524288:=(hs x hxm).wl
   go_wp2_with fail
   clear c12 v5
   go_loopw [7,22] (fun _ jv wq=> ∃j:Nat,j≤x.h.ws.length∧jv=.int .i64 j∧Hid ((x.h.ws.take j).all (roadB k rs)=true)∧Below V.heap.size V wq) (fun _ jv _=>x.h.ws.length-(intOf jv).toNat)
   case atStart=>exact⟨0,Nat.zero_le _,rfl,by show _=_;simp,hB⟩
   case round=>
    clear hB
    obtain⟨j,hj,rfl,hall2,hB⟩:=hrel
    by_cases hjl:j<x.h.ws.length
    case neg=>
     have hje:j=x.h.ws.length:=by omega
     subst hje
     have j1: ¬(x.h.ws.length:Int)<(x.h.ws.length:Int):=by omega
     have HA:Hid (x.h.ws.all (roadB k rs)=true):=by have:=hall2.out;rw [List.take_length]at this;exact this
     clear hall2
     go_wp2_with fail
     go_roundw
     case rel=>
      refine⟨k+1,by omega,by go_num,by go_num,fun i hi=>?_,hB⟩
      by_cases hik:i<k
      ·exact hall.out i hik
      ·obtain rfl:i=k:=by omega
       rw [okI_eq HX.out,HH.out,HA.out];rfl
     case measure=>simp [intOf];omega
    case pos=>
     have j0:(j:Int)<(x.h.ws.length:Int):=by omega
     have j1:(0:Int)≤(j:Int):=by omega
     obtain⟨t,ht⟩: ∃t,x.h.ws[j]? =some t:=⟨x.h.ws[j],List.getElem?_eq_getElem hjl⟩
     have htm:=List.mem_of_getElem? ht
     have HT:Hid ((x.h.ws.take (j+1)).all (roadB k rs)=roadB k rs t):=by show _=_;rw [all_take ht,hall2.out,Bool.true_and]
     have HF:Hid (roadB k rs t=false→okI (xs.map (·.h)) rs k=false):=fun q=>by
      have:x.h.ws.all (roadB k rs)=false:=by
       rw [List.all_eq_false]
       exact⟨t,htm,by rw [q];decide⟩
      rw [okI_eq HX.out,this];simp
     have HE:Hid (roadB k rs t=decide (t.rd<along rs k)):=road_along (by
      have:=HH.out
      simp only [hopB,Bool.and_eq_true,List.all_eq_true]at this
      exact this.1 t htm)
     obtain⟨al,hal⟩: ∃al,al=along rs k:=⟨_,rfl⟩
     have HE2:Hid (roadB k rs t=decide (t.rd<al)):=by show _=_;rw [hal];exact HE.out
     have hRA:=fun w'=>roadsAlong (some ⟨b,off,none⟩) aR xs.length cH cR rs k w'
     rw [←hal]at hRA
     have RLx:=((HL0.out.later hB).rows x hxm).l
     clear hal HE hall2
     obtain⟨d,of,ha,hW1⟩: ∃d of,x.aW=some ⟨d,of,none⟩∧ ∀j u,(letE.vals x.h.ws)[j]? =some u→wr.cell? ⟨d,of+j,none⟩=some u:=by
      rcases RLx with h0|h0
      ·simp [h0]at hjl
      ·exact h0
     have d0:wr.cell? ⟨d,of+j*7,none⟩=some (.bool t.bk):=El.Lies.cell hW1 ht (j:=0) rfl
     have d1:wr.cell? ⟨d,of+j*7+1,none⟩=some (.int .i64 t.rd):=El.Lies.cell hW1 ht (j:=1) rfl
     have d2:wr.cell? ⟨d,of+j*7+2,none⟩=some (.int .i64 t.pl):=El.Lies.cell hW1 ht (j:=2) rfl
     have d3:wr.cell? ⟨d,of+j*7+3,none⟩=some (.string t.bs):=El.Lies.cell hW1 ht (j:=3) rfl
     have d4:wr.cell? ⟨d,of+j*7+4,none⟩=some (.bool t.en):=El.Lies.cell hW1 ht (j:=4) rfl
     have d5:wr.cell? ⟨d,of+j*7+5,none⟩=some (.int .i64 t.lm):=El.Lies.cell hW1 ht (j:=5) rfl
     have d6:wr.cell? ⟨d,of+j*7+6,none⟩=some (.bool t.dn):=El.Lies.cell hW1 ht (j:=6) rfl
     clear hW1 RLx ht
     have v7:Var 75 (wr.alloc (.cells #[.bool t.bk,.int .i64 t.rd,.int .i64 t.pl,.string t.bs,.bool t.en,.int .i64 t.lm,.bool t.dn] 75)) wr.heap.size [.bool t.bk,.int .i64 t.rd,.int .i64 t.pl,.string t.bs,.bool t.en,.int .i64 t.lm,.bool t.dn]:=Var.new wr _
     have b2:=(Below.refl wr.heap.size wr).alloc (Nat.le_refl _) (.cells #[.bool t.bk,.int .i64 t.rd,.int .i64 t.pl,.string t.bs,.bool t.en,.int .i64 t.lm,.bool t.dn] 75)
     rw [ha]
     go_upto_region 9 with(fail)
     clear d0 d1 d2 d3 d4 d5 d6 ha
     have hB2:=hB.trans (b2.mono hB.size)
     clear hB b2
     generalize wr.alloc (.cells #[.bool t.bk,.int .i64 t.rd,.int .i64 t.pl,.string t.bs,.bool t.en,.int .i64 t.lm,.bool t.dn] 75)=V3 at *
     have v9:=HV0.out.later hB2
     have c1:=v7.cell (i:=1) rfl
     have c1':=Draw.Later.cell c1
     have e0:=v9.cell (i:=0) rfl
     have e1:=v9.cell (i:=1) rfl
     have e0':=Draw.Later.cell e0
     have e1':=Draw.Later.cell e1
     refine Draw.wp_region_later hmix (by kernel_rfl) ?_
     repeat (go_big_quiet_step ((go_at_call 80;exact Draw.later_of (hRA _))))
     refine wpQuiet_nil ?_
     intro _ hw'
     obtain⟨⟨wq,hBq⟩,hw''⟩:=hw'
     subst hw''
     have hB:=hB2.trans (hBq.mono hB2.size)
     clear hBq c1 c1' e0 e1 e0' e1' v7 v9 hB2 hRA
     by_cases hta:al≤t.rd
     case pos=>
      have hta2: ¬t.rd<al:=by omega
      go_wp2_with fail
      (try rw [Exit.noGoto_ret])
      go_ret
      exact⟨k,rfl,HN.out (HF.out (by rw [HE2.out];simpa using hta)),BV.trans (hB.mono BV.size)⟩
     case neg=>
      have hta2:t.rd<al:=by omega
      go_wp2_with fail
      go_roundw
      case rel=>exact⟨j+1,by omega,by go_num,by show _=_;rw [HT.out,HE2.out];simpa using hta2,hB⟩
      case measure=>simp [intOf];omega
theorem implLineOk (aH aR:Option Addr)(n m cH cR:Nat)(xs:List Ha)(rs:List Rd)(w:World)(hn:n=xs.length)(hm:m=rs.length)(L:LL w aH xs)(R:Roa.E.Lies w aR rs)(hr:rs.length≤1000)(hs: ∀x∈xs,x.h.Sm):
  Calls Tryz.prog 31 #[.agg #[.slice aH n cH,.slice aR m cR]] w fun e w'=>e=.returned (.bool (hopsB (xs.map (·.h)) rs))∧Below w.heap.size w w':=by
 subst hn hm
 have v0:Var 27 (w.alloc (.cells #[.slice aH xs.length cH,.slice aR rs.length cR] 27)) w.heap.size [.slice aH xs.length cH,.slice aR rs.length cR]:=Var.new w _
 have BV:Below w.heap.size w (w.alloc (.cells #[.slice aH xs.length cH,.slice aR rs.length cR] 27)):=(Below.refl _ _).alloc (Nat.le_refl _) _
 have L0:=L.later BV
 have R0:=R.later BV
 have hRo:=fun w' (l':Roa.E.Lies w' aR rs)=>implRoadsOk aR rs.length cR rs w' rfl l' (by omega)
 go_enter Tryz.func31,Tryz.ntmps31
 go_upto_region 1 with(fail)
 generalize w.alloc (.cells #[.slice aH xs.length cH,.slice aR rs.length cR] 27)=V at *
 have e0:=v0.cell (i:=0) rfl
 have e1:=v0.cell (i:=1) rfl
 by_cases h3:xs.length=3
 case neg=>
  have h3i: ¬(xs.length:Int)=3:=by omega
  go_wp2_with fail
  go_ret
  exact⟨Num.ret_bool (hops_len (by simpa using h3)).symm,BV⟩
 have h3i:(xs.length:Int)=3:=by omega
 go_wp2_with fail
 refine(hRo _ R0).mono ?_
 rintro e w1 ⟨rfl,b1⟩
 have B1:Below w.heap.size w w1:=BV.trans (b1.mono BV.size)
 have L1:=L0.later b1
 have v1:=v0.later b1
 clear e0 e1 L0 R0 L R hRo v0 b1
 have H3:Hid (xs.length=3):=h3
 cases hro:roadsB rs
 case false=>
  go_wp2_with fail
  go_ret
  exact⟨Num.ret_bool (hops_roads hro).symm,B1⟩
 have HRO:Hid (roadsB rs=true):=hro
 clear hro h3 h3i
 have e0:=v1.cell (i:=0) rfl
 have e1:=v1.cell (i:=1) rfl
 have hRH:=fun w' l'=>rightHops aH aR cH cR xs rs w' H3.out l' hs
 go_wp2_with fail
 refine(hRH _ L1).mono ?_
 rintro e w2 ⟨q,rfl,hq,b2⟩
 have HQ:Hid _:=hq
 clear hq hRH
 by_cases hq3:q=3
 ·have qi:(q:Int)=3:=by omega
  have HY:Hid _:=HQ.out.1 hq3
  subst hq3
  clear qi
  go_wp2_with fail
  go_ret
  exact⟨Num.ret_bool (hops_yes (by simpa using H3.out) HRO.out HY.out).symm,B1.trans (b2.mono B1.size)⟩
 ·have qi:((q:Int)==3)=false:=by simp;omega
  have HY:Hid (hopsB (xs.map (·.h)) rs=false):=by
   show _=_
   cases hb:hopsB (xs.map (·.h)) rs
   ·rfl
   ·have h:=(hops_okI (xs.map (·.h)) rs).symm.trans hb
    simp only [Bool.and_eq_true,List.all_eq_true,List.mem_range]at h
    exact absurd (HQ.out.2 (fun i hi=>h.2.2 i hi)) hq3
  go_wp2_with fail
  go_ret
  exact⟨Num.ret_bool HY.out.symm,B1.trans (b2.mono B1.size)⟩
end Go.Proofs.YtfejobjgbadfjaaGreat.Lin
