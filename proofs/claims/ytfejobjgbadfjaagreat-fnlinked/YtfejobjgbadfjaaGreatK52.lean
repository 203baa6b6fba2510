/- Contracts of this seat's functions, and their mathematics (CouH CouD). -/
import Derived.Test.YtfejobjgbadfjaaGreatK50
import Derived.Test.YtfejobjgbadfjaaGreatK51
set_option linter.unusedVariables false
set_option linter.unusedSimpArgs false
set_option maxRecDepth 10000
set_option maxHeartbeats 8000000
namespace Go.Proofs.YtfejobjgbadfjaaGreat.Cou
open Go.RowKit RowG Hop Lin Wor
def zd:Int×ByteArray:=(0,⟨#[]⟩)
def pairB (j:Nat)(p q:Int×ByteArray):Bool:=if j%2=0 then roadB p.1 p.2 q.1 q.2 else p.1==q.1+q.2.size
def linkD (D:List (Int×ByteArray)):Bool:=(List.range 5).all fun j=>pairB j (D.getD j zd) (D.getD (j+1) zd)
def linkL (hs:List Hp)(rs:List Roa.Rd):Bool:=hopsB hs rs&&linkD (deskL hs)
theorem link_no {D:List (Int×ByteArray)}{j:Nat}(hj:j<5)(h:pairB j (D.getD j zd) (D.getD (j+1) zd)=false):linkD D=false:=by
 unfold linkD
 rw [List.all_eq_false]
 exact⟨j,List.mem_range.2 hj,by rw [h];decide⟩
theorem link_yes {D:List (Int×ByteArray)}(h: ∀j,j<5→pairB j (D.getD j zd) (D.getD (j+1) zd)=true):linkD D=true:=by
 unfold linkD
 rw [List.all_eq_true]
 exact fun j hj=>h j (List.mem_range.1 hj)
theorem implLinked (aH aR:Option Addr)(n m cH cR:Nat)(xs:List Ha)(rs:List Roa.Rd)(w:World)(hn:n=xs.length)(hm:m=rs.length)(L:LL w aH xs)(R:Roa.E.Lies w aR rs)(hr:rs.length≤1000)(hs: ∀x∈xs,x.h.Sm):
  Calls Tryz.prog 6 #[.agg #[.slice aH n cH,.slice aR m cR]] w fun e w'=>e=.returned (.bool (linkL (xs.map (·.h)) rs))∧Below w.heap.size w w':=by
 subst hn hm
 have hmix:=Roa.mix
 have hE:=fun w1 hb hq hkk=>eachDesk 13 (by decide) w.heap.size (w.heap.size+1) 53 (by decide) (fun l w1=>(∃a c,Var 48 w1 (w.heap.size+1) [.slice a l.length c]∧hdE.Own 53 w1 w.heap.size a c l)∧ ∀d∈l,HdAt w1 d∧d.Fine) (fun l w1 w2 b ⟨⟨a,c,h1,h2⟩,h3⟩=>⟨⟨a,c,h1.later b,h2.later b⟩,fun d hd=>⟨(h3 d hd).1.later b,(h3 d hd).2⟩⟩)
  (fun hd l w1 ⟨⟨a,c,h1,h2⟩,h3⟩ hA hf hB hk hl=>(tellHeld (w.heap.size+1) w.heap.size hd a c l w1 h1 h2 hB (Nat.le_succ _) (by omega)).mono (by
   rintro e w2 ⟨rfl,⟨a',c',g1,g2⟩,g3⟩
   have hv: ∀d:Hd,HdAt w1 d→HdAt w2 d:=fun d h=>⟨g3.var _ _ _ h.a (by decide) (var_ne (by decide) h.a h1),g3.var _ _ _ h.b (by decide) (var_ne (by decide) h.b h1)⟩
   refine⟨rfl,⟨⟨a',c',by rw [List.length_append];exact g1,g2⟩,fun d hd'=>?_⟩,g3⟩
   rcases List.mem_append.1 hd' with h|h
   ·exact⟨hv d (h3 d h).1,(h3 d h).2⟩
   ·rw [List.mem_singleton]at h
    subst h
    exact⟨hv d hA,hf⟩)) aH aR cH cR xs rs w w1 rfl hb L R hr hs hq hkk
 have b0:Below w.heap.size w ((w.alloc (.cells #[.slice aH xs.length cH,.slice aR rs.length cR] 27)).alloc (.cells #[.slice none 0 0] 48)):=((Below.refl _ _).alloc (Nat.le_refl _) _).alloc (by simp) _
 have v0:Var 27 ((w.alloc (.cells #[.slice aH xs.length cH,.slice aR rs.length cR] 27)).alloc (.cells #[.slice none 0 0] 48)) w.heap.size [.slice aH xs.length cH,.slice aR rs.length cR]:=(Var.new w _).alloc _
 have v1:Var 48 ((w.alloc (.cells #[.slice aH xs.length cH,.slice aR rs.length cR] 27)).alloc (.cells #[.slice none 0 0] 48)) (w.heap.size+1) [.slice none 0 0]:=by
  have q:=Var.new (T:=48) (w.alloc (.cells #[.slice aH xs.length cH,.slice aR rs.length cR] 27)) [.slice none 0 0]
  simpa using q
 have HL:Hid (linkL (xs.map (·.h)) rs=(hopsB (xs.map (·.h)) rs&&linkD (deskL (xs.map (·.h))))):=rfl
 have HT:Hid (toldL (xs.map (·.h)) rs=if hopsB (xs.map (·.h)) rs then deskL (xs.map (·.h))else []):=rfl
 have H6:Hid (hopsB (xs.map (·.h)) rs=true→(deskL (xs.map (·.h))).length=6):=fun h=>by
  have:=(hops_iff.1 h).1
  rw [deskL_len,this]
 clear L R hr hs
 generalize linkL (xs.map (·.h)) rs=res at *
 generalize toldL (xs.map (·.h)) rs=td at *
 generalize deskL (xs.map (·.h))=D at *
 go_enter Tryz.func6,Tryz.ntmps6
 go_upto_region 2 with(fail)
 generalize ((w.alloc (.cells #[.slice aH xs.length cH,.slice aR rs.length cR] 27)).alloc (.cells #[.slice none 0 0] 48))=V at *
 have e0:=v0.cell (i:=0) rfl
 have e1:=v0.cell (i:=1) rfl
 have hq:=v1.lt
 go_wp2_with fail
 refine(hE V b0 ⟨⟨none,0,v1,El.Own.none _ _⟩,fun d hd=>by cases hd⟩ hq).mono ?_
 rintro e w1 ⟨rfl,l,⟨⟨a,c,v2,o2⟩,hA⟩,hkey,fr⟩
 have b1:=b0.trans fr.bel
 clear e0 e1 hE v0 v1 hq b0 fr
 cases hb:hopsB (xs.map (·.h)) rs
 case false=>
  rw [hb]at HL HT
  obtain rfl:l=[]:=by
   have q:=HT.out
   rw [q]at hkey
   exact List.map_eq_nil_iff.1 hkey
  have c0:=v2.cell (i:=0) rfl
  go_wp2_with fail
  go_loopw [4] (fun iv wr=>iv=.int .i64 0∧wr=w1) (fun _ _=>0)
  case atStart=>exact⟨rfl,rfl⟩
  case round=>
   obtain⟨rfl,rfl⟩:=hrel
   go_wp2_with fail
   go_ret
   exact⟨by rw [HL.out];rfl,b1⟩
 rw [hb]at HL HT H6
 have hl6:l.length=6:=by
  have q:=HT.out
  rw [q]at hkey
  have:=congrArg List.length hkey
  rw [List.length_map]at this
  rw [this]
  exact H6.out rfl
 have HK:Hid (l.map Hd.key=D):=hkey.trans HT.out
 have HH:Hid (∀d∈l,HdAt w1 d∧d.Fine):=hA
 have HL6:Hid (l.length=6):=hl6
 have HV:Hid (Var 48 w1 (w.heap.size+1) [.slice a l.length c]):=v2
 have HO:Hid (hdE.Lies w1 a l):=o2.lies
 have HRES:Hid (res=linkD D):=HL.out
 obtain⟨b,off,rfl⟩: ∃b off,a=some ⟨b,off,none⟩:=by
  rcases HO.out with q|⟨b,off,e,_⟩
  ·rw [q]at hl6;cases hl6
  ·exact⟨b,off,e⟩
 have hcap:=o2.cap
 rw [hl6]at v2
 have HV6:Hid (Var 48 w1 (w.heap.size+1) [.slice (some ⟨b,off,none⟩) 6 c]):=v2
 clear hkey hA HT H6 HL v2 o2 HV hb hl6 hcap
 go_wp2_with fail
 go_loopw [4,5] (fun iv _ wr=> ∃k:Nat,k≤5∧iv=.int .i64 k∧Hid (∀j,j<k→pairB j (D.getD j zd) (D.getD (j+1) zd)=true)∧Below w1.heap.size w1 wr) (fun iv _ _=>5-(intOf iv).toNat)
 case atStart=>exact⟨0,by omega,rfl,fun j hj=>by omega,Below.refl _ _⟩
 case round=>
  obtain⟨k,hk,rfl,HA,b2⟩:=hrel
  have B2:=b1.trans (b2.mono b1.size)
  have v2:=HV6.out.later b2
  have c0:=v2.cell (i:=0) rfl
  by_cases hk5:k<5
  case neg=>
   have i0: ¬(k:Int)+1<6:=by omega
   go_wp2_with fail
   go_ret
   exact⟨by rw [HRES.out,link_yes (fun j hj=>HA.out j (by omega))];rfl,B2⟩
  case pos=>
   have i0:(k:Int)+1<6:=by omega
   have i1:(0:Int)≤(k:Int):=by omega
   have i2:(k:Int)<6:=by omega
   have i3:(0:Int)≤(k:Int)+1:=by omega
   have hlen:=HL6.out
   obtain⟨x,hx⟩: ∃x,l[k]? =some x:=⟨l[k]'(by omega),List.getElem?_eq_getElem _⟩
   obtain⟨y,hy⟩: ∃y,l[k+1]? =some y:=⟨l[k+1]'(by omega),List.getElem?_eq_getElem _⟩
   have hDx:D.getD k zd=x.key:=by rw [←HK.out,List.getD_eq_getElem?_getD,List.getElem?_map,hx];rfl
   have hDy:D.getD (k+1) zd=y.key:=by rw [←HK.out,List.getD_eq_getElem?_getD,List.getElem?_map,hy];rfl
   obtain⟨ax,fx⟩:=HH.out x (List.mem_of_getElem? hx)
   obtain⟨ay,fy⟩:=HH.out y (List.mem_of_getElem? hy)
   have hO:=HO.out.later b2
   have hP:Hid (pairB k (D.getD k zd) (D.getD (k+1) zd)=if k%2=0 then roadB x.st x.bs y.st y.bs else x.st==y.en):=by rw [hDx,hDy];rfl
   obtain⟨hL⟩:Nonempty (∀j u,(hdE.vals l)[j]? =some u→wr.cell? ⟨b,off+j,none⟩=some u):=by
    rcases hO with q|⟨b',off',e,q⟩
    ·rw [q]at hlen;cases hlen
    ·cases e;exact⟨q⟩
   have x0:=Draw.Later.cell (show wr.cell? ⟨b,off+k*3,none⟩=some (.func (.func 53) #[] #[.pointer (some ⟨x.k1,0,none⟩)])from El.Lies.cell hL hx (j:=0) rfl)
   have x1:=Draw.Later.cell (show wr.cell? ⟨b,off+k*3+1,none⟩=some (.func (.func 54) #[] #[.pointer (some ⟨x.k1,0,none⟩),.pointer (some ⟨x.k2,0,none⟩)])from El.Lies.cell hL hx (j:=1) rfl)
   have x2:=Draw.Later.cell (show wr.cell? ⟨b,off+k*3+2,none⟩=some (.func (.func 55) #[] #[.pointer (some ⟨x.k2,0,none⟩),.pointer (some ⟨x.k1,0,none⟩)])from El.Lies.cell hL hx (j:=2) rfl)
   have y0:=Draw.Later.cell (show wr.cell? ⟨b,off+(k+1)*3,none⟩=some (.func (.func 53) #[] #[.pointer (some ⟨y.k1,0,none⟩)])from El.Lies.cell hL hy (j:=0) rfl)
   have y1:=Draw.Later.cell (show wr.cell? ⟨b,off+(k+1)*3+1,none⟩=some (.func (.func 54) #[] #[.pointer (some ⟨y.k1,0,none⟩),.pointer (some ⟨y.k2,0,none⟩)])from El.Lies.cell hL hy (j:=1) rfl)
   have y2:=Draw.Later.cell (show wr.cell? ⟨b,off+(k+1)*3+2,none⟩=some (.func (.func 55) #[] #[.pointer (some ⟨y.k2,0,none⟩),.pointer (some ⟨y.k1,0,none⟩)])from El.Lies.cell hL hy (j:=2) rfl)
   have d0:=Draw.Later.cell c0
   have HRO:=fun p:Draw.Later wr=>roadLinks x y p.1 ((ax.later b2).later p.2) ((ay.later b2).later p.2) fx fy
   have HPO:=fun p:Draw.Later wr=>porterLinks x y p.1 ((ax.later b2).later p.2) ((ay.later b2).later p.2) fx fy
   have HRR:Hid _:=HRO
   have HPP:Hid _:=HPO
   have HXK:Hid (k<5):=hk5
   clear HRO HPO hx hy hDx hDy ax ay fx fy hO hL hlen
   by_cases hp:k%2=0
   case pos=>
    have i4:(k:Int)%2=0:=by omega
    have hPr:Hid (pairB k (D.getD k zd) (D.getD (k+1) zd)=roadB x.st x.bs y.st y.bs):=by show _=_;rw [hP.out,if_pos hp]
    generalize roadB x.st x.bs y.st y.bs=r at *
    clear hP hp HPP
    cases r
    case true=>
     go_wp2_with fail
     refine Draw.wp_region_later hmix (by kernel_rfl) ?_
     repeat (go_big_quiet_step (first|(go_at_call 15;exact Draw.later_of (HRR.out _))|fail))
     refine wpQuiet_nil ?_
     intro _ hw'
     obtain⟨⟨wq,hq⟩,hw''⟩:=hw'
     subst hw''
     go_wp2_with fail
     go_roundw
     case rel=>exact⟨k+1,by have:=HXK.out;omega,by go_num,fun j hj=>(by
      by_cases e:j=k
      ·subst e;exact hPr.out
      ·exact HA.out j (by omega)),b2.trans (hq.mono b2.size)⟩
     case measure=>simp [intOf];omega
    case false=>
     go_wp2_with fail
     refine Draw.wp_region_later hmix (by kernel_rfl) ?_
     repeat (go_big_quiet_step (first|(go_at_call 15;exact Draw.later_of (HRR.out _))|fail))
     refine wpQuiet_nil ?_
     intro _ hw'
     obtain⟨⟨wq,hq⟩,hw''⟩:=hw'
     subst hw''
     go_wp2_with fail
     go_ret
     exact⟨by rw [HRES.out,link_no HXK.out hPr.out];rfl,B2.trans (hq.mono B2.size)⟩
   case neg=>
    have i4: ¬(k:Int)%2=0:=by omega
    have hPr:Hid (pairB k (D.getD k zd) (D.getD (k+1) zd)=(x.st==y.en)):=by show _=_;rw [hP.out,if_neg hp]
    generalize (x.st==y.en)=r at *
    clear hP hp HRR
    cases r
    case true=>
     go_wp2_with fail
     refine Draw.wp_region_later hmix (by kernel_rfl) ?_
     repeat (go_big_quiet_step (first|(go_at_call 14;exact Draw.later_of (HPP.out _))|fail))
     refine wpQuiet_nil ?_
     intro _ hw'
     obtain⟨⟨wq,hq⟩,hw''⟩:=hw'
     subst hw''
     go_wp2_with fail
     go_roundw
     case rel=>exact⟨k+1,by have:=HXK.out;omega,by go_num,fun j hj=>(by
      by_cases e:j=k
      ·subst e;exact hPr.out
      ·exact HA.out j (by omega)),b2.trans (hq.mono b2.size)⟩
     case measure=>simp [intOf];omega
    case false=>
     go_wp2_with fail
     refine Draw.wp_region_later hmix (by kernel_rfl) ?_
     repeat (go_big_quiet_step (first|(go_at_call 14;exact Draw.later_of (HPP.out _))|fail))
     refine wpQuiet_nil ?_
     intro _ hw'
     obtain⟨⟨wq,hq⟩,hw''⟩:=hw'
     subst hw''
     go_wp2_with fail
     go_ret
     exact⟨by rw [HRES.out,link_no HXK.out hPr.out];rfl,B2.trans (hq.mono B2.size)⟩
end Go.Proofs.YtfejobjgbadfjaaGreat.Cou
namespace Go.Proofs.YtfejobjgbadfjaaGreat.Cou
open Go.RowKit RowG Hop Lin Wor
theorem size_one (w:World)(o:Obj):(w.alloc o).heap.size=w.heap.size+1:=by simp
theorem l17Ends (aH aR:Option Addr)(m cH cR:Nat)(xs:List Ha)(rs:List Roa.Rd)(w:World)(L:LL w aH xs)(hb:hopsB (xs.map (·.h)) rs=true):
  Calls Tryz.prog 18 #[.agg #[.slice aH 3 cH,.slice aR m cR]] w fun e w'=> ∃g c,e=.returned (.slice (some ⟨g,0,none⟩) 6 c)∧Roa.EI.Own 2 w' w.heap.size (some ⟨g,0,none⟩) c ((deskL (xs.map (·.h))).map endK)∧Below w.heap.size w w':=by
 have hmix:=Roa.mix
 have HX:Hid (xs.length=3):=by have:=(hops_iff.1 hb).1;rw [List.length_map]at this;exact this
 have HB:Hid (hopsB (xs.map (·.h)) rs=true):=hb
 have HD:Hid (LL w aH xs):=L
 obtain⟨b,off,rfl⟩: ∃b off,aH=some ⟨b,off,none⟩:=by
  rcases L.row with q|⟨b,off,e,_⟩
  ·have:=HX.out;rw [q]at this;simp at this
  ·exact⟨b,off,e⟩
 clear L hb
 have b0:=(Below.refl w.heap.size w).alloc (Nat.le_refl _) (.cells #[.slice (some ⟨b,off,none⟩) 3 cH,.slice aR m cR] 27)
 have v1:Var 27 (w.alloc (.cells #[.slice (some ⟨b,off,none⟩) 3 cH,.slice aR m cR] 27)) w.heap.size [.slice (some ⟨b,off,none⟩) 3 cH,.slice aR m cR]:=Var.new w _
 have z1:=v1.lt
 have o0:Roa.EI.Own 2 ((w.alloc (.cells #[.slice (some ⟨b,off,none⟩) 3 cH,.slice aR m cR] 27)).alloc (.cells #[] 2)) w.heap.size (some ⟨(w.alloc (.cells #[.slice (some ⟨b,off,none⟩) 3 cH,.slice aR m cR] 27)).heap.size,0,none⟩) 0 []:=(Roa.ownI_empty _).mono b0.size
 replace v1:=v1.alloc (.cells #[] 2)
 replace b0:=b0.alloc b0.size (.cells #[] 2)
 have hz3:w.heap.size<((w.alloc (.cells #[.slice (some ⟨b,off,none⟩) 3 cH,.slice aR m cR] 27)).alloc (.cells #[] 2)).heap.size:=by simp;omega
 go_enter Tryz.func18,Tryz.ntmps18
 go_upto_region 2 with(fail)
 simp only [Cou.size_one]at o0
 generalize ((w.alloc (.cells #[.slice (some ⟨b,off,none⟩) 3 cH,.slice aR m cR] 27)).alloc (.cells #[] 2))=V2 at *
 generalize hg0:w.heap.size+1=g0 at *
 clear hg0 z1
 go_wp2_with fail
 go_loopw [3,4] (fun lv iv wr=> ∃(k gI cI:Nat),k≤3∧iv=.int .i64 k∧lv=.slice (some ⟨gI,0,none⟩) (2*k) cI∧Roa.EI.Own 2 wr w.heap.size (some ⟨gI,0,none⟩) cI ((deskL ((xs.map (·.h)).take k)).map endK)∧Var 27 wr w.heap.size [.slice (some ⟨b,off,none⟩) 3 cH,.slice aR m cR]∧Below w.heap.size w wr∧w.heap.size<wr.heap.size) (fun _ iv _=>3-(intOf iv).toNat)
 case atStart=>exact⟨0,g0,0,by omega,rfl,rfl,o0,v1,b0,hz3⟩
 case round=>
  clear o0 v1 b0 hz3
  obtain⟨k,gI,cI,hk,rfl,rfl,o,v1,b1,hz3⟩:=hrel
  by_cases hk3:k<3
  ·have k0:(k:Int)<3:=by omega
   have k1:(0:Int)≤(k:Int):=by omega
   obtain⟨x0,hx⟩: ∃x,xs[k]? =some x:=⟨xs[k]'(by rw [HX.out];exact hk3),List.getElem?_eq_getElem _⟩
   have hxb:=hop_at HB.out hx
   have HG:Hid (Giv.small x0.h.g):=by have q:=Giv.ok_iff.1 (hop_ok hxb).2.1;exact⟨⟨by omega,by omega⟩,by omega⟩
   have hfi:=hop_fine hxb
   have HBD:Hid (-9223372036854775808≤x0.h.t.nx-(x0.h.t.bs.size:Int)∧x0.h.t.nx-(x0.h.t.bs.size:Int)≤9223372036854775807):=⟨by omega,by omega⟩
   have HLn:Hid (((deskL ((xs.map (·.h)).take k)).map endK).length=2*k):=by
    show _=_
    rw [List.length_map,deskL_len,List.length_take,List.length_map,HX.out]
    omega
   have HST:Hid ((deskL ((xs.map (·.h)).take (k+1))).map endK=(deskL ((xs.map (·.h)).take k)).map endK++[(x0.h.g.ba+x0.h.g.bs.size),x0.h.t.nx]):=by
    show _=_
    rw [deskL_step (h:=x0.h) (by simp [hx]),List.map_append]
    simp [deskH,endK]
   generalize (deskL ((xs.map (·.h)).take k)).map endK=ls at *
   have C1: ∀w',Below w.heap.size w w'→ ∀j v,x0.c[j]? =some v→w'.cell? ⟨b,off+k*13+j,none⟩=some v:=fun w' bl j v hv=>El.Lies.cells (HD.out.later bl).row hx j v hv
   clear hx hxb hfi
   have keepW: ∀(q:Nat) (d:Nat→Bool) (w':World),(fun(d:Nat→Bool) (w':World)=>Var 27 w' w.heap.size [.slice (some ⟨b,off,none⟩) 3 cH,.slice aR m cR]∧Below w.heap.size w w'∧w.heap.size<w'.heap.size∧(d 16=false→Roa.EI.Own 2 w' w.heap.size (some ⟨gI,0,none⟩) cI ls)) d w'→q≠16→(fun(d:Nat→Bool) (w':World)=>Var 27 w' w.heap.size [.slice (some ⟨b,off,none⟩) 3 cH,.slice aR m cR]∧Below w.heap.size w w'∧w.heap.size<w'.heap.size∧(d 16=false→Roa.EI.Own 2 w' w.heap.size (some ⟨gI,0,none⟩) cI ls)) (fun j=>j==q||d j) w':=fun q d w' ⟨q1,q2,q3,q4⟩ hq=>⟨q1,q2,q3,fun e=>q4 ((Lin.or_ne (d:=d) (Ne.symm hq)).symm.trans e)⟩
   go_wp2_with fail
   refine RegJ.wp_region_J (W:=(fun(d:Nat→Bool) (w':World)=>Var 27 w' w.heap.size [.slice (some ⟨b,off,none⟩) 3 cH,.slice aR m cR]∧Below w.heap.size w w'∧w.heap.size<w'.heap.size∧(d 16=false→Roa.EI.Own 2 w' w.heap.size (some ⟨gI,0,none⟩) cI ls))) (RegJ.ValE [some (.slice (some ⟨gI,0,none⟩) (2*k) cI),some (.pointer (some ⟨w.heap.size,0,none⟩)),some (.slice (some ⟨b,off,none⟩) 3 cH),some (.int .i64 (k:Int)),some (.pointer (some ⟨b,off+k*13,none⟩)),some (.pointer (some ⟨b,off+k*13,none⟩)),some (Giv.Gv.v x0.h.g),some (.int .i64 (x0.h.g.ba+x0.h.g.bs.size)),some (.pointer (some ⟨w.heap.size,0,none⟩)),some (.slice (some ⟨b,off,none⟩) 3 cH),some (.int .i64 (k:Int)),some (.pointer (some ⟨b,off+k*13,none⟩)),some (.pointer (some ⟨b,off+k*13+6,none⟩)),some (.pointer (some ⟨b,off+k*13+6,none⟩)),some (.int .i64 x0.h.t.nx),none,none,none] ([(15,16,fun v w'=> ∃m,v=Value.slice (some ⟨m,0,none⟩) 2 2∧Var 2 w' m [.int .i64 (x0.h.g.ba+x0.h.g.bs.size),.int .i64 x0.h.t.nx]),(16,16,fun v w'=> ∃g c,v=Value.slice (some ⟨g,0,none⟩) (2*k+2) c∧Roa.EI.Own 2 w' w.heap.size (some ⟨g,0,none⟩) c (ls++[(x0.h.g.ba+x0.h.g.bs.size),x0.h.t.nx])),(17,17,fun v w'=> ∃g c,v=Value.slice (some ⟨g,0,none⟩) (2*k+2) c∧Roa.EI.Own 2 w' w.heap.size (some ⟨g,0,none⟩) c (ls++[(x0.h.g.ba+x0.h.g.bs.size),x0.h.t.nx]))])) [some 10,some 11,some 12,some 13,some 14,some 15,some 16,some 17,some 18,some 19,some 20,some 21,some 22,some 23,some 24,some 25,some 26,some 3] (F:=?_) (is:=[0,1,2,3,4,5,6,7,8,9,10,11,12,13,14,15,16,17]) hmix (by kernel_rfl) (by kernel_rfl) (by kernel_rfl) (by kernel_rfl) (fun x=>?_) (⟨v1.drew,b1.drew,hz3,fun _=>o.drew⟩) ?_ (fun dR xR wR hWR hdR hJR=>?_)
   rotate_left 1
   focus (simp only [RegJ.lay,Act.put,Nat.reduceAdd,Nat.zero_add,Draw.lays];rfl)
   focus
    iterate 18 (refine RegJ.Steps.cons (RegJ.StepAt.mk rfl (fun d x w1 hW1 hJ1 hx1 K hK=>?_)) ?_;simp only [Draw.lays]at hK;rotate_left 1)
    exact RegJ.Steps.nil
    ·have j17:x 17=.slice (some ⟨gI,0,none⟩) (2*k) cI:=(hx1.out 17 (.inr (by kernel_rfl))).2;rw [j17]at hK;go_simp;exact hK.out _ _ (keepW 0 d _ hW1 (by decide)) RegJ.ValE.same (RegJ.ValE.free (Or.inl rfl) rfl)
    ·go_simp;exact hK.out _ _ (keepW 1 d _ hW1 (by decide)) RegJ.ValE.same (RegJ.ValE.free (Or.inl rfl) rfl)
    ·have j1:x 1=_:=(hJ1.out 1 (by kernel_rfl)).val rfl;rw [j1]at hK;have e0:=hW1.1.cell (i:=0) rfl;go_simp;exact hK.out _ _ (keepW 2 d _ hW1 (by decide)) RegJ.ValE.same (RegJ.ValE.free (Or.inl rfl) rfl)
    ·go_simp;exact hK.out _ _ (keepW 3 d _ hW1 (by decide)) RegJ.ValE.same (RegJ.ValE.free (Or.inl rfl) rfl)
    ·have j2:x 2=_:=(hJ1.out 2 (by kernel_rfl)).val rfl;rw [j2]at hK;have j3:x 3=_:=(hJ1.out 3 (by kernel_rfl)).val rfl;rw [j3]at hK;go_simp;exact hK.out _ _ (keepW 4 d _ hW1 (by decide)) RegJ.ValE.same (RegJ.ValE.free (Or.inl rfl) rfl)
    ·have j4:x 4=_:=(hJ1.out 4 (by kernel_rfl)).val rfl;rw [j4]at hK;go_simp;exact hK.out _ _ (keepW 5 d _ hW1 (by decide)) RegJ.ValE.same (RegJ.ValE.free (Or.inl rfl) rfl)
    ·have j5:x 5=_:=(hJ1.out 5 (by kernel_rfl)).val rfl;rw [j5]at hK;have g0:=C1 _ hW1.2.1 0 _ rfl;rw [Nat.add_zero]at g0;have g1:=C1 _ hW1.2.1 1 _ rfl;have g2:=C1 _ hW1.2.1 2 _ rfl;have g3:=C1 _ hW1.2.1 3 _ rfl;have g4:=C1 _ hW1.2.1 4 _ rfl;have g5:=C1 _ hW1.2.1 5 _ rfl;go_simp;exact hK.out _ _ (keepW 6 d _ hW1 (by decide)) RegJ.ValE.same (RegJ.ValE.free (Or.inl rfl) rfl)
    ·have j6:x 6=_:=(hJ1.out 6 (by kernel_rfl)).val rfl;rw [j6]at hK;obtain⟨q1,q2,q3,q4⟩:=id hW1;go_simp;refine(Giv.l6End x0.h.g _ HG.out).mono ?_;rintro e wa ⟨rfl,ba⟩;go_simp;exact hK.out _ _ ⟨q1.later ba,q2.trans (ba.mono q2.size),Nat.lt_of_lt_of_le q3 ba.size,fun e=>(q4 ((Lin.or_ne (d:=d) (n:=16) (q:=7) (by decide)).symm.trans e)).later ba⟩ (keepB (by intro q hq;simp only [List.mem_cons,List.not_mem_nil,or_false]at hq;rcases hq with rfl|rfl|rfl;exact .inr (.inl (hx1.out 15 (.inr (by kernel_rfl))).1);exact .inr (.inl (hx1.out 16 (.inr (by kernel_rfl))).1);exact .inr (.inl (hx1.out 17 (.inr (by kernel_rfl))).1))) (RegJ.ValE.free (Or.inl rfl) rfl)
    ·go_simp;exact hK.out _ _ (keepW 8 d _ hW1 (by decide)) RegJ.ValE.same (RegJ.ValE.free (Or.inl rfl) rfl)
    ·have j8:x 8=_:=(hJ1.out 8 (by kernel_rfl)).val rfl;rw [j8]at hK;have e0:=hW1.1.cell (i:=0) rfl;go_simp;exact hK.out _ _ (keepW 9 d _ hW1 (by decide)) RegJ.ValE.same (RegJ.ValE.free (Or.inl rfl) rfl)
    ·go_simp;exact hK.out _ _ (keepW 10 d _ hW1 (by decide)) RegJ.ValE.same (RegJ.ValE.free (Or.inl rfl) rfl)
    ·have j9:x 9=_:=(hJ1.out 9 (by kernel_rfl)).val rfl;rw [j9]at hK;have j10:x 10=_:=(hJ1.out 10 (by kernel_rfl)).val rfl;rw [j10]at hK;go_simp;exact hK.out _ _ (keepW 11 d _ hW1 (by decide)) RegJ.ValE.same (RegJ.ValE.free (Or.inl rfl) rfl)
    ·have j11:x 11=_:=(hJ1.out 11 (by kernel_rfl)).val rfl;rw [j11]at hK;go_simp;exact hK.out _ _ (keepW 12 d _ hW1 (by decide)) RegJ.ValE.same (RegJ.ValE.free (Or.inl rfl) rfl)
    ·have j12:x 12=_:=(hJ1.out 12 (by kernel_rfl)).val rfl;rw [j12]at hK;go_simp;exact hK.out _ _ (keepW 13 d _ hW1 (by decide)) RegJ.ValE.same (RegJ.ValE.free (Or.inl rfl) rfl)
    ·have j13:x 13=_:=(hJ1.out 13 (by kernel_rfl)).val rfl;rw [j13]at hK;have h6:=C1 _ hW1.2.1 6 _ rfl;go_simp;exact hK.out _ _ (keepW 14 d _ hW1 (by decide)) RegJ.ValE.same (RegJ.ValE.free (Or.inl rfl) rfl)
    ·have j7:x 7=_:=(hJ1.out 7 (by kernel_rfl)).val rfl;rw [j7]at hK;have j14:x 14=_:=(hJ1.out 14 (by kernel_rfl)).val rfl;rw [j14]at hK;obtain⟨q1,q2,q3,q4⟩:=id hW1;go_simp;exact hK.out _ _ ⟨q1.alloc _,q2.alloc q2.size _,by simp;omega,fun e=>(q4 ((Lin.or_ne (d:=d) (n:=16) (q:=15) (by decide)).symm.trans e)).alloc _⟩ (keepB (by intro q hq;simp only [List.mem_cons,List.not_mem_nil,or_false]at hq;rcases hq with rfl|rfl|rfl;exact .inl rfl;exact .inr (.inl (hx1.out 16 (.inr (by kernel_rfl))).1);exact .inr (.inl (hx1.out 17 (.inr (by kernel_rfl))).1))) (RegJ.ValE.got 0 _ _ (Or.inr rfl) rfl rfl ⟨_,rfl,Var.new _ _⟩)
    ·have j0:x 0=_:=(hJ1.out 0 (by kernel_rfl)).val rfl;obtain⟨m,jb,vm⟩:=((hJ1.out 15 (by kernel_rfl)).tie 0 rfl (.inr (hx1.out 16 (.inl rfl)).1));have jb:x 15=_:=jb;obtain⟨q1,q2,q3,q4⟩:=id hW1;have o5:=q4 (hx1.out 16 (.inl rfl)).1;have hg:=(o5.lt _ rfl).1;dsimp only at hg;exact step_appS Roa.tyI (by decide) (by rfl) _ _ (by rfl) w.heap.size gI cI (2*k) ls [(x0.h.g.ba+x0.h.g.bs.size),x0.h.t.nx] HLn.out.symm (by exact j0) o5 (Nat.le_of_lt q3) (some ⟨m,0,none⟩) 2 2 rfl (by exact jb) (two_lies vm) (fun e=>by cases e) (by rw [HLn.out];simp;omega) (fun g' c' w' oA gA=>hK.out _ _ ⟨q1.grown gA (own_free o5 (by decide) q1),q2.grown gA q2.size (own_above o5),Nat.lt_of_lt_of_le q3 gA.size,fun e=>absurd e (by simp)⟩ (keepB (by intro q hq;simp only [List.mem_cons,List.not_mem_nil,or_false]at hq;rcases hq with rfl|rfl|rfl;exact .inr (.inr (.inl ⟨by simp,.inl rfl⟩));exact .inl rfl;exact .inr (.inl (hx1.out 17 (.inr (by kernel_rfl))).1))) (RegJ.ValE.got 1 _ _ (Or.inr rfl) rfl rfl ⟨g',c',rfl,oA⟩))
    ·obtain⟨g',c',ja,oA⟩:=((hJ1.out 16 (by kernel_rfl)).tie 1 rfl (.inl rfl));have ja:x 16=_:=ja;rw [ja]at hK;go_simp;exact hK.out _ _ (keepW 17 d _ hW1 (by decide)) RegJ.ValE.same (RegJ.ValE.got 2 _ _ (Or.inr rfl) rfl rfl ⟨g',c',rfl,oA⟩)
   obtain⟨gN,cN,jl,oN⟩:=(hJR 17 (by simp)).tie 2 rfl (.inl rfl)
   rw [jl]
   obtain⟨q1,q2,q3,-⟩:=hWR
   clear hdR hJR keepW C1 o v1 b1 hz3
   go_wp2_with fail
   go_roundw
   case rel=>exact⟨k+1,gN,cN,by omega,by simp,by rw [show 2*k+2=2*(k+1) by omega],by rw [HST.out];exact oN,q1,q2,q3⟩
   case measure=>simp [intOf] <;>omega
  ·have k0: ¬(k:Int)<3:=by omega
   obtain rfl:k=3:=by omega
   rw [List.take_of_length_le (by rw [List.length_map,HX.out];omega)]at o
   go_wp2_with fail
   go_ret
   exact⟨gI,cI,rfl,o,b1⟩
theorem l17Starts (aH aR:Option Addr)(m cH cR:Nat)(xs:List Ha)(rs:List Roa.Rd)(w:World)(L:LL w aH xs)(hb:hopsB (xs.map (·.h)) rs=true):
  Calls Tryz.prog 17 #[.agg #[.slice aH 3 cH,.slice aR m cR]] w fun e w'=> ∃g c,e=.returned (.slice (some ⟨g,0,none⟩) 6 c)∧Roa.EI.Own 2 w' w.heap.size (some ⟨g,0,none⟩) c ((deskL (xs.map (·.h))).map Prod.fst)∧Below w.heap.size w w':=by
 have hmix:=Roa.mix
 have HX:Hid (xs.length=3):=by have:=(hops_iff.1 hb).1;rw [List.length_map]at this;exact this
 have HB:Hid (hopsB (xs.map (·.h)) rs=true):=hb
 have HD:Hid (LL w aH xs):=L
 obtain⟨b,off,rfl⟩: ∃b off,aH=some ⟨b,off,none⟩:=by
  rcases L.row with q|⟨b,off,e,_⟩
  ·have:=HX.out;rw [q]at this;simp at this
  ·exact⟨b,off,e⟩
 clear L hb
 have b0:=(Below.refl w.heap.size w).alloc (Nat.le_refl _) (.cells #[.slice (some ⟨b,off,none⟩) 3 cH,.slice aR m cR] 27)
 have v1:Var 27 (w.alloc (.cells #[.slice (some ⟨b,off,none⟩) 3 cH,.slice aR m cR] 27)) w.heap.size [.slice (some ⟨b,off,none⟩) 3 cH,.slice aR m cR]:=Var.new w _
 have z1:=v1.lt
 have o0:Roa.EI.Own 2 ((w.alloc (.cells #[.slice (some ⟨b,off,none⟩) 3 cH,.slice aR m cR] 27)).alloc (.cells #[] 2)) w.heap.size (some ⟨(w.alloc (.cells #[.slice (some ⟨b,off,none⟩) 3 cH,.slice aR m cR] 27)).heap.size,0,none⟩) 0 []:=(Roa.ownI_empty _).mono b0.size
 replace v1:=v1.alloc (.cells #[] 2)
 replace b0:=b0.alloc b0.size (.cells #[] 2)
 have hz3:w.heap.size<((w.alloc (.cells #[.slice (some ⟨b,off,none⟩) 3 cH,.slice aR m cR] 27)).alloc (.cells #[] 2)).heap.size:=by simp;omega
 go_enter Tryz.func17,Tryz.ntmps17
 go_upto_region 2 with(fail)
 simp only [Cou.size_one]at o0
 generalize ((w.alloc (.cells #[.slice (some ⟨b,off,none⟩) 3 cH,.slice aR m cR] 27)).alloc (.cells #[] 2))=V2 at *
 generalize hg0:w.heap.size+1=g0 at *
 clear hg0 z1
 go_wp2_with fail
 go_loopw [3,4,5] (fun lv iv _ wr=> ∃(k gI cI:Nat),k≤3∧iv=.int .i64 k∧lv=.slice (some ⟨gI,0,none⟩) (2*k) cI∧Roa.EI.Own 2 wr w.heap.size (some ⟨gI,0,none⟩) cI ((deskL ((xs.map (·.h)).take k)).map Prod.fst)∧Var 27 wr w.heap.size [.slice (some ⟨b,off,none⟩) 3 cH,.slice aR m cR]∧Below w.heap.size w wr∧w.heap.size<wr.heap.size) (fun _ iv _ _=>3-(intOf iv).toNat)
 case atStart=>exact⟨0,g0,0,by omega,rfl,rfl,o0,v1,b0,hz3⟩
 case round=>
  clear o0 v1 b0 hz3
  obtain⟨k,gI,cI,hk,rfl,rfl,o,v1,b1,hz3⟩:=hrel
  by_cases hk3:k<3
  ·have k0:(k:Int)<3:=by omega
   have k1:(0:Int)≤(k:Int):=by omega
   obtain⟨x0,hx⟩: ∃x,xs[k]? =some x:=⟨xs[k]'(by rw [HX.out];exact hk3),List.getElem?_eq_getElem _⟩
   have hxb:=hop_at HB.out hx
   have HG:Hid (Giv.small x0.h.g):=by have q:=Giv.ok_iff.1 (hop_ok hxb).2.1;exact⟨⟨by omega,by omega⟩,by omega⟩
   have hfi:=hop_fine hxb
   have HBD:Hid (-9223372036854775808≤x0.h.t.nx-(x0.h.t.bs.size:Int)∧x0.h.t.nx-(x0.h.t.bs.size:Int)≤9223372036854775807):=⟨by omega,by omega⟩
   have HLn:Hid (((deskL ((xs.map (·.h)).take k)).map Prod.fst).length=2*k):=by
    show _=_
    rw [List.length_map,deskL_len,List.length_take,List.length_map,HX.out]
    omega
   have HST:Hid ((deskL ((xs.map (·.h)).take (k+1))).map Prod.fst=(deskL ((xs.map (·.h)).take k)).map Prod.fst++[x0.h.g.ba,(x0.h.t.nx-x0.h.t.bs.size)]):=by
    show _=_
    rw [deskL_step (h:=x0.h) (by simp [hx]),List.map_append]
    simp [deskH,endK]
   generalize (deskL ((xs.map (·.h)).take k)).map Prod.fst=ls at *
   have C1: ∀w',Below w.heap.size w w'→ ∀j v,x0.c[j]? =some v→w'.cell? ⟨b,off+k*13+j,none⟩=some v:=fun w' bl j v hv=>El.Lies.cells (HD.out.later bl).row hx j v hv
   clear hx hxb hfi
   have c0:=C1 _ b1 6 _ rfl
   have c1:=C1 _ b1 7 _ rfl
   have c2:=C1 _ b1 8 _ rfl
   have c3:=C1 _ b1 9 _ rfl
   have c4:=C1 _ b1 10 _ rfl
   have c5:=C1 _ b1 11 _ rfl
   have e0:=v1.cell (i:=0) rfl
   have v5:Var 44 (wr.alloc (.cells #[.int .i64 x0.h.t.nx,.string x0.h.t.bs,.slice x0.aT x0.h.t.l.length x0.cT,.int .i64 x0.h.t.cp,.int .i64 x0.h.t.fi,.bool x0.h.t.en] 44)) wr.heap.size [.int .i64 x0.h.t.nx,.string x0.h.t.bs,.slice x0.aT x0.h.t.l.length x0.cT,.int .i64 x0.h.t.cp,.int .i64 x0.h.t.fi,.bool x0.h.t.en]:=Var.new wr _
   replace v1:=v1.alloc (.cells #[.int .i64 x0.h.t.nx,.string x0.h.t.bs,.slice x0.aT x0.h.t.l.length x0.cT,.int .i64 x0.h.t.cp,.int .i64 x0.h.t.fi,.bool x0.h.t.en] 44)
   replace o:=o.alloc (.cells #[.int .i64 x0.h.t.nx,.string x0.h.t.bs,.slice x0.aT x0.h.t.l.length x0.cT,.int .i64 x0.h.t.cp,.int .i64 x0.h.t.fi,.bool x0.h.t.en] 44)
   replace b1:=b1.alloc b1.size (.cells #[.int .i64 x0.h.t.nx,.string x0.h.t.bs,.slice x0.aT x0.h.t.l.length x0.cT,.int .i64 x0.h.t.cp,.int .i64 x0.h.t.fi,.bool x0.h.t.en] 44)
   have hz4:w.heap.size<(wr.alloc (.cells #[.int .i64 x0.h.t.nx,.string x0.h.t.bs,.slice x0.aT x0.h.t.l.length x0.cT,.int .i64 x0.h.t.cp,.int .i64 x0.h.t.fi,.bool x0.h.t.en] 44)).heap.size:=by simp;omega
   clear hz3
   go_upto_region 6 with(fail)
   clear c0 c1 c2 c3 c4 c5 e0
   generalize wr.alloc (.cells #[.int .i64 x0.h.t.nx,.string x0.h.t.bs,.slice x0.aT x0.h.t.l.length x0.cT,.int .i64 x0.h.t.cp,.int .i64 x0.h.t.fi,.bool x0.h.t.en] 44)=V5 at *
   generalize wr.heap.size=k5 at *
   have hz3:=hz4
   clear hz4
   have keepW: ∀(q:Nat) (d:Nat→Bool) (w':World),(fun(d:Nat→Bool) (w':World)=>Var 27 w' w.heap.size [.slice (some ⟨b,off,none⟩) 3 cH,.slice aR m cR]∧Below w.heap.size w w'∧w.heap.size<w'.heap.size∧(d 15=false→Roa.EI.Own 2 w' w.heap.size (some ⟨gI,0,none⟩) cI ls)∧Var 44 w' k5 [.int .i64 x0.h.t.nx,.string x0.h.t.bs,.slice x0.aT x0.h.t.l.length x0.cT,.int .i64 x0.h.t.cp,.int .i64 x0.h.t.fi,.bool x0.h.t.en]) d w'→q≠15→(fun(d:Nat→Bool) (w':World)=>Var 27 w' w.heap.size [.slice (some ⟨b,off,none⟩) 3 cH,.slice aR m cR]∧Below w.heap.size w w'∧w.heap.size<w'.heap.size∧(d 15=false→Roa.EI.Own 2 w' w.heap.size (some ⟨gI,0,none⟩) cI ls)∧Var 44 w' k5 [.int .i64 x0.h.t.nx,.string x0.h.t.bs,.slice x0.aT x0.h.t.l.length x0.cT,.int .i64 x0.h.t.cp,.int .i64 x0.h.t.fi,.bool x0.h.t.en]) (fun j=>j==q||d j) w':=fun q d w' ⟨q1,q2,q3,q4,q5⟩ hq=>⟨q1,q2,q3,fun e=>q4 ((Lin.or_ne (d:=d) (Ne.symm hq)).symm.trans e),q5⟩
   refine RegJ.wp_region_J (W:=(fun(d:Nat→Bool) (w':World)=>Var 27 w' w.heap.size [.slice (some ⟨b,off,none⟩) 3 cH,.slice aR m cR]∧Below w.heap.size w w'∧w.heap.size<w'.heap.size∧(d 15=false→Roa.EI.Own 2 w' w.heap.size (some ⟨gI,0,none⟩) cI ls)∧Var 44 w' k5 [.int .i64 x0.h.t.nx,.string x0.h.t.bs,.slice x0.aT x0.h.t.l.length x0.cT,.int .i64 x0.h.t.cp,.int .i64 x0.h.t.fi,.bool x0.h.t.en])) (RegJ.ValE [some (.slice (some ⟨gI,0,none⟩) (2*k) cI),some (.pointer (some ⟨w.heap.size,0,none⟩)),some (.slice (some ⟨b,off,none⟩) 3 cH),some (.int .i64 (k:Int)),some (.pointer (some ⟨b,off+k*13,none⟩)),some (.pointer (some ⟨b,off+k*13,none⟩)),some (.pointer (some ⟨b,off+k*13,none⟩)),some (.int .i64 x0.h.g.ba),some (.pointer (some ⟨k5,0,none⟩)),some (.int .i64 x0.h.t.nx),some (.pointer (some ⟨k5,1,none⟩)),some (.string x0.h.t.bs),some (.int .i64 x0.h.t.bs.size),some (.int .i64 (x0.h.t.nx-x0.h.t.bs.size)),none,none,none] ([(14,15,fun v w'=> ∃m,v=Value.slice (some ⟨m,0,none⟩) 2 2∧Var 2 w' m [.int .i64 x0.h.g.ba,.int .i64 (x0.h.t.nx-x0.h.t.bs.size)]),(15,15,fun v w'=> ∃g c,v=Value.slice (some ⟨g,0,none⟩) (2*k+2) c∧Roa.EI.Own 2 w' w.heap.size (some ⟨g,0,none⟩) c (ls++[x0.h.g.ba,(x0.h.t.nx-x0.h.t.bs.size)])),(16,16,fun v w'=> ∃g c,v=Value.slice (some ⟨g,0,none⟩) (2*k+2) c∧Roa.EI.Own 2 w' w.heap.size (some ⟨g,0,none⟩) c (ls++[x0.h.g.ba,(x0.h.t.nx-x0.h.t.bs.size)]))])) [some 17,some 18,some 19,some 20,some 21,some 22,some 23,some 24,some 25,some 26,some 27,some 28,some 29,some 30,some 31,some 32,some 3] (F:=?_) (is:=[0,1,2,3,4,5,6,7,8,9,10,11,12,13,14,15,16]) hmix (by kernel_rfl) (by kernel_rfl) (by kernel_rfl) (by kernel_rfl) (fun x=>?_) (⟨v1.drew,b1.drew,hz3,fun _=>o.drew,v5.drew⟩) ?_ (fun dR xR wR hWR hdR hJR=>?_)
   rotate_left 1
   focus (simp only [RegJ.lay,Act.put,Nat.reduceAdd,Nat.zero_add,Draw.lays];rfl)
   focus
    iterate 17 (refine RegJ.Steps.cons (RegJ.StepAt.mk rfl (fun d x w1 hW1 hJ1 hx1 K hK=>?_)) ?_;simp only [Draw.lays]at hK;rotate_left 1)
    exact RegJ.Steps.nil
    ·have j16:x 16=.slice (some ⟨gI,0,none⟩) (2*k) cI:=(hx1.out 16 (.inr (by kernel_rfl))).2;rw [j16]at hK;go_simp;exact hK.out _ _ (keepW 0 d _ hW1 (by decide)) RegJ.ValE.same (RegJ.ValE.free (Or.inl rfl) rfl)
    ·go_simp;exact hK.out _ _ (keepW 1 d _ hW1 (by decide)) RegJ.ValE.same (RegJ.ValE.free (Or.inl rfl) rfl)
    ·have j1:x 1=_:=(hJ1.out 1 (by kernel_rfl)).val rfl;rw [j1]at hK;have e0:=hW1.1.cell (i:=0) rfl;go_simp;exact hK.out _ _ (keepW 2 d _ hW1 (by decide)) RegJ.ValE.same (RegJ.ValE.free (Or.inl rfl) rfl)
    ·go_simp;exact hK.out _ _ (keepW 3 d _ hW1 (by decide)) RegJ.ValE.same (RegJ.ValE.free (Or.inl rfl) rfl)
    ·have j2:x 2=_:=(hJ1.out 2 (by kernel_rfl)).val rfl;rw [j2]at hK;have j3:x 3=_:=(hJ1.out 3 (by kernel_rfl)).val rfl;rw [j3]at hK;go_simp;exact hK.out _ _ (keepW 4 d _ hW1 (by decide)) RegJ.ValE.same (RegJ.ValE.free (Or.inl rfl) rfl)
    ·have j4:x 4=_:=(hJ1.out 4 (by kernel_rfl)).val rfl;rw [j4]at hK;go_simp;exact hK.out _ _ (keepW 5 d _ hW1 (by decide)) RegJ.ValE.same (RegJ.ValE.free (Or.inl rfl) rfl)
    ·have j5:x 5=_:=(hJ1.out 5 (by kernel_rfl)).val rfl;rw [j5]at hK;go_simp;exact hK.out _ _ (keepW 6 d _ hW1 (by decide)) RegJ.ValE.same (RegJ.ValE.free (Or.inl rfl) rfl)
    ·have j6:x 6=_:=(hJ1.out 6 (by kernel_rfl)).val rfl;rw [j6]at hK;have h0:=C1 _ hW1.2.1 0 _ rfl;rw [Nat.add_zero]at h0;go_simp;exact hK.out _ _ (keepW 7 d _ hW1 (by decide)) RegJ.ValE.same (RegJ.ValE.free (Or.inl rfl) rfl)
    ·go_simp;exact hK.out _ _ (keepW 8 d _ hW1 (by decide)) RegJ.ValE.same (RegJ.ValE.free (Or.inl rfl) rfl)
    ·have j8:x 8=_:=(hJ1.out 8 (by kernel_rfl)).val rfl;rw [j8]at hK;have t0:=hW1.2.2.2.2.cell (i:=0) rfl;go_simp;exact hK.out _ _ (keepW 9 d _ hW1 (by decide)) RegJ.ValE.same (RegJ.ValE.free (Or.inl rfl) rfl)
    ·go_simp;exact hK.out _ _ (keepW 10 d _ hW1 (by decide)) RegJ.ValE.same (RegJ.ValE.free (Or.inl rfl) rfl)
    ·have j10:x 10=_:=(hJ1.out 10 (by kernel_rfl)).val rfl;rw [j10]at hK;have t1:=hW1.2.2.2.2.cell (i:=1) rfl;go_simp;exact hK.out _ _ (keepW 11 d _ hW1 (by decide)) RegJ.ValE.same (RegJ.ValE.free (Or.inl rfl) rfl)
    ·have j11:x 11=_:=(hJ1.out 11 (by kernel_rfl)).val rfl;rw [j11]at hK;go_simp;exact hK.out _ _ (keepW 12 d _ hW1 (by decide)) RegJ.ValE.same (RegJ.ValE.free (Or.inl rfl) rfl)
    ·have j9:x 9=_:=(hJ1.out 9 (by kernel_rfl)).val rfl;rw [j9]at hK;have j12:x 12=_:=(hJ1.out 12 (by kernel_rfl)).val rfl;rw [j12]at hK;have hw:IntKind.i64.wrap (x0.h.t.nx-(x0.h.t.bs.size:Int))=x0.h.t.nx-(x0.h.t.bs.size:Int):=(by have hbd:=HBD.out;rw [IntKind.wrap_i64];omega);go_simp;exact hK.out _ _ (keepW 13 d _ hW1 (by decide)) RegJ.ValE.same (RegJ.ValE.free (Or.inl rfl) rfl)
    ·have j7:x 7=_:=(hJ1.out 7 (by kernel_rfl)).val rfl;rw [j7]at hK;have j13:x 13=_:=(hJ1.out 13 (by kernel_rfl)).val rfl;rw [j13]at hK;obtain⟨q1,q2,q3,q4,q5⟩:=id hW1;go_simp;exact hK.out _ _ ⟨q1.alloc _,q2.alloc q2.size _,by simp;omega,fun e=>(q4 ((Lin.or_ne (d:=d) (n:=15) (q:=14) (by decide)).symm.trans e)).alloc _,q5.alloc _⟩ (keepB (by intro q hq;simp only [List.mem_cons,List.not_mem_nil,or_false]at hq;rcases hq with rfl|rfl|rfl;exact .inl rfl;exact .inr (.inl (hx1.out 15 (.inr (by kernel_rfl))).1);exact .inr (.inl (hx1.out 16 (.inr (by kernel_rfl))).1))) (RegJ.ValE.got 0 _ _ (Or.inr rfl) rfl rfl ⟨_,rfl,Var.new _ _⟩)
    ·have j0:x 0=_:=(hJ1.out 0 (by kernel_rfl)).val rfl;obtain⟨m,jb,vm⟩:=((hJ1.out 14 (by kernel_rfl)).tie 0 rfl (.inr (hx1.out 15 (.inl rfl)).1));have jb:x 14=_:=jb;obtain⟨q1,q2,q3,q4,q5⟩:=id hW1;have o5:=q4 (hx1.out 15 (.inl rfl)).1;have hg:=(o5.lt _ rfl).1;dsimp only at hg;exact step_appS Roa.tyI (by decide) (by rfl) _ _ (by rfl) w.heap.size gI cI (2*k) ls [x0.h.g.ba,(x0.h.t.nx-x0.h.t.bs.size)] HLn.out.symm (by exact j0) o5 (Nat.le_of_lt q3) (some ⟨m,0,none⟩) 2 2 rfl (by exact jb) (two_lies vm) (fun e=>by cases e) (by rw [HLn.out];simp;omega) (fun g' c' w' oA gA=>hK.out _ _ ⟨q1.grown gA (own_free o5 (by decide) q1),q2.grown gA q2.size (own_above o5),Nat.lt_of_lt_of_le q3 gA.size,fun e=>absurd e (by simp),q5.grown gA (own_free o5 (by decide) q5)⟩ (keepB (by intro q hq;simp only [List.mem_cons,List.not_mem_nil,or_false]at hq;rcases hq with rfl|rfl|rfl;exact .inr (.inr (.inl ⟨by simp,.inl rfl⟩));exact .inl rfl;exact .inr (.inl (hx1.out 16 (.inr (by kernel_rfl))).1))) (RegJ.ValE.got 1 _ _ (Or.inr rfl) rfl rfl ⟨g',c',rfl,oA⟩))
    ·obtain⟨g',c',ja,oA⟩:=((hJ1.out 15 (by kernel_rfl)).tie 1 rfl (.inl rfl));have ja:x 15=_:=ja;rw [ja]at hK;go_simp;exact hK.out _ _ (keepW 16 d _ hW1 (by decide)) RegJ.ValE.same (RegJ.ValE.got 2 _ _ (Or.inr rfl) rfl rfl ⟨g',c',rfl,oA⟩)
   obtain⟨gN,cN,jl,oN⟩:=(hJR 16 (by simp)).tie 2 rfl (.inl rfl)
   rw [jl]
   obtain⟨q1,q2,q3,-,-⟩:=hWR
   clear hdR hJR keepW C1 o v1 b1 hz3
   go_wp2_with fail
   go_roundw
   case rel=>exact⟨k+1,gN,cN,by omega,by simp,by rw [show 2*k+2=2*(k+1) by omega],by rw [HST.out];exact oN,q1,q2,q3⟩
   case measure=>simp [intOf] <;>omega
  ·have k0: ¬(k:Int)<3:=by omega
   obtain rfl:k=3:=by omega
   rw [List.take_of_length_le (by rw [List.length_map,HX.out];omega)]at o
   go_wp2_with fail
   go_ret
   exact⟨gI,cI,rfl,o,b1⟩
end Go.Proofs.YtfejobjgbadfjaaGreat.Cou
