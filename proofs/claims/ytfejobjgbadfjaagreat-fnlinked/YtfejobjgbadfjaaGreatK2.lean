/- Contracts of this seat's functions, and their mathematics (TakB). -/
import Derived.Test.YtfejobjgbadfjaaGreatK1
set_option linter.unusedVariables false
set_option linter.unusedSimpArgs false
set_option maxHeartbeats 4000000
namespace Go.Proofs.YtfejobjgbadfjaaGreat.Tak
open Go.RowKit RowG
theorem specTakerOk (nx:Int)(bs:ByteArray)(a:Option Addr)(n c:Nat)(cp fi:Int)(en:Bool)(l:List Pt)(w:World)(hn:n=l.length)(h:partE.Lies w a l)(hl:l.length≤2097152)(hbs:bs.size≤2097152)(hp: ∀p∈l,p.1≤4611686018427387904∧p.2.size≤2097152):
  Calls Tryz.prog 60 #[.agg #[.int .i64 nx,.string bs,.slice a n c,.int .i64 cp,.int .i64 fi,.bool en]] w fun x w'=>x=.returned (.bool (takerB nx bs l cp fi en))∧Below w.heap.size w w':=by
 subst hn
 have hmix:=mix
 have hbx:=box6 w (.int .i64 nx) (.string bs) (.slice a l.length c) (.int .i64 cp) (.int .i64 fi) (.bool en) 44
 have hVs:Hid (w.heap.size<(w.alloc (.cells #[.int .i64 nx,.string bs,.slice a l.length c,.int .i64 cp,.int .i64 fi,.bool en] 44)).heap.size):=by show _<_;simp
 have BV:Below w.heap.size w (w.alloc (.cells #[.int .i64 nx,.string bs,.slice a l.length c,.int .i64 cp,.int .i64 fi,.bool en] 44)):=(Below.refl _ _).alloc (Nat.le_refl _) _
 have d0:=Draw.Later.cell hbx.1
 have d1:=Draw.Later.cell hbx.2.1
 have d2:=Draw.Later.cell hbx.2.2.1
 have d3:=Draw.Later.cell hbx.2.2.2.1
 have HBX:Hid _:=hbx
 clear hbx
 go_enter Tryz.func60,Tryz.ntmps60
 go_wp2_with fail
 generalize hV:(w.alloc (.cells #[.int .i64 nx,.string bs,.slice a l.length c,.int .i64 cp,.int .i64 fi,.bool en] 44))=V at *
 clear hV
 by_cases hcap:1≤cp∧cp≤400
 case neg=>
  have HF:Hid (takerB nx bs l cp fi en=false):=by show _=_;simp only [takerB];rw [decide_eq_false (fun q=>hcap q.1)];rfl
  have hd:decide (1≤cp∧cp≤400)=false:=decide_eq_false hcap
  clear HBX
  go_wp2_with fail
  refine Draw.wp_region_later hmix (by kernel_rfl) ?_
  repeat (go_big_quiet_step ((go_at_call 57;exact Draw.later_same (l1InEq hd _))))
  refine wpQuiet_nil ?_
  intro wq hw'
  obtain⟨q,hq⟩:=hw'
  have hBq:=q.h
  rw [←hq]at hBq
  clear hq q
  go_wp2_with fail
  go_ret
  exact⟨by rw [HF.out];rfl,BV.trans (hBq.mono BV.size)⟩
 have hdc:decide (1≤cp∧cp≤400)=true:=decide_eq_true hcap
 cases hpl:Num.plB nx
 case false=>
  have HF:Hid (takerB nx bs l cp fi en=false):=by show _=_;simp only [takerB];rw [decide_eq_false (fun q=>by have:=Num.pl_f hpl;exact this q.2.1)];rfl
  clear HBX
  go_wp2_with fail
  refine Draw.wp_region_later hmix (by kernel_rfl) ?_
  repeat (go_big_quiet_step (first|(go_at_call 57;exact Draw.later_same (l1InEq hdc _))|(go_at_call 56;exact Draw.later_same (l1PlaceEq hpl _))))
  refine wpQuiet_nil ?_
  intro wq hw'
  obtain⟨q,hq⟩:=hw'
  have hBq:=q.h
  rw [←hq]at hBq
  clear hq q
  go_wp2_with fail
  go_ret
  exact⟨by rw [HF.out];rfl,BV.trans (hBq.mono BV.size)⟩
 have hnx:=Num.pl_t hpl
 obtain⟨m,hm⟩: ∃m,m=(if cp<nx then cp else nx):=⟨_,rfl⟩
 have hmn: ∀w',Calls Tryz.prog 38 #[.int .i64 cp,.int .i64 nx] w' fun e w''=>e=.returned (.int .i64 m)∧w'=w'':=fun w'=>by rw [hm];exact l1Min cp nx w'
 have hmm:((bs.size:Int)≤m)↔((bs.size:Int)≤cp∧(bs.size:Int)≤nx):=by
  rw [hm]
  split <;>omega
 clear hm
 by_cases hbm:(bs.size:Int)≤m
 case neg=>
  have HF:Hid (takerB nx bs l cp fi en=false):=by show _=_;simp only [takerB];rw [decide_eq_false (fun q=>hbm (hmm.2 q.2.2.1))];rfl
  have hgt:m<(bs.size:Int):=by omega
  clear HBX hmm
  go_wp2_with fail
  refine Draw.wp_region_later hmix (by kernel_rfl) ?_
  repeat (go_big_quiet_step (first|(go_at_call 57;exact Draw.later_same (l1InEq hdc _))|(go_at_call 56;exact Draw.later_same (l1PlaceEq hpl _))|(go_at_call 38;exact Draw.later_same (hmn _))))
  refine wpQuiet_nil ?_
  intro wq hw'
  obtain⟨q,hq⟩:=hw'
  have hBq:=q.h
  rw [←hq]at hBq
  clear hq q
  go_wp2_with fail
  go_ret
  exact⟨by rw [HF.out];rfl,BV.trans (hBq.mono BV.size)⟩
 have hbb:=hmm.1 hbm
 have hng: ¬m<(bs.size:Int):=by omega
 have hngd:decide (m<(bs.size:Int))=false:=decide_eq_false hng
 clear hmm
 by_cases h400:l.length≤400
 case neg=>
  have HF:Hid (takerB nx bs l cp fi en=false):=by show _=_;simp only [takerB];rw [decide_eq_false (fun q=>h400 q.2.2.2)];rfl
  have hgt:(400:Int)<(l.length:Int):=by omega
  clear HBX
  go_wp2_with fail
  refine Draw.wp_region_later hmix (by kernel_rfl) ?_
  repeat (go_big_quiet_step (first|(go_at_call 57;exact Draw.later_same (l1InEq hdc _))|(go_at_call 56;exact Draw.later_same (l1PlaceEq hpl _))|(go_at_call 38;exact Draw.later_same (hmn _))))
  refine wpQuiet_nil ?_
  intro wq hw'
  obtain⟨q,hq⟩:=hw'
  have hBq:=q.h
  rw [←hq]at hBq
  clear hq q
  go_wp2_with fail
  go_ret
  exact⟨by rw [HF.out];rfl,BV.trans (hBq.mono BV.size)⟩
 have hlen: ¬(400:Int)<(l.length:Int):=by omega
 have hlend:decide ((400:Int)<(l.length:Int))=false:=decide_eq_false hlen
 have HT:Hid (takerB nx bs l cp fi en=match scan nx (limT nx bs cp) nx l with|none=>false|some last=>endB fi last nx en):=by show _=_;simp only [takerB];rw [decide_eq_true ⟨hcap,hnx,hbb,h400⟩];rfl
 go_wp2_with fail
 refine Draw.wp_region_later hmix (by kernel_rfl) ?_
 repeat (go_big_quiet_step (first|(go_at_call 57;exact Draw.later_same (l1InEq hdc _))|(go_at_call 56;exact Draw.later_same (l1PlaceEq hpl _))|(go_at_call 38;exact Draw.later_same (hmn _))))
 refine wpQuiet_nil ?_
 intro wq hw'
 obtain⟨q,hq⟩:=hw'
 have hBq:=q.h
 rw [←hq]at hBq
 clear hq q d0 d1 d2 d3
 clear hmn hngd hlend hlen hng hbm hdc hpl
 obtain⟨hn0,hn1⟩:=hnx
 have hV1:=hVs.out
 have e0:=(hBq.cell (p:=⟨w.heap.size,0,none⟩) hV1).trans HBX.out.1
 have e2:=(hBq.cell (p:=⟨w.heap.size,2,none⟩) hV1).trans HBX.out.2.2.1
 generalize hL:limT nx bs cp=L at *
 have HL:Hid (limT nx bs cp=L):=hL
 clear hL
 go_wp2_with fail
 clear e0 e2
 go_loopw [3,4] (fun lv iv wr=> ∃(k:Nat) (last:Int),k≤l.length∧iv=.int .i64 k∧lv=.int .i64 last∧Hid (scan nx L nx l=scan nx L last (l.drop k))∧Below V.heap.size V wr) (fun _ iv _=>l.length-(intOf iv).toNat)
 case atStart=>exact⟨0,nx,Nat.zero_le _,rfl,rfl,rfl,hBq⟩
 case round=>
  clear hBq
  obtain⟨k,last,hk,rfl,rfl,HS,hB⟩:=hrel
  have e0:=(hB.cell (p:=⟨w.heap.size,0,none⟩) hV1).trans HBX.out.1
  have e1:=(hB.cell (p:=⟨w.heap.size,1,none⟩) hV1).trans HBX.out.2.1
  have e2:=(hB.cell (p:=⟨w.heap.size,2,none⟩) hV1).trans HBX.out.2.2.1
  have e3:=(hB.cell (p:=⟨w.heap.size,3,none⟩) hV1).trans HBX.out.2.2.2.1
  have e4:=(hB.cell (p:=⟨w.heap.size,4,none⟩) hV1).trans HBX.out.2.2.2.2.1
  have e5:=(hB.cell (p:=⟨w.heap.size,5,none⟩) hV1).trans HBX.out.2.2.2.2.2
  have BW:Below w.heap.size w wr:=BV.trans (hB.mono BV.size)
  have hwr:w.heap.size<wr.heap.size:=Nat.lt_of_lt_of_le hV1 hB.size
  by_cases hlt:k<l.length
  ·obtain⟨⟨pa,pb⟩,hx⟩: ∃x,l[k]? =some x:=⟨l[k],List.getElem?_eq_getElem hlt⟩
   obtain⟨hpa,hpb⟩:=hp _ (List.mem_of_getElem? hx)
   have hdr:l.drop k=(pa,pb)::l.drop (k+1):=by
    rw [List.drop_eq_getElem_cons hlt]
    rw [List.getElem?_eq_getElem hlt]at hx
    rw [Option.some.inj hx]
   rw [hdr]at HS
   have hL1:=h.later BW
   rcases hL1 with hL1|⟨b,off,ha,hL1⟩
   ·simp [hL1]at hlt
   ·have c0:wr.cell? ⟨b,off+k*2,none⟩=some (.int .i64 pa):=El.Lies.cell hL1 hx (j:=0) rfl
    have c1:wr.cell? ⟨b,off+k*2+1,none⟩=some (.string pb):=El.Lies.cell hL1 hx (j:=1) rfl
    have i0:(0:Int)≤(k:Int):=by omega
    have i1:(k:Int)<(l.length:Int):=by omega
    have hb2:=box2 wr (.int .i64 pa) (.string pb) 123
    have bA:Below wr.heap.size wr (wr.alloc (.cells #[.int .i64 pa,.string pb] 123)):=(Below.refl _ _).alloc (Nat.le_refl _) _
    have HW:Hid (Below w.heap.size w (wr.alloc (.cells #[.int .i64 pa,.string pb] 123))):=BW.trans (bA.mono BW.size)
    have HV:Hid (Below V.heap.size V (wr.alloc (.cells #[.int .i64 pa,.string pb] 123))):=hB.trans (bA.mono hB.size)
    have d0:=Draw.Later.cell ((bA.cell (p:=⟨w.heap.size,0,none⟩) hwr).trans e0)
    have d1:=Draw.Later.cell ((bA.cell (p:=⟨w.heap.size,1,none⟩) hwr).trans e1)
    have d2:=Draw.Later.cell ((bA.cell (p:=⟨w.heap.size,2,none⟩) hwr).trans e2)
    have d3:=Draw.Later.cell ((bA.cell (p:=⟨w.heap.size,3,none⟩) hwr).trans e3)
    have d4:=Draw.Later.cell ((bA.cell (p:=⟨w.heap.size,4,none⟩) hwr).trans e4)
    have d5:=Draw.Later.cell ((bA.cell (p:=⟨w.heap.size,5,none⟩) hwr).trans e5)
    have p0:=Draw.Later.cell hb2.1
    have p1:=Draw.Later.cell hb2.2
    clear bA hb2 hdr hL1 e0 e1 e3 e4 e5
    subst ha
    by_cases hz:1≤(pb.size:Int)∧(pb.size:Int)≤40
    case neg=>
     have HF:Hid (scan nx L last ((pa,pb)::l.drop (k+1))=none):=by show _=_;rw [scan,if_neg (by intro q;have:=q.1;simp only at this;omega)]
     have hd:decide (1≤(pb.size:Int)∧(pb.size:Int)≤40)=false:=decide_eq_false hz
     go_wp2_with fail
     refine Draw.wp_region_later hmix (by kernel_rfl) ?_
     repeat (go_big_quiet_step ((go_at_call 57;exact Draw.later_same (l1InEq hd _))))
     refine wpQuiet_nil ?_
     intro wq hw'
     obtain⟨q,hq⟩:=hw'
     have hBq:=q.h
     rw [←hq]at hBq
     clear hq q
     go_wp2_with fail
     go_ret
     exact⟨by rw [HT.out,HS.out,HF.out];rfl,HW.out.trans (hBq.mono HW.out.size)⟩
    have hd:decide (1≤(pb.size:Int)∧(pb.size:Int)≤40)=true:=decide_eq_true hz
    by_cases h1:pa≤nx
    case pos=>
     have HF:Hid (scan nx L last ((pa,pb)::l.drop (k+1))=none):=by show _=_;rw [scan,if_neg (by intro q;have:=q.2.1;simp only at this;omega)]
     go_wp2_with fail
     refine Draw.wp_region_later hmix (by kernel_rfl) ?_
     repeat (go_big_quiet_step ((go_at_call 57;exact Draw.later_same (l1InEq hd _))))
     refine wpQuiet_nil ?_
     intro wq hw'
     obtain⟨q,hq⟩:=hw'
     have hBq:=q.h
     rw [←hq]at hBq
     clear hq q
     go_wp2_with fail
     go_ret
     exact⟨by rw [HT.out,HS.out,HF.out];rfl,HW.out.trans (hBq.mono HW.out.size)⟩
    have h1d:decide (pa≤nx)=false:=decide_eq_false h1
    by_cases h2:pa<last
    case pos=>
     have HF:Hid (scan nx L last ((pa,pb)::l.drop (k+1))=none):=by show _=_;rw [scan,if_neg (by intro q;have:=q.2.2.1;simp only at this;omega)]
     go_wp2_with fail
     refine Draw.wp_region_later hmix (by kernel_rfl) ?_
     repeat (go_big_quiet_step ((go_at_call 57;exact Draw.later_same (l1InEq hd _))))
     refine wpQuiet_nil ?_
     intro wq hw'
     obtain⟨q,hq⟩:=hw'
     have hBq:=q.h
     rw [←hq]at hBq
     clear hq q
     go_wp2_with fail
     go_ret
     exact⟨by rw [HT.out,HS.out,HF.out];rfl,HW.out.trans (hBq.mono HW.out.size)⟩
    have h2d:decide (pa<last)=false:=decide_eq_false h2
    have hE: ∀q:World,Calls Tryz.prog 81 #[.agg #[.int .i64 pa,.string pb]] q fun x w'=>x=.returned (.int .i64 (endP (pa,pb)))∧Below q.heap.size q w':=fun q=>l5End pa pb q hpa (by omega) (by omega)
    have hLi: ∀q:Draw.Later (wr.alloc (.cells #[.int .i64 pa,.string pb] 123)),Calls Tryz.prog 82 #[.agg #[.int .i64 nx,.string bs,.slice (some ⟨b,off,none⟩) l.length c,.int .i64 cp,.int .i64 fi,.bool en]] q.v fun x w'=>x=.returned (.int .i64 L)∧Below q.v.heap.size q.v w':=fun q=>by rw [←HL.out];exact l5Limit nx bs _ _ _ cp fi en q.v (by omega) (by omega) (by omega)
    have HQ:Hid (scan nx L last ((pa,pb)::l.drop (k+1))=if endP (pa,pb)≤L then scan nx L (endP (pa,pb)) (l.drop (k+1))else none):=by
     show _=_
     rw [scan]
     by_cases q:endP (pa,pb)≤L
     ·rw [if_pos q,if_pos (show(1≤pb.size∧pb.size≤40)∧nx<pa∧last≤pa∧endP (pa,pb)≤L from⟨⟨by omega,by omega⟩,by omega,by omega,q⟩)]
     ·rw [if_neg q,if_neg (fun z=>q z.2.2.2)]
    generalize endP (pa,pb)=Z at *
    by_cases h3:L<Z
    case pos=>
     have HF:Hid (scan nx L last ((pa,pb)::l.drop (k+1))=none):=by show _=_;rw [HQ.out,if_neg (by omega)]
     go_wp2_with fail
     refine Draw.wp_region_later hmix (by kernel_rfl) ?_
     repeat (go_big_quiet_step (first|(go_at_call 57;exact Draw.later_same (l1InEq hd _))|(go_at_call 81;exact Draw.later_of (hE _))|(go_at_call 82;exact Draw.later_of (hLi _))))
     refine wpQuiet_nil ?_
     intro wq hw'
     obtain⟨q,hq⟩:=hw'
     have hBq:=q.h
     rw [←hq]at hBq
     clear hq q
     go_wp2_with fail
     go_ret
     exact⟨by rw [HT.out,HS.out,HF.out];rfl,HW.out.trans (hBq.mono HW.out.size)⟩
    have h3d:decide (L<Z)=false:=decide_eq_false h3
    have HF:Hid (scan nx L nx l=scan nx L Z (l.drop (k+1))):=by show _=_;rw [HS.out,HQ.out,if_pos (by omega)]
    go_wp2_with fail
    refine Draw.wp_region_later hmix (by kernel_rfl) ?_
    repeat (go_big_quiet_step (first|(go_at_call 57;exact Draw.later_same (l1InEq hd _))|(go_at_call 81;exact Draw.later_of (hE _))|(go_at_call 82;exact Draw.later_of (hLi _))))
    refine wpQuiet_nil ?_
    intro wq hw'
    obtain⟨q,hq⟩:=hw'
    have hBq:=q.h
    rw [←hq]at hBq
    have g0:=p0 q
    have g1:=p1 q
    rw [←hq]at g0 g1
    have BQ:=HV.out.trans (hBq.mono HV.out.size)
    clear hq q p0 p1 d0 d1 d2 d3 d4 d5 hLi hBq h1d h2d h3d hd
    go_wp2_with fail
    refine(hE _).mono ?_
    rintro x wz ⟨rfl,bz⟩
    go_wp2_with fail
    go_roundw
    case rel=>exact⟨k+1,Z,by omega,by go_num,rfl,HF,BQ.trans (bz.mono BQ.size)⟩
    case measure=>simp [intOf];omega
  ·have hkl:l.drop k=[]:=List.drop_eq_nil_of_le (by omega)
   rw [hkl]at HS
   have HF:Hid (takerB nx bs l cp fi en=endB fi last nx en):=by show _=_;rw [HT.out,HS.out];rfl
   have i1: ¬(k:Int)<(l.length:Int):=by omega
   clear HS HT hkl hp
   by_cases hf1:fi= -1
   ·subst hf1
    have HE0:endB (-1) last nx en=((en==decide ((-1:Int)=nx))&&Num.plB last):=by simp [endB]
    have hfn: ¬(-1:Int)=nx:=by omega
    cases en
    ·have HE:Hid (takerB nx bs l cp (-1) false=Num.plB last):=by show _=_;rw [HF.out,HE0];simp [hfn]
     have hfn':((-1:Int)==nx)=false:=by simp [hfn]
     clear HF HE0 hfn
     go_wp2_with fail
     refine(Num.l1Place last _).mono ?_
     rintro x wz ⟨rfl,rfl⟩
     go_wp2_with fail
     go_ret
     exact⟨Num.ret_bool HE.out.symm,BW⟩
    ·have HE:Hid (takerB nx bs l cp (-1) true=false):=by show _=_;rw [HF.out,HE0];simp [hfn]
     have hfn':((-1:Int)==nx)=false:=by simp [hfn]
     clear HF HE0 hfn
     go_wp2_with fail
     go_ret
     exact⟨Num.ret_bool HE.out.symm,BW⟩
   ·have hf2:(fi== -1)=false:=by simp [hf1]
    have hf3:(fi != -1)=true:=by simp [hf1]
    cases hpf:Num.plB fi
    ·have HE0:endB fi last nx en=false:=by simp [endB,hf1,hpf]
     have HE:Hid (takerB nx bs l cp fi en=false):=by show _=_;rw [HF.out,HE0]
     clear HF HE0
     go_wp2_with fail
     refine(Num.l1Place fi _).mono ?_
     rintro x wz ⟨rfl,rfl⟩
     rw [hpf]
     go_wp2_with fail
     go_ret
     exact⟨Num.ret_bool HE.out.symm,BW⟩
    ·by_cases hfl:fi<last
     ·have HE0:endB fi last nx en=false:=by
       have: ¬last≤fi:=by omega
       simp [endB,hf1,this]
      have HE:Hid (takerB nx bs l cp fi en=false):=by show _=_;rw [HF.out,HE0]
      clear HF HE0
      go_wp2_with fail
      refine(Num.l1Place fi _).mono ?_
      rintro x wz ⟨rfl,rfl⟩
      rw [hpf]
      go_wp2_with fail
      go_ret
      exact⟨Num.ret_bool HE.out.symm,BW⟩
     ·have HE0:endB fi last nx en=((en==decide (fi=nx))&&Num.plB last):=by
       have:last≤fi:=by omega
       simp [endB,this,hpf]
      go_wp2_with fail
      refine(Num.l1Place fi _).mono ?_
      rintro x wz ⟨rfl,rfl⟩
      rw [hpf]
      clear hpf
      cases en
      ·by_cases hfn:fi=nx
       ·have HE:Hid (takerB nx bs l cp fi false=false):=by show _=_;rw [HF.out,HE0];simp [hfn]
        have hfn':(fi==nx)=true:=by simp [hfn]
        clear HF HE0 hfn
        go_wp2_with fail
        go_ret
        exact⟨Num.ret_bool HE.out.symm,BW⟩
       ·have HE:Hid (takerB nx bs l cp fi false=Num.plB last):=by show _=_;rw [HF.out,HE0];simp [hfn]
        have hfn':(fi==nx)=false:=by simp [hfn]
        clear HF HE0 hfn
        go_wp2_with fail
        refine(Num.l1Place last _).mono ?_
        rintro x wz ⟨rfl,rfl⟩
        go_wp2_with fail
        go_ret
        exact⟨Num.ret_bool HE.out.symm,BW⟩
      ·by_cases hfn:fi=nx
       ·have HE:Hid (takerB nx bs l cp fi true=Num.plB last):=by show _=_;rw [HF.out,HE0];simp [hfn]
        have hfn':(fi==nx)=true:=by simp [hfn]
        clear HF HE0 hfn
        go_wp2_with fail
        refine(Num.l1Place last _).mono ?_
        rintro x wz ⟨rfl,rfl⟩
        go_wp2_with fail
        go_ret
        exact⟨Num.ret_bool HE.out.symm,BW⟩
       ·have HE:Hid (takerB nx bs l cp fi true=false):=by show _=_;rw [HF.out,HE0];simp [hfn]
        have hfn':(fi==nx)=false:=by simp [hfn]
        clear HF HE0 hfn
        go_wp2_with fail
        go_ret
        exact⟨Num.ret_bool HE.out.symm,BW⟩
end Go.Proofs.YtfejobjgbadfjaaGreat.Tak
