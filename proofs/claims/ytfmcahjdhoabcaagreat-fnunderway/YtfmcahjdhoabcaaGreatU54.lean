/- Contracts of this seat's functions, and their mathematics (CouC CouD StrO CouE LinI CouF). -/
import Derived.Test.YtfmcahjdhoabcaaGreatU53
import Derived.Test.YtfmcahjdhoabcaaGreatU41
import Derived.Test.YtfmcahjdhoabcaaGreatU18
import Derived.Test.YtfmcahjdhoabcaaGreatU23
import Derived.Test.YtfmcahjdhoabcaaGreatU49
set_option linter.unusedVariables false
set_option linter.unusedSimpArgs false
set_option maxRecDepth 10000
set_option maxHeartbeats 8000000
namespace Go.Proofs.YtfmcahjdhoabcaaGreat.Cou
open Go.RowKit RowG Hop Lin Wor
def Hd.key (d:Hd):Int×ByteArray:=(d.st,d.bs)
def deskH (h:Hp):List (Int×ByteArray):=[(h.g.ba,h.g.bs),(h.t.nx-h.t.bs.size,h.t.bs)]
def deskL (hs:List Hp):List (Int×ByteArray):=hs.flatMap deskH
def toldL (hs:List Hp)(rs:List Roa.Rd):List (Int×ByteArray):=if hopsB hs rs then deskL hs else []
theorem deskL_step {hs:List Hp}{k:Nat}{h:Hp}(e:hs[k]? =some h):deskL (hs.take (k+1))=deskL (hs.take k)++deskH h:=by
 rw [List.take_add_one,e]
 simp [deskL]
theorem deskL_len (hs:List Hp):(deskL hs).length=2*hs.length:=by
 induction hs with
 | nil=>rfl
 | cons x hs ih=>simp only [deskL,List.flatMap_cons,List.length_append,List.length_cons]at *;rw [ih];simp [deskH];omega
theorem hop_fine {h:Hp}(hb:hopB h=true):(0≤h.g.ba∧h.g.ba+h.g.bs.size≤1000000000)∧0≤h.t.nx-h.t.bs.size∧h.t.nx≤1000000000:=by
 obtain⟨_,h1,h2,_⟩:=Hop.hop_ok hb
 have q:=Giv.ok_iff.1 h1
 have r:=Tak.taker_in h2
 obtain⟨hin,-,-⟩:=Tak.ok_iff.1 h2
 have r1:=hin.2.1
 have r2:=hin.2.2.1.2
 omega
structure Ea (B kk:Nat)(TE:TypeId)(Q:List Hd→World→Prop)(hs:List Hp)(k:Nat)(w wr:World)(l:List Hd):Prop where
 q:Q l wr
 key:l.map Hd.key=deskL (hs.take k)
 fr:Fr B kk TE w wr
theorem eachDesk (F:FuncId)(hFF:F=28∨F=31∨F=42)(B kk:Nat)(TE:TypeId)(hT:27≠TE∧53≠TE)(Q:List Hd→World→Prop)(hQl: ∀l w1 w2,Below w1.heap.size w1 w2→Q l w1→Q l w2)
  (hF: ∀(hd:Hd) (l:List Hd) (w1:World),Q l w1→HdAt w1 hd→hd.Fine→B≤w1.heap.size→kk<w1.heap.size→l.length≤6→Calls Tryz.prog F #[.agg hd.c.toArray,.pointer (some ⟨kk,0,none⟩)] w1 fun e w'=>e=.returned (.tuple #[])∧Q (l++[hd]) w'∧Fr B kk TE w1 w')
  (aH aR:Option Addr) (cH cR:Nat) (xs:List Ha) (rs:List Roa.Rd) (w0 w:World) (hB:w0.heap.size=B) (b0:Below B w0 w) (L:LL w0 aH xs) (R:Roa.E.Lies w0 aR rs) (hr:rs.length≤1000) (hs: ∀x∈xs,x.h.Sm) (hq:Q [] w) (hkk:kk<w.heap.size):
  Calls Tryz.prog 27 #[.agg #[.slice aH xs.length cH,.slice aR rs.length cR],.func (.func F) #[] #[.pointer (some ⟨kk,0,none⟩)]] w fun e w'=>e=.returned (.tuple #[])∧ ∃l,Q l w'∧l.map Hd.key=toldL (xs.map (·.h)) rs∧Fr B kk TE w w':=by
 subst hB
 rcases hFF with rfl|rfl|rfl
 all_goals
  have hmix:=Roa.mix
  have b1:=(Below.refl w.heap.size w).alloc (Nat.le_refl _) (.cells #[.slice aH xs.length cH,.slice aR rs.length cR] 27)
  have v0:Var 27 (w.alloc (.cells #[.slice aH xs.length cH,.slice aR rs.length cR] 27)) w.heap.size [.slice aH xs.length cH,.slice aR rs.length cR]:=Var.new w _
  have f0:Fr w0.heap.size kk TE w (w.alloc (.cells #[.slice aH xs.length cH,.slice aR rs.length cR] 27)):=Fr.ofLater b0.size b1
  have hq0:=hQl _ _ _ b1 hq
  have B0:=b0.trans (b1.mono b0.size)
  have hne:w.heap.size≠kk:=by omega
  clear b1 hq
  go_enter Tryz.func27,Tryz.ntmps27
  go_upto_region 1 with(fail)
  generalize w.alloc (.cells #[.slice aH xs.length cH,.slice aR rs.length cR] 27)=V at *
  have e0:=v0.cell (i:=0) rfl
  have e1:=v0.cell (i:=1) rfl
  go_wp2_with fail
  refine(implLineOk aH aR xs.length rs.length cH cR xs rs _ rfl rfl (L.later B0) (R.later B0) hr hs).mono ?_
  rintro e w1 ⟨rfl,b1⟩
  replace v0:=v0.later b1
  replace f0:=f0.later b0.size b1
  replace hq0:=hQl _ _ _ b1 hq0
  clear e0 e1 B0
  cases hb:hopsB (xs.map (·.h)) rs
  case false=>
   go_wp2_with fail
   refine bodyPost_ret (results_none rfl _ _ _) rfl ?_
   exact⟨rfl,[],hq0,by rw [toldL,hb];rfl,f0⟩
  have HB:Hid (hopsB (xs.map (·.h)) rs=true):=hb
  clear hb b1
  have H3:Hid (xs.length=3):=by have:=(hops_iff.1 HB.out).1;rw [List.length_map]at this;exact this
  have HL:Hid (LL w0 aH xs):=L
  have HV:Hid (Var 27 w1 w.heap.size [.slice aH xs.length cH,.slice aR rs.length cR]):=v0
  have HF:Hid (Fr w0.heap.size kk TE w w1):=f0
  have HQ:Hid (Q [] w1):=hq0
  have HFF:Hid _:=hF
  have HQL:Hid _:=hQl
  have HW:Hid (w0.heap.size≤w.heap.size):=b0.size
  have HB0:Hid (Below w0.heap.size w0 w):=b0
  have HKK:Hid (kk<w.heap.size):=hkk
  have e0:=v0.cell (i:=0) rfl
  clear L v0 f0 hq0 hF hQl b0 R hr hs hkk
  go_wp2_with fail
  clear e0
  go_loopw [5,12] (fun _ iv wr=> ∃(k:Nat) (l:List Hd),k≤3∧iv=.int .i64 k∧Ea w0.heap.size kk TE Q (xs.map (·.h)) k w wr l) (fun _ iv _=>3-(intOf iv).toNat)
  case atStart=>exact⟨0,[],by omega,rfl,HQ.out,rfl,HF.out⟩
  case round=>
   obtain⟨k,l,hk,rfl,E⟩:=hrel
   by_cases hk3:k<3
   case neg=>
    have i0: ¬(k:Int)<(xs.length:Int):=by rw [H3.out];omega
    go_wp2_with fail
    go_end0
    refine⟨rfl,l,E.q,?_,E.fr⟩
    rw [toldL,HB.out,if_pos rfl,E.key,List.take_of_length_le (by rw [List.length_map,H3.out];omega)]
   case pos=>
    have i0:(k:Int)<(xs.length:Int):=by rw [H3.out];omega
    have i1:(0:Int)≤(k:Int):=by omega
    obtain⟨x,hx⟩: ∃x,xs[k]? =some x:=⟨xs[k]'(by rw [H3.out];exact hk3),List.getElem?_eq_getElem _⟩
    have Bk:=HB0.out.trans E.fr.bel
    have Lr:=HL.out.later Bk
    have hfi:=hop_fine (hop_at HB.out hx)
    have hst:Hid (deskL ((xs.map (·.h)).take (k+1))=deskL ((xs.map (·.h)).take k)++deskH x.h):=deskL_step (h:=x.h) (by simp [hx])
    have hlen:Hid (l.length=2*k):=by
     have:=congrArg List.length E.key
     rw [List.length_map,deskL_len,List.length_take,List.length_map,H3.out]at this
     show _=_
     omega
    obtain⟨b,off,rfl,hL1⟩: ∃b off,aH=some ⟨b,off,none⟩∧ ∀j u,(hopE.vals xs)[j]? =some u→wr.cell? ⟨b,off+j,none⟩=some u:=by
     rcases Lr.row with h0|h0
     ·simp [h0]at hx
     ·exact h0
    have c0:wr.cell? ⟨b,off+k*13,none⟩=some (.int .i64 x.h.g.ba):=El.Lies.cell hL1 hx (j:=0) rfl
    have c1:wr.cell? ⟨b,off+k*13+1,none⟩=some (.string x.h.g.bs):=El.Lies.cell hL1 hx (j:=1) rfl
    have c2:wr.cell? ⟨b,off+k*13+2,none⟩=some (.int .i64 x.h.g.cp):=El.Lies.cell hL1 hx (j:=2) rfl
    have c3:wr.cell? ⟨b,off+k*13+3,none⟩=some (.int .i64 x.h.g.lm):=El.Lies.cell hL1 hx (j:=3) rfl
    have c4:wr.cell? ⟨b,off+k*13+4,none⟩=some (.bool x.h.g.en):=El.Lies.cell hL1 hx (j:=4) rfl
    have c5:wr.cell? ⟨b,off+k*13+5,none⟩=some (.bool x.h.g.dn):=El.Lies.cell hL1 hx (j:=5) rfl
    have c6:wr.cell? ⟨b,off+k*13+6,none⟩=some (.int .i64 x.h.t.nx):=El.Lies.cell hL1 hx (j:=6) rfl
    have c7:wr.cell? ⟨b,off+k*13+7,none⟩=some (.string x.h.t.bs):=El.Lies.cell hL1 hx (j:=7) rfl
    have c8:wr.cell? ⟨b,off+k*13+8,none⟩=some (.slice x.aT x.h.t.l.length x.cT):=El.Lies.cell hL1 hx (j:=8) rfl
    have c9:wr.cell? ⟨b,off+k*13+9,none⟩=some (.int .i64 x.h.t.cp):=El.Lies.cell hL1 hx (j:=9) rfl
    have c10:wr.cell? ⟨b,off+k*13+10,none⟩=some (.int .i64 x.h.t.fi):=El.Lies.cell hL1 hx (j:=10) rfl
    have c11:wr.cell? ⟨b,off+k*13+11,none⟩=some (.bool x.h.t.en):=El.Lies.cell hL1 hx (j:=11) rfl
    have c12:wr.cell? ⟨b,off+k*13+12,none⟩=some (.slice x.aW x.h.ws.length x.cW):=El.Lies.cell hL1 hx (j:=12) rfl
    clear Lr hL1 hx
    have v5:Var 53 (wr.alloc (.cells #[.int .i64 x.h.g.ba,.string x.h.g.bs,.int .i64 x.h.g.cp,.int .i64 x.h.g.lm,.bool x.h.g.en,.bool x.h.g.dn,.int .i64 x.h.t.nx,.string x.h.t.bs,.slice x.aT x.h.t.l.length x.cT,.int .i64 x.h.t.cp,.int .i64 x.h.t.fi,.bool x.h.t.en,.slice x.aW x.h.ws.length x.cW] 53)) wr.heap.size [.int .i64 x.h.g.ba,.string x.h.g.bs,.int .i64 x.h.g.cp,.int .i64 x.h.g.lm,.bool x.h.g.en,.bool x.h.g.dn,.int .i64 x.h.t.nx,.string x.h.t.bs,.slice x.aT x.h.t.l.length x.cT,.int .i64 x.h.t.cp,.int .i64 x.h.t.fi,.bool x.h.t.en,.slice x.aW x.h.ws.length x.cW]:=Var.new wr _
    have b2:=(Below.refl wr.heap.size wr).alloc (Nat.le_refl _) (.cells #[.int .i64 x.h.g.ba,.string x.h.g.bs,.int .i64 x.h.g.cp,.int .i64 x.h.g.lm,.bool x.h.g.en,.bool x.h.g.dn,.int .i64 x.h.t.nx,.string x.h.t.bs,.slice x.aT x.h.t.l.length x.cT,.int .i64 x.h.t.cp,.int .i64 x.h.t.fi,.bool x.h.t.en,.slice x.aW x.h.ws.length x.cW] 53)
    have f2:=E.fr.later HW.out b2
    have q2:=HQL.out _ _ _ b2 E.q
    have hk5:wr.heap.size≠kk:=by have:=E.fr.bel.size;have:=HKK.out;have:=HW.out;omega
    have zB:w0.heap.size≤wr.heap.size:=Bk.size
    have zK:kk<(wr.alloc (.cells #[.int .i64 x.h.g.ba,.string x.h.g.bs,.int .i64 x.h.g.cp,.int .i64 x.h.g.lm,.bool x.h.g.en,.bool x.h.g.dn,.int .i64 x.h.t.nx,.string x.h.t.bs,.slice x.aT x.h.t.l.length x.cT,.int .i64 x.h.t.cp,.int .i64 x.h.t.fi,.bool x.h.t.en,.slice x.aW x.h.ws.length x.cW] 53)).heap.size:=by have:=E.fr.bel.size;have:=HKK.out;have:=b2.size;have:=v5.lt;omega
    have HKEY:Hid (l.map Hd.key=deskL ((xs.map (·.h)).take k)):=E.key
    clear E Bk b2
    go_upto_region 5 with(fail)
    clear c0 c1 c2 c3 c4 c5 c6 c7 c8 c9 c10 c11 c12
    generalize wr.alloc (.cells #[.int .i64 x.h.g.ba,.string x.h.g.bs,.int .i64 x.h.g.cp,.int .i64 x.h.g.lm,.bool x.h.g.en,.bool x.h.g.dn,.int .i64 x.h.t.nx,.string x.h.t.bs,.slice x.aT x.h.t.l.length x.cT,.int .i64 x.h.t.cp,.int .i64 x.h.t.fi,.bool x.h.t.en,.slice x.aW x.h.ws.length x.cW] 53)=V2 at *
    have z2:w0.heap.size≤V2.heap.size:=by have:=v5.lt;omega
    generalize wr.heap.size=k5 at *
    clear zB
    have c0:=v5.cell (i:=0) rfl
    have c1:=v5.cell (i:=1) rfl
    go_wp2_with fail
    refine(heldFrom _ _ _).mono ?_
    rintro e w3 ⟨k1,k2,rfl,hA,b3⟩
    replace v5:=v5.later b3
    replace f2:=f2.later HW.out b3
    replace q2:=HQL.out _ _ _ b3 q2
    replace z2:=Nat.le_trans z2 b3.size
    replace zK:=Nat.lt_of_lt_of_le zK b3.size
    clear c0 c1 b3
    go_wp2_with fail
    refine(HFF.out ⟨k1,k2,x.h.g.ba,x.h.g.bs⟩ l _ q2 hA hfi.1 z2 zK (by rw [hlen.out];omega)).mono ?_
    rintro e w4 ⟨rfl,q4,f4⟩
    have v6:=f4.var _ _ _ v5 hT.2 hk5
    have f6:=f2.trans f4
    have z4:w0.heap.size≤w4.heap.size:=Nat.le_trans z2 f4.bel.size
    have zK4:kk<w4.heap.size:=Nat.lt_of_lt_of_le zK f4.bel.size
    clear v5 f2 q2 f4 z2 zK hA
    go_upto_region 6 with(fail)
    have c6:=v6.cell (i:=6) rfl
    have c7:=v6.cell (i:=7) rfl
    have hbd: -9223372036854775808≤x.h.t.nx-(x.h.t.bs.size:Int)∧x.h.t.nx-(x.h.t.bs.size:Int)≤9223372036854775807:=by omega
    go_wp2_with fail
    refine(heldFrom _ _ _).mono ?_
    rintro e w5 ⟨k3,k4,rfl,hA,b5⟩
    replace f6:=f6.later HW.out b5
    replace q4:=HQL.out _ _ _ b5 q4
    replace z4:=Nat.le_trans z4 b5.size
    replace zK4:=Nat.lt_of_lt_of_le zK4 b5.size
    clear c6 c7 b5 v6
    go_wp2_with fail
    refine(HFF.out ⟨k3,k4,x.h.t.nx-x.h.t.bs.size,x.h.t.bs⟩ _ _ q4 hA ⟨hfi.2.1,by have:=hfi.2.2;show x.h.t.nx-(x.h.t.bs.size:Int)+(x.h.t.bs.size:Int)≤1000000000;omega⟩ z4 zK4 (by rw [List.length_append,hlen.out];simp;omega)).mono ?_
    rintro e w6 ⟨rfl,q5,f5⟩
    have EE:Ea w0.heap.size kk TE Q (xs.map (·.h)) (k+1) w w6 (l++[⟨k1,k2,x.h.g.ba,x.h.g.bs⟩]++[⟨k3,k4,x.h.t.nx-x.h.t.bs.size,x.h.t.bs⟩]):=⟨q5,by rw [List.map_append,List.map_append,HKEY.out,hst.out,List.append_assoc];rfl,f6.trans f5⟩
    clear f6 f5 q4 q5 hA hst hlen HKEY hfi hbd z4 zK4
    go_wp2_with fail
    go_roundw
    case rel=>exact⟨k+1,_,by omega,by go_num,EE⟩
    case measure=>simp [intOf];omega
def endK (p:Int×ByteArray):Int:=p.1+p.2.size
def endsL (hs:List Hp)(rs:List Roa.Rd):List Int:=(toldL hs rs).map endK
def startsL (hs:List Hp)(rs:List Roa.Rd):List Int:=(toldL hs rs).map Prod.fst
theorem implEndsOf (aH aR:Option Addr)(n m cH cR:Nat)(xs:List Ha)(rs:List Roa.Rd)(w:World)(hn:n=xs.length)(hm:m=rs.length)(L:LL w aH xs)(R:Roa.E.Lies w aR rs)(hr:rs.length≤1000)(hs: ∀x∈xs,x.h.Sm):
  Calls Tryz.prog 12 #[.agg #[.slice aH n cH,.slice aR m cR]] w fun e w'=> ∃a c,e=.returned (.slice a (endsL (xs.map (·.h)) rs).length c)∧Roa.EI.Own 2 w' w.heap.size a c (endsL (xs.map (·.h)) rs)∧Below w.heap.size w w':=by
 subst hn hm
 have hE:=fun w1 hb hq hkk=>eachDesk 28 (by decide) w.heap.size (w.heap.size+1) 2 (by decide) (fun l w1=> ∃a c,Var 36 w1 (w.heap.size+1) [.slice a (l.map Hd.en).length c]∧Roa.EI.Own 2 w1 w.heap.size a c (l.map Hd.en)) (fun l w1 w2 b ⟨a,c,h1,h2⟩=>⟨a,c,h1.later b,h2.later b⟩)
  (fun hd l w1 ⟨a,c,h1,h2⟩ hA hf hB hk hl=>(tellEnds (w.heap.size+1) w.heap.size hd a c (l.map Hd.en) w1 h1 h2 hA hf hB (Nat.le_succ _) (by simp;omega)).mono (by
   rintro e w2 ⟨rfl,⟨a',c',g1,g2⟩,g3⟩
   refine⟨rfl,⟨a',c',?_,?_⟩,g3⟩
   ·rw [List.map_append,List.length_append];exact g1
   ·rw [List.map_append];exact g2)) aH aR cH cR xs rs w w1 rfl hb L R hr hs hq hkk
 have b0:Below w.heap.size w ((w.alloc (.cells #[.slice aH xs.length cH,.slice aR rs.length cR] 27)).alloc (.cells #[.slice none 0 0] 36)):=((Below.refl _ _).alloc (Nat.le_refl _) _).alloc (by simp) _
 have v0:Var 27 ((w.alloc (.cells #[.slice aH xs.length cH,.slice aR rs.length cR] 27)).alloc (.cells #[.slice none 0 0] 36)) w.heap.size [.slice aH xs.length cH,.slice aR rs.length cR]:=(Var.new w _).alloc _
 have v1:Var 36 ((w.alloc (.cells #[.slice aH xs.length cH,.slice aR rs.length cR] 27)).alloc (.cells #[.slice none 0 0] 36)) (w.heap.size+1) [.slice none 0 0]:=by
  have q:=Var.new (T:=36) (w.alloc (.cells #[.slice aH xs.length cH,.slice aR rs.length cR] 27)) [.slice none 0 0]
  simpa using q
 clear L R hr hs
 go_enter Tryz.func12,Tryz.ntmps12
 go_upto_region 2 with(fail)
 generalize ((w.alloc (.cells #[.slice aH xs.length cH,.slice aR rs.length cR] 27)).alloc (.cells #[.slice none 0 0] 36))=V at *
 have e0:=v0.cell (i:=0) rfl
 have e1:=v0.cell (i:=1) rfl
 have hq:=v1.lt
 go_wp2_with fail
 refine(hE V b0 ⟨none,0,v1,El.Own.none _ _⟩ hq).mono ?_
 rintro e w1 ⟨rfl,l,⟨a,c,v2,o2⟩,hkey,fr⟩
 have hl:l.map Hd.en=endsL (xs.map (·.h)) rs:=by
  rw [endsL,show(Hd.en:Hd→Int)=endK∘Hd.key from rfl,←List.map_map,hkey]
 rw [hl]at v2 o2
 have b1:=b0.trans fr.bel
 clear e0 e1 hE v0 v1 hq b0 fr hkey hl
 have c0:=v2.cell (i:=0) rfl
 go_wp2_with fail
 go_ret
 exact⟨a,c,rfl,o2,b1⟩
theorem implStartsOf (aH aR:Option Addr)(n m cH cR:Nat)(xs:List Ha)(rs:List Roa.Rd)(w:World)(hn:n=xs.length)(hm:m=rs.length)(L:LL w aH xs)(R:Roa.E.Lies w aR rs)(hr:rs.length≤1000)(hs: ∀x∈xs,x.h.Sm):
  Calls Tryz.prog 14 #[.agg #[.slice aH n cH,.slice aR m cR]] w fun e w'=> ∃a c,e=.returned (.slice a (startsL (xs.map (·.h)) rs).length c)∧Roa.EI.Own 2 w' w.heap.size a c (startsL (xs.map (·.h)) rs)∧Below w.heap.size w w':=by
 subst hn hm
 have hE:=fun w1 hb hq hkk=>eachDesk 31 (by decide) w.heap.size (w.heap.size+1) 2 (by decide) (fun l w1=> ∃a c,Var 36 w1 (w.heap.size+1) [.slice a (l.map Hd.st).length c]∧Roa.EI.Own 2 w1 w.heap.size a c (l.map Hd.st)) (fun l w1 w2 b ⟨a,c,h1,h2⟩=>⟨a,c,h1.later b,h2.later b⟩)
  (fun hd l w1 ⟨a,c,h1,h2⟩ hA hf hB hk hl=>(tellStarts (w.heap.size+1) w.heap.size hd a c (l.map Hd.st) w1 h1 h2 hA hf hB (Nat.le_succ _) (by simp;omega)).mono (by
   rintro e w2 ⟨rfl,⟨a',c',g1,g2⟩,g3⟩
   refine⟨rfl,⟨a',c',?_,?_⟩,g3⟩
   ·rw [List.map_append,List.length_append];exact g1
   ·rw [List.map_append];exact g2)) aH aR cH cR xs rs w w1 rfl hb L R hr hs hq hkk
 have b0:Below w.heap.size w ((w.alloc (.cells #[.slice aH xs.length cH,.slice aR rs.length cR] 27)).alloc (.cells #[.slice none 0 0] 36)):=((Below.refl _ _).alloc (Nat.le_refl _) _).alloc (by simp) _
 have v0:Var 27 ((w.alloc (.cells #[.slice aH xs.length cH,.slice aR rs.length cR] 27)).alloc (.cells #[.slice none 0 0] 36)) w.heap.size [.slice aH xs.length cH,.slice aR rs.length cR]:=(Var.new w _).alloc _
 have v1:Var 36 ((w.alloc (.cells #[.slice aH xs.length cH,.slice aR rs.length cR] 27)).alloc (.cells #[.slice none 0 0] 36)) (w.heap.size+1) [.slice none 0 0]:=by
  have q:=Var.new (T:=36) (w.alloc (.cells #[.slice aH xs.length cH,.slice aR rs.length cR] 27)) [.slice none 0 0]
  simpa using q
 clear L R hr hs
 go_enter Tryz.func14,Tryz.ntmps14
 go_upto_region 2 with(fail)
 generalize ((w.alloc (.cells #[.slice aH xs.length cH,.slice aR rs.length cR] 27)).alloc (.cells #[.slice none 0 0] 36))=V at *
 have e0:=v0.cell (i:=0) rfl
 have e1:=v0.cell (i:=1) rfl
 have hq:=v1.lt
 go_wp2_with fail
 refine(hE V b0 ⟨none,0,v1,El.Own.none _ _⟩ hq).mono ?_
 rintro e w1 ⟨rfl,l,⟨a,c,v2,o2⟩,hkey,fr⟩
 have hl:l.map Hd.st=startsL (xs.map (·.h)) rs:=by
  rw [startsL,show(Hd.st:Hd→Int)=Prod.fst∘Hd.key from rfl,←List.map_map,hkey]
 rw [hl]at v2 o2
 have b1:=b0.trans fr.bel
 clear e0 e1 hE v0 v1 hq b0 fr hkey hl
 have c0:=v2.cell (i:=0) rfl
 go_wp2_with fail
 go_ret
 exact⟨a,c,rfl,o2,b1⟩
end Go.Proofs.YtfmcahjdhoabcaaGreat.Cou
namespace Go.Proofs.YtfmcahjdhoabcaaGreat.Cou
open Go.RowKit RowG Hop Lin Wor
theorem size_one (w:World)(o:Obj):(w.alloc o).heap.size=w.heap.size+1:=by simp
theorem l17Ends (aH aR:Option Addr)(m cH cR:Nat)(xs:List Ha)(rs:List Roa.Rd)(w:World)(L:LL w aH xs)(hb:hopsB (xs.map (·.h)) rs=true):
  Calls Tryz.prog 30 #[.agg #[.slice aH 3 cH,.slice aR m cR]] w fun e w'=> ∃g c,e=.returned (.slice (some ⟨g,0,none⟩) 6 c)∧Roa.EI.Own 2 w' w.heap.size (some ⟨g,0,none⟩) c ((deskL (xs.map (·.h))).map endK)∧Below w.heap.size w w':=by
 have hmix:=Roa.mix
 have HX:Hid (xs.length=3):=by have:=(hops_iff.1 hb).1;rw [List.length_map]at this;exact this
 have HB:Hid (hopsB (xs.map (·.h)) rs=true):=hb
 have HD:Hid (LL w aH xs):=L
 obtain⟨b,off,rfl⟩: ∃b off,aH=some ⟨b,off,none⟩:=by
  rcases L.row with q|⟨b,off,e,_⟩
  ·have:=HX.out;rw [q]at this;simp at this
  ·exact⟨b,off,e⟩
 clear L hb
 have b0:=(Below.refl w.heap.size w).alloc (Nat.le_refl _) (.cells #[.slice (some ⟨b,off,none⟩) 3 cH,.slice aR m cR] 27)
 have v1:Var 27 (w.alloc (.cells #[.slice (some ⟨b,off,none⟩) 3 cH,.slice aR m cR] 27)) w.heap.size [.slice (some ⟨b,off,none⟩) 3 cH,.slice aR m cR]:=Var.new w _
 have z1:=v1.lt
 have o0:Roa.EI.Own 2 ((w.alloc (.cells #[.slice (some ⟨b,off,none⟩) 3 cH,.slice aR m cR] 27)).alloc (.cells #[] 2)) w.heap.size (some ⟨(w.alloc (.cells #[.slice (some ⟨b,off,none⟩) 3 cH,.slice aR m cR] 27)).heap.size,0,none⟩) 0 []:=(Roa.ownI_empty _).mono b0.size
 replace v1:=v1.alloc (.cells #[] 2)
 replace b0:=b0.alloc b0.size (.cells #[] 2)
 have hz3:w.heap.size<((w.alloc (.cells #[.slice (some ⟨b,off,none⟩) 3 cH,.slice aR m cR] 27)).alloc (.cells #[] 2)).heap.size:=by simp;omega
 go_enter Tryz.func30,Tryz.ntmps30
 go_upto_region 2 with(fail)
 simp only [Cou.size_one]at o0
 generalize ((w.alloc (.cells #[.slice (some ⟨b,off,none⟩) 3 cH,.slice aR m cR] 27)).alloc (.cells #[] 2))=V2 at *
 generalize hg0:w.heap.size+1=g0 at *
 clear hg0 z1
 go_wp2_with fail
 go_loopw [3,4] (fun lv iv wr=> ∃(k gI cI:Nat),k≤3∧iv=.int .i64 k∧lv=.slice (some ⟨gI,0,none⟩) (2*k) cI∧Roa.EI.Own 2 wr w.heap.size (some ⟨gI,0,none⟩) cI ((deskL ((xs.map (·.h)).take k)).map endK)∧Var 27 wr w.heap.size [.slice (some ⟨b,off,none⟩) 3 cH,.slice aR m cR]∧Below w.heap.size w wr∧w.heap.size<wr.heap.size) (fun _ iv _=>3-(intOf iv).toNat)
 case atStart=>exact⟨0,g0,0,by omega,rfl,rfl,o0,v1,b0,hz3⟩
 case round=>
  clear o0 v1 b0 hz3
  obtain⟨k,gI,cI,hk,rfl,rfl,o,v1,b1,hz3⟩:=hrel
  by_cases hk3:k<3
  ·have k0:(k:Int)<3:=by omega
   have k1:(0:Int)≤(k:Int):=by omega
   obtain⟨x0,hx⟩: ∃x,xs[k]? =some x:=⟨xs[k]'(by rw [HX.out];exact hk3),List.getElem?_eq_getElem _⟩
   have hxb:=hop_at HB.out hx
   have HG:Hid (Giv.small x0.h.g):=by have q:=Giv.ok_iff.1 (hop_ok hxb).2.1;exact⟨⟨by omega,by omega⟩,by omega⟩
   have hfi:=hop_fine hxb
   have HBD:Hid (-9223372036854775808≤x0.h.t.nx-(x0.h.t.bs.size:Int)∧x0.h.t.nx-(x0.h.t.bs.size:Int)≤9223372036854775807):=⟨by omega,by omega⟩
   have HLn:Hid (((deskL ((xs.map (·.h)).take k)).map endK).length=2*k):=by
    show _=_
    rw [List.length_map,deskL_len,List.length_take,List.length_map,HX.out]
    omega
   have HST:Hid ((deskL ((xs.map (·.h)).take (k+1))).map endK=(deskL ((xs.map (·.h)).take k)).map endK++[(x0.h.g.ba+x0.h.g.bs.size),x0.h.t.nx]):=by
    show _=_
    rw [deskL_step (h:=x0.h) (by simp [hx]),List.map_append]
    simp [deskH,endK]
   generalize (deskL ((xs.map (·.h)).take k)).map endK=ls at *
   have C1: ∀w',Below w.heap.size w w'→ ∀j v,x0.c[j]? =some v→w'.cell? ⟨b,off+k*13+j,none⟩=some v:=fun w' bl j v hv=>El.Lies.cells (HD.out.later bl).row hx j v hv
   clear hx hxb hfi
   have keepW: ∀(q:Nat) (d:Nat→Bool) (w':World),(fun(d:Nat→Bool) (w':World)=>Var 27 w' w.heap.size [.slice (some ⟨b,off,none⟩) 3 cH,.slice aR m cR]∧Below w.heap.size w w'∧w.heap.size<w'.heap.size∧(d 16=false→Roa.EI.Own 2 w' w.heap.size (some ⟨gI,0,none⟩) cI ls)) d w'→q≠16→(fun(d:Nat→Bool) (w':World)=>Var 27 w' w.heap.size [.slice (some ⟨b,off,none⟩) 3 cH,.slice aR m cR]∧Below w.heap.size w w'∧w.heap.size<w'.heap.size∧(d 16=false→Roa.EI.Own 2 w' w.heap.size (some ⟨gI,0,none⟩) cI ls)) (fun j=>j==q||d j) w':=fun q d w' ⟨q1,q2,q3,q4⟩ hq=>⟨q1,q2,q3,fun e=>q4 ((Lin.or_ne (d:=d) (Ne.symm hq)).symm.trans e)⟩
   go_wp2_with fail
   refine RegJ.wp_region_J (W:=(fun(d:Nat→Bool) (w':World)=>Var 27 w' w.heap.size [.slice (some ⟨b,off,none⟩) 3 cH,.slice aR m cR]∧Below w.heap.size w w'∧w.heap.size<w'.heap.size∧(d 16=false→Roa.EI.Own 2 w' w.heap.size (some ⟨gI,0,none⟩) cI ls))) (RegJ.ValE [some (.slice (some ⟨gI,0,none⟩) (2*k) cI),some (.pointer (some ⟨w.heap.size,0,none⟩)),some (.slice (some ⟨b,off,none⟩) 3 cH),some (.int .i64 (k:Int)),some (.pointer (some ⟨b,off+k*13,none⟩)),some (.pointer (some ⟨b,off+k*13,none⟩)),some (Giv.Gv.v x0.h.g),some (.int .i64 (x0.h.g.ba+x0.h.g.bs.size)),some (.pointer (some ⟨w.heap.size,0,none⟩)),some (.slice (some ⟨b,off,none⟩) 3 cH),some (.int .i64 (k:Int)),some (.pointer (some ⟨b,off+k*13,none⟩)),some (.pointer (some ⟨b,off+k*13+6,none⟩)),some (.pointer (some ⟨b,off+k*13+6,none⟩)),some (.int .i64 x0.h.t.nx),none,none,none] ([(15,16,fun v w'=> ∃m,v=Value.slice (some ⟨m,0,none⟩) 2 2∧Var 2 w' m [.int .i64 (x0.h.g.ba+x0.h.g.bs.size),.int .i64 x0.h.t.nx]),(16,16,fun v w'=> ∃g c,v=Value.slice (some ⟨g,0,none⟩) (2*k+2) c∧Roa.EI.Own 2 w' w.heap.size (some ⟨g,0,none⟩) c (ls++[(x0.h.g.ba+x0.h.g.bs.size),x0.h.t.nx])),(17,17,fun v w'=> ∃g c,v=Value.slice (some ⟨g,0,none⟩) (2*k+2) c∧Roa.EI.Own 2 w' w.heap.size (some ⟨g,0,none⟩) c (ls++[(x0.h.g.ba+x0.h.g.bs.size),x0.h.t.nx]))])) [some 10,some 11,some 12,some 13,some 14,some 15,some 16,some 17,some 18,some 19,some 20,some 21,some 22,some 23,some 24,some 25,some 26,some 3] (F:=?_) (is:=[0,1,2,3,4,5,6,7,8,9,10,11,12,13,14,15,16,17]) hmix (by kernel_rfl) (by kernel_rfl) (by kernel_rfl) (by kernel_rfl) (fun x=>?_) (⟨v1.drew,b1.drew,hz3,fun _=>o.drew⟩) ?_ (fun dR xR wR hWR hdR hJR=>?_)
   rotate_left 1
   focus (simp only [RegJ.lay,Act.put,Nat.reduceAdd,Nat.zero_add,Draw.lays];rfl)
   focus
    iterate 18 (refine RegJ.Steps.cons (RegJ.StepAt.mk rfl (fun d x w1 hW1 hJ1 hx1 K hK=>?_)) ?_;simp only [Draw.lays]at hK;rotate_left 1)
    exact RegJ.Steps.nil
    ·have j17:x 17=.slice (some ⟨gI,0,none⟩) (2*k) cI:=(hx1.out 17 (.inr (by kernel_rfl))).2;rw [j17]at hK;go_simp;exact hK.out _ _ (keepW 0 d _ hW1 (by decide)) RegJ.ValE.same (RegJ.ValE.free (Or.inl rfl) rfl)
    ·go_simp;exact hK.out _ _ (keepW 1 d _ hW1 (by decide)) RegJ.ValE.same (RegJ.ValE.free (Or.inl rfl) rfl)
    ·have j1:x 1=_:=(hJ1.out 1 (by kernel_rfl)).val rfl;rw [j1]at hK;have e0:=hW1.1.cell (i:=0) rfl;go_simp;exact hK.out _ _ (keepW 2 d _ hW1 (by decide)) RegJ.ValE.same (RegJ.ValE.free (Or.inl rfl) rfl)
    ·go_simp;exact hK.out _ _ (keepW 3 d _ hW1 (by decide)) RegJ.ValE.same (RegJ.ValE.free (Or.inl rfl) rfl)
    ·have j2:x 2=_:=(hJ1.out 2 (by kernel_rfl)).val rfl;rw [j2]at hK;have j3:x 3=_:=(hJ1.out 3 (by kernel_rfl)).val rfl;rw [j3]at hK;go_simp;exact hK.out _ _ (keepW 4 d _ hW1 (by decide)) RegJ.ValE.same (RegJ.ValE.free (Or.inl rfl) rfl)
    ·have j4:x 4=_:=(hJ1.out 4 (by kernel_rfl)).val rfl;rw [j4]at hK;go_simp;exact hK.out _ _ (keepW 5 d _ hW1 (by decide)) RegJ.ValE.same (RegJ.ValE.free (Or.inl rfl) rfl)
    ·have j5:x 5=_:=(hJ1.out 5 (by kernel_rfl)).val rfl;rw [j5]at hK;have g0:=C1 _ hW1.2.1 0 _ rfl;rw [Nat.add_zero]at g0;have g1:=C1 _ hW1.2.1 1 _ rfl;have g2:=C1 _ hW1.2.1 2 _ rfl;have g3:=C1 _ hW1.2.1 3 _ rfl;have g4:=C1 _ hW1.2.1 4 _ rfl;have g5:=C1 _ hW1.2.1 5 _ rfl;go_simp;exact hK.out _ _ (keepW 6 d _ hW1 (by decide)) RegJ.ValE.same (RegJ.ValE.free (Or.inl rfl) rfl)
    ·have j6:x 6=_:=(hJ1.out 6 (by kernel_rfl)).val rfl;rw [j6]at hK;obtain⟨q1,q2,q3,q4⟩:=id hW1;go_simp;refine(Giv.l6End x0.h.g _ HG.out).mono ?_;rintro e wa ⟨rfl,ba⟩;go_simp;exact hK.out _ _ ⟨q1.later ba,q2.trans (ba.mono q2.size),Nat.lt_of_lt_of_le q3 ba.size,fun e=>(q4 ((Lin.or_ne (d:=d) (n:=16) (q:=7) (by decide)).symm.trans e)).later ba⟩ (keepB (by intro q hq;simp only [List.mem_cons,List.not_mem_nil,or_false]at hq;rcases hq with rfl|rfl|rfl;exact .inr (.inl (hx1.out 15 (.inr (by kernel_rfl))).1);exact .inr (.inl (hx1.out 16 (.inr (by kernel_rfl))).1);exact .inr (.inl (hx1.out 17 (.inr (by kernel_rfl))).1))) (RegJ.ValE.free (Or.inl rfl) rfl)
    ·go_simp;exact hK.out _ _ (keepW 8 d _ hW1 (by decide)) RegJ.ValE.same (RegJ.ValE.free (Or.inl rfl) rfl)
    ·have j8:x 8=_:=(hJ1.out 8 (by kernel_rfl)).val rfl;rw [j8]at hK;have e0:=hW1.1.cell (i:=0) rfl;go_simp;exact hK.out _ _ (keepW 9 d _ hW1 (by decide)) RegJ.ValE.same (RegJ.ValE.free (Or.inl rfl) rfl)
    ·go_simp;exact hK.out _ _ (keepW 10 d _ hW1 (by decide)) RegJ.ValE.same (RegJ.ValE.free (Or.inl rfl) rfl)
    ·have j9:x 9=_:=(hJ1.out 9 (by kernel_rfl)).val rfl;rw [j9]at hK;have j10:x 10=_:=(hJ1.out 10 (by kernel_rfl)).val rfl;rw [j10]at hK;go_simp;exact hK.out _ _ (keepW 11 d _ hW1 (by decide)) RegJ.ValE.same (RegJ.ValE.free (Or.inl rfl) rfl)
    ·have j11:x 11=_:=(hJ1.out 11 (by kernel_rfl)).val rfl;rw [j11]at hK;go_simp;exact hK.out _ _ (keepW 12 d _ hW1 (by decide)) RegJ.ValE.same (RegJ.ValE.free (Or.inl rfl) rfl)
    ·have j12:x 12=_:=(hJ1.out 12 (by kernel_rfl)).val rfl;rw [j12]at hK;go_simp;exact hK.out _ _ (keepW 13 d _ hW1 (by decide)) RegJ.ValE.same (RegJ.ValE.free (Or.inl rfl) rfl)
    ·have j13:x 13=_:=(hJ1.out 13 (by kernel_rfl)).val rfl;rw [j13]at hK;have h6:=C1 _ hW1.2.1 6 _ rfl;go_simp;exact hK.out _ _ (keepW 14 d _ hW1 (by decide)) RegJ.ValE.same (RegJ.ValE.free (Or.inl rfl) rfl)
    ·have j7:x 7=_:=(hJ1.out 7 (by kernel_rfl)).val rfl;rw [j7]at hK;have j14:x 14=_:=(hJ1.out 14 (by kernel_rfl)).val rfl;rw [j14]at hK;obtain⟨q1,q2,q3,q4⟩:=id hW1;go_simp;exact hK.out _ _ ⟨q1.alloc _,q2.alloc q2.size _,by simp;omega,fun e=>(q4 ((Lin.or_ne (d:=d) (n:=16) (q:=15) (by decide)).symm.trans e)).alloc _⟩ (keepB (by intro q hq;simp only [List.mem_cons,List.not_mem_nil,or_false]at hq;rcases hq with rfl|rfl|rfl;exact .inl rfl;exact .inr (.inl (hx1.out 16 (.inr (by kernel_rfl))).1);exact .inr (.inl (hx1.out 17 (.inr (by kernel_rfl))).1))) (RegJ.ValE.got 0 _ _ (Or.inr rfl) rfl rfl ⟨_,rfl,Var.new _ _⟩)
    ·have j0:x 0=_:=(hJ1.out 0 (by kernel_rfl)).val rfl;obtain⟨m,jb,vm⟩:=((hJ1.out 15 (by kernel_rfl)).tie 0 rfl (.inr (hx1.out 16 (.inl rfl)).1));have jb:x 15=_:=jb;obtain⟨q1,q2,q3,q4⟩:=id hW1;have o5:=q4 (hx1.out 16 (.inl rfl)).1;have hg:=(o5.lt _ rfl).1;dsimp only at hg;exact step_appS Roa.tyI (by decide) (by rfl) _ _ (by rfl) w.heap.size gI cI (2*k) ls [(x0.h.g.ba+x0.h.g.bs.size),x0.h.t.nx] HLn.out.symm (by exact j0) o5 (Nat.le_of_lt q3) (some ⟨m,0,none⟩) 2 2 rfl (by exact jb) (two_lies vm) (fun e=>by cases e) (by rw [HLn.out];simp;omega) (fun g' c' w' oA gA=>hK.out _ _ ⟨q1.grown gA (own_free o5 (by decide) q1),q2.grown gA q2.size (own_above o5),Nat.lt_of_lt_of_le q3 gA.size,fun e=>absurd e (by simp)⟩ (keepB (by intro q hq;simp only [List.mem_cons,List.not_mem_nil,or_false]at hq;rcases hq with rfl|rfl|rfl;exact .inr (.inr (.inl ⟨by simp,.inl rfl⟩));exact .inl rfl;exact .inr (.inl (hx1.out 17 (.inr (by kernel_rfl))).1))) (RegJ.ValE.got 1 _ _ (Or.inr rfl) rfl rfl ⟨g',c',rfl,oA⟩))
    ·obtain⟨g',c',ja,oA⟩:=((hJ1.out 16 (by kernel_rfl)).tie 1 rfl (.inl rfl));have ja:x 16=_:=ja;rw [ja]at hK;go_simp;exact hK.out _ _ (keepW 17 d _ hW1 (by decide)) RegJ.ValE.same (RegJ.ValE.got 2 _ _ (Or.inr rfl) rfl rfl ⟨g',c',rfl,oA⟩)
   obtain⟨gN,cN,jl,oN⟩:=(hJR 17 (by simp)).tie 2 rfl (.inl rfl)
   rw [jl]
   obtain⟨q1,q2,q3,-⟩:=hWR
   clear hdR hJR keepW C1 o v1 b1 hz3
   go_wp2_with fail
   go_roundw
   case rel=>exact⟨k+1,gN,cN,by omega,by simp,by rw [show 2*k+2=2*(k+1) by omega],by rw [HST.out];exact oN,q1,q2,q3⟩
   case measure=>simp [intOf] <;>omega
  ·have k0: ¬(k:Int)<3:=by omega
   obtain rfl:k=3:=by omega
   rw [List.take_of_length_le (by rw [List.length_map,HX.out];omega)]at o
   go_wp2_with fail
   go_ret
   exact⟨gI,cI,rfl,o,b1⟩
theorem l17Starts (aH aR:Option Addr)(m cH cR:Nat)(xs:List Ha)(rs:List Roa.Rd)(w:World)(L:LL w aH xs)(hb:hopsB (xs.map (·.h)) rs=true):
  Calls Tryz.prog 32 #[.agg #[.slice aH 3 cH,.slice aR m cR]] w fun e w'=> ∃g c,e=.returned (.slice (some ⟨g,0,none⟩) 6 c)∧Roa.EI.Own 2 w' w.heap.size (some ⟨g,0,none⟩) c ((deskL (xs.map (·.h))).map Prod.fst)∧Below w.heap.size w w':=by
 have hmix:=Roa.mix
 have HX:Hid (xs.length=3):=by have:=(hops_iff.1 hb).1;rw [List.length_map]at this;exact this
 have HB:Hid (hopsB (xs.map (·.h)) rs=true):=hb
 have HD:Hid (LL w aH xs):=L
 obtain⟨b,off,rfl⟩: ∃b off,aH=some ⟨b,off,none⟩:=by
  rcases L.row with q|⟨b,off,e,_⟩
  ·have:=HX.out;rw [q]at this;simp at this
  ·exact⟨b,off,e⟩
 clear L hb
 have b0:=(Below.refl w.heap.size w).alloc (Nat.le_refl _) (.cells #[.slice (some ⟨b,off,none⟩) 3 cH,.slice aR m cR] 27)
 have v1:Var 27 (w.alloc (.cells #[.slice (some ⟨b,off,none⟩) 3 cH,.slice aR m cR] 27)) w.heap.size [.slice (some ⟨b,off,none⟩) 3 cH,.slice aR m cR]:=Var.new w _
 have z1:=v1.lt
 have o0:Roa.EI.Own 2 ((w.alloc (.cells #[.slice (some ⟨b,off,none⟩) 3 cH,.slice aR m cR] 27)).alloc (.cells #[] 2)) w.heap.size (some ⟨(w.alloc (.cells #[.slice (some ⟨b,off,none⟩) 3 cH,.slice aR m cR] 27)).heap.size,0,none⟩) 0 []:=(Roa.ownI_empty _).mono b0.size
 replace v1:=v1.alloc (.cells #[] 2)
 replace b0:=b0.alloc b0.size (.cells #[] 2)
 have hz3:w.heap.size<((w.alloc (.cells #[.slice (some ⟨b,off,none⟩) 3 cH,.slice aR m cR] 27)).alloc (.cells #[] 2)).heap.size:=by simp;omega
 go_enter Tryz.func32,Tryz.ntmps32
 go_upto_region 2 with(fail)
 simp only [Cou.size_one]at o0
 generalize ((w.alloc (.cells #[.slice (some ⟨b,off,none⟩) 3 cH,.slice aR m cR] 27)).alloc (.cells #[] 2))=V2 at *
 generalize hg0:w.heap.size+1=g0 at *
 clear hg0 z1
 go_wp2_with fail
 go_loopw [3,4,5] (fun lv iv _ wr=> ∃(k gI cI:Nat),k≤3∧iv=.int .i64 k∧lv=.slice (some ⟨gI,0,none⟩) (2*k) cI∧Roa.EI.Own 2 wr w.heap.size (some ⟨gI,0,none⟩) cI ((deskL ((xs.map (·.h)).take k)).map Prod.fst)∧Var 27 wr w.heap.size [.slice (some ⟨b,off,none⟩) 3 cH,.slice aR m cR]∧Below w.heap.size w wr∧w.heap.size<wr.heap.size) (fun _ iv _ _=>3-(intOf iv).toNat)
 case atStart=>exact⟨0,g0,0,by omega,rfl,rfl,o0,v1,b0,hz3⟩
 case round=>
  clear o0 v1 b0 hz3
  obtain⟨k,gI,cI,hk,rfl,rfl,o,v1,b1,hz3⟩:=hrel
  by_cases hk3:k<3
  ·have k0:(k:Int)<3:=by omega
   have k1:(0:Int)≤(k:Int):=by omega
   obtain⟨x0,hx⟩: ∃x,xs[k]? =some x:=⟨xs[k]'(by rw [HX.out];exact hk3),List.getElem?_eq_getElem _⟩
   have hxb:=hop_at HB.out hx
   have HG:Hid (Giv.small x0.h.g):=by have q:=Giv.ok_iff.1 (hop_ok hxb).2.1;exact⟨⟨by omega,by omega⟩,by omega⟩
   have hfi:=hop_fine hxb
   have HBD:Hid (-9223372036854775808≤x0.h.t.nx-(x0.h.t.bs.size:Int)∧x0.h.t.nx-(x0.h.t.bs.size:Int)≤9223372036854775807):=⟨by omega,by omega⟩
   have HLn:Hid (((deskL ((xs.map (·.h)).take k)).map Prod.fst).length=2*k):=by
    show _=_
    rw [List.length_map,deskL_len,List.length_take,List.length_map,HX.out]
    omega
   have HST:Hid ((deskL ((xs.map (·.h)).take (k+1))).map Prod.fst=(deskL ((xs.map (·.h)).take k)).map Prod.fst++[x0.h.g.ba,(x0.h.t.nx-x0.h.t.bs.size)]):=by
    show _=_
    rw [deskL_step (h:=x0.h) (by simp [hx]),List.map_append]
    simp [deskH,endK]
   generalize (deskL ((xs.map (·.h)).take k)).map Prod.fst=ls at *
   have C1: ∀w',Below w.heap.size w w'→ ∀j v,x0.c[j]? =some v→w'.cell? ⟨b,off+k*13+j,none⟩=some v:=fun w' bl j v hv=>El.Lies.cells (HD.out.later bl).row hx j v hv
   clear hx hxb hfi
   have c0:=C1 _ b1 6 _ rfl
   have c1:=C1 _ b1 7 _ rfl
   have c2:=C1 _ b1 8 _ rfl
   have c3:=C1 _ b1 9 _ rfl
   have c4:=C1 _ b1 10 _ rfl
   have c5:=C1 _ b1 11 _ rfl
   have e0:=v1.cell (i:=0) rfl
   have v5:Var 50 (wr.alloc (.cells #[.int .i64 x0.h.t.nx,.string x0.h.t.bs,.slice x0.aT x0.h.t.l.length x0.cT,.int .i64 x0.h.t.cp,.int .i64 x0.h.t.fi,.bool x0.h.t.en] 50)) wr.heap.size [.int .i64 x0.h.t.nx,.string x0.h.t.bs,.slice x0.aT x0.h.t.l.length x0.cT,.int .i64 x0.h.t.cp,.int .i64 x0.h.t.fi,.bool x0.h.t.en]:=Var.new wr _
   replace v1:=v1.alloc (.cells #[.int .i64 x0.h.t.nx,.string x0.h.t.bs,.slice x0.aT x0.h.t.l.length x0.cT,.int .i64 x0.h.t.cp,.int .i64 x0.h.t.fi,.bool x0.h.t.en] 50)
   replace o:=o.alloc (.cells #[.int .i64 x0.h.t.nx,.string x0.h.t.bs,.slice x0.aT x0.h.t.l.length x0.cT,.int .i64 x0.h.t.cp,.int .i64 x0.h.t.fi,.bool x0.h.t.en] 50)
   replace b1:=b1.alloc b1.size (.cells #[.int .i64 x0.h.t.nx,.string x0.h.t.bs,.slice x0.aT x0.h.t.l.length x0.cT,.int .i64 x0.h.t.cp,.int .i64 x0.h.t.fi,.bool x0.h.t.en] 50)
   have hz4:w.heap.size<(wr.alloc (.cells #[.int .i64 x0.h.t.nx,.string x0.h.t.bs,.slice x0.aT x0.h.t.l.length x0.cT,.int .i64 x0.h.t.cp,.int .i64 x0.h.t.fi,.bool x0.h.t.en] 50)).heap.size:=by simp;omega
   clear hz3
   go_upto_region 6 with(fail)
   clear c0 c1 c2 c3 c4 c5 e0
   generalize wr.alloc (.cells #[.int .i64 x0.h.t.nx,.string x0.h.t.bs,.slice x0.aT x0.h.t.l.length x0.cT,.int .i64 x0.h.t.cp,.int .i64 x0.h.t.fi,.bool x0.h.t.en] 50)=V5 at *
   generalize wr.heap.size=k5 at *
   have hz3:=hz4
   clear hz4
   have keepW: ∀(q:Nat) (d:Nat→Bool) (w':World),(fun(d:Nat→Bool) (w':World)=>Var 27 w' w.heap.size [.slice (some ⟨b,off,none⟩) 3 cH,.slice aR m cR]∧Below w.heap.size w w'∧w.heap.size<w'.heap.size∧(d 15=false→Roa.EI.Own 2 w' w.heap.size (some ⟨gI,0,none⟩) cI ls)∧Var 50 w' k5 [.int .i64 x0.h.t.nx,.string x0.h.t.bs,.slice x0.aT x0.h.t.l.length x0.cT,.int .i64 x0.h.t.cp,.int .i64 x0.h.t.fi,.bool x0.h.t.en]) d w'→q≠15→(fun(d:Nat→Bool) (w':World)=>Var 27 w' w.heap.size [.slice (some ⟨b,off,none⟩) 3 cH,.slice aR m cR]∧Below w.heap.size w w'∧w.heap.size<w'.heap.size∧(d 15=false→Roa.EI.Own 2 w' w.heap.size (some ⟨gI,0,none⟩) cI ls)∧Var 50 w' k5 [.int .i64 x0.h.t.nx,.string x0.h.t.bs,.slice x0.aT x0.h.t.l.length x0.cT,.int .i64 x0.h.t.cp,.int .i64 x0.h.t.fi,.bool x0.h.t.en]) (fun j=>j==q||d j) w':=fun q d w' ⟨q1,q2,q3,q4,q5⟩ hq=>⟨q1,q2,q3,fun e=>q4 ((Lin.or_ne (d:=d) (Ne.symm hq)).symm.trans e),q5⟩
   refine RegJ.wp_region_J (W:=(fun(d:Nat→Bool) (w':World)=>Var 27 w' w.heap.size [.slice (some ⟨b,off,none⟩) 3 cH,.slice aR m cR]∧Below w.heap.size w w'∧w.heap.size<w'.heap.size∧(d 15=false→Roa.EI.Own 2 w' w.heap.size (some ⟨gI,0,none⟩) cI ls)∧Var 50 w' k5 [.int .i64 x0.h.t.nx,.string x0.h.t.bs,.slice x0.aT x0.h.t.l.length x0.cT,.int .i64 x0.h.t.cp,.int .i64 x0.h.t.fi,.bool x0.h.t.en])) (RegJ.ValE [some (.slice (some ⟨gI,0,none⟩) (2*k) cI),some (.pointer (some ⟨w.heap.size,0,none⟩)),some (.slice (some ⟨b,off,none⟩) 3 cH),some (.int .i64 (k:Int)),some (.pointer (some ⟨b,off+k*13,none⟩)),some (.pointer (some ⟨b,off+k*13,none⟩)),some (.pointer (some ⟨b,off+k*13,none⟩)),some (.int .i64 x0.h.g.ba),some (.pointer (some ⟨k5,0,none⟩)),some (.int .i64 x0.h.t.nx),some (.pointer (some ⟨k5,1,none⟩)),some (.string x0.h.t.bs),some (.int .i64 x0.h.t.bs.size),some (.int .i64 (x0.h.t.nx-x0.h.t.bs.size)),none,none,none] ([(14,15,fun v w'=> ∃m,v=Value.slice (some ⟨m,0,none⟩) 2 2∧Var 2 w' m [.int .i64 x0.h.g.ba,.int .i64 (x0.h.t.nx-x0.h.t.bs.size)]),(15,15,fun v w'=> ∃g c,v=Value.slice (some ⟨g,0,none⟩) (2*k+2) c∧Roa.EI.Own 2 w' w.heap.size (some ⟨g,0,none⟩) c (ls++[x0.h.g.ba,(x0.h.t.nx-x0.h.t.bs.size)])),(16,16,fun v w'=> ∃g c,v=Value.slice (some ⟨g,0,none⟩) (2*k+2) c∧Roa.EI.Own 2 w' w.heap.size (some ⟨g,0,none⟩) c (ls++[x0.h.g.ba,(x0.h.t.nx-x0.h.t.bs.size)]))])) [some 17,some 18,some 19,some 20,some 21,some 22,some 23,some 24,some 25,some 26,some 27,some 28,some 29,some 30,some 31,some 32,some 3] (F:=?_) (is:=[0,1,2,3,4,5,6,7,8,9,10,11,12,13,14,15,16]) hmix (by kernel_rfl) (by kernel_rfl) (by kernel_rfl) (by kernel_rfl) (fun x=>?_) (⟨v1.drew,b1.drew,hz3,fun _=>o.drew,v5.drew⟩) ?_ (fun dR xR wR hWR hdR hJR=>?_)
   rotate_left 1
   focus (simp only [RegJ.lay,Act.put,Nat.reduceAdd,Nat.zero_add,Draw.lays];rfl)
   focus
    iterate 17 (refine RegJ.Steps.cons (RegJ.StepAt.mk rfl (fun d x w1 hW1 hJ1 hx1 K hK=>?_)) ?_;simp only [Draw.lays]at hK;rotate_left 1)
    exact RegJ.Steps.nil
    ·have j16:x 16=.slice (some ⟨gI,0,none⟩) (2*k) cI:=(hx1.out 16 (.inr (by kernel_rfl))).2;rw [j16]at hK;go_simp;exact hK.out _ _ (keepW 0 d _ hW1 (by decide)) RegJ.ValE.same (RegJ.ValE.free (Or.inl rfl) rfl)
    ·go_simp;exact hK.out _ _ (keepW 1 d _ hW1 (by decide)) RegJ.ValE.same (RegJ.ValE.free (Or.inl rfl) rfl)
    ·have j1:x 1=_:=(hJ1.out 1 (by kernel_rfl)).val rfl;rw [j1]at hK;have e0:=hW1.1.cell (i:=0) rfl;go_simp;exact hK.out _ _ (keepW 2 d _ hW1 (by decide)) RegJ.ValE.same (RegJ.ValE.free (Or.inl rfl) rfl)
    ·go_simp;exact hK.out _ _ (keepW 3 d _ hW1 (by decide)) RegJ.ValE.same (RegJ.ValE.free (Or.inl rfl) rfl)
    ·have j2:x 2=_:=(hJ1.out 2 (by kernel_rfl)).val rfl;rw [j2]at hK;have j3:x 3=_:=(hJ1.out 3 (by kernel_rfl)).val rfl;rw [j3]at hK;go_simp;exact hK.out _ _ (keepW 4 d _ hW1 (by decide)) RegJ.ValE.same (RegJ.ValE.free (Or.inl rfl) rfl)
    ·have j4:x 4=_:=(hJ1.out 4 (by kernel_rfl)).val rfl;rw [j4]at hK;go_simp;exact hK.out _ _ (keepW 5 d _ hW1 (by decide)) RegJ.ValE.same (RegJ.ValE.free (Or.inl rfl) rfl)
    ·have j5:x 5=_:=(hJ1.out 5 (by kernel_rfl)).val rfl;rw [j5]at hK;go_simp;exact hK.out _ _ (keepW 6 d _ hW1 (by decide)) RegJ.ValE.same (RegJ.ValE.free (Or.inl rfl) rfl)
    ·have j6:x 6=_:=(hJ1.out 6 (by kernel_rfl)).val rfl;rw [j6]at hK;have h0:=C1 _ hW1.2.1 0 _ rfl;rw [Nat.add_zero]at h0;go_simp;exact hK.out _ _ (keepW 7 d _ hW1 (by decide)) RegJ.ValE.same (RegJ.ValE.free (Or.inl rfl) rfl)
    ·go_simp;exact hK.out _ _ (keepW 8 d _ hW1 (by decide)) RegJ.ValE.same (RegJ.ValE.free (Or.inl rfl) rfl)
    ·have j8:x 8=_:=(hJ1.out 8 (by kernel_rfl)).val rfl;rw [j8]at hK;have t0:=hW1.2.2.2.2.cell (i:=0) rfl;go_simp;exact hK.out _ _ (keepW 9 d _ hW1 (by decide)) RegJ.ValE.same (RegJ.ValE.free (Or.inl rfl) rfl)
    ·go_simp;exact hK.out _ _ (keepW 10 d _ hW1 (by decide)) RegJ.ValE.same (RegJ.ValE.free (Or.inl rfl) rfl)
    ·have j10:x 10=_:=(hJ1.out 10 (by kernel_rfl)).val rfl;rw [j10]at hK;have t1:=hW1.2.2.2.2.cell (i:=1) rfl;go_simp;exact hK.out _ _ (keepW 11 d _ hW1 (by decide)) RegJ.ValE.same (RegJ.ValE.free (Or.inl rfl) rfl)
    ·have j11:x 11=_:=(hJ1.out 11 (by kernel_rfl)).val rfl;rw [j11]at hK;go_simp;exact hK.out _ _ (keepW 12 d _ hW1 (by decide)) RegJ.ValE.same (RegJ.ValE.free (Or.inl rfl) rfl)
    ·have j9:x 9=_:=(hJ1.out 9 (by kernel_rfl)).val rfl;rw [j9]at hK;have j12:x 12=_:=(hJ1.out 12 (by kernel_rfl)).val rfl;rw [j12]at hK;have hw:IntKind.i64.wrap (x0.h.t.nx-(x0.h.t.bs.size:Int))=x0.h.t.nx-(x0.h.t.bs.size:Int):=(by have hbd:=HBD.out;rw [IntKind.wrap_i64];omega);go_simp;exact hK.out _ _ (keepW 13 d _ hW1 (by decide)) RegJ.ValE.same (RegJ.ValE.free (Or.inl rfl) rfl)
    ·have j7:x 7=_:=(hJ1.out 7 (by kernel_rfl)).val rfl;rw [j7]at hK;have j13:x 13=_:=(hJ1.out 13 (by kernel_rfl)).val rfl;rw [j13]at hK;obtain⟨q1,q2,q3,q4,q5⟩:=id hW1;go_simp;exact hK.out _ _ ⟨q1.alloc _,q2.alloc q2.size _,by simp;omega,fun e=>(q4 ((Lin.or_ne (d:=d) (n:=15) (q:=14) (by decide)).symm.trans e)).alloc _,q5.alloc _⟩ (keepB (by intro q hq;simp only [List.mem_cons,List.not_mem_nil,or_false]at hq;rcases hq with rfl|rfl|rfl;exact .inl rfl;exact .inr (.inl (hx1.out 15 (.inr (by kernel_rfl))).1);exact .inr (.inl (hx1.out 16 (.inr (by kernel_rfl))).1))) (RegJ.ValE.got 0 _ _ (Or.inr rfl) rfl rfl ⟨_,rfl,Var.new _ _⟩)
    ·have j0:x 0=_:=(hJ1.out 0 (by kernel_rfl)).val rfl;obtain⟨m,jb,vm⟩:=((hJ1.out 14 (by kernel_rfl)).tie 0 rfl (.inr (hx1.out 15 (.inl rfl)).1));have jb:x 14=_:=jb;obtain⟨q1,q2,q3,q4,q5⟩:=id hW1;have o5:=q4 (hx1.out 15 (.inl rfl)).1;have hg:=(o5.lt _ rfl).1;dsimp only at hg;exact step_appS Roa.tyI (by decide) (by rfl) _ _ (by rfl) w.heap.size gI cI (2*k) ls [x0.h.g.ba,(x0.h.t.nx-x0.h.t.bs.size)] HLn.out.symm (by exact j0) o5 (Nat.le_of_lt q3) (some ⟨m,0,none⟩) 2 2 rfl (by exact jb) (two_lies vm) (fun e=>by cases e) (by rw [HLn.out];simp;omega) (fun g' c' w' oA gA=>hK.out _ _ ⟨q1.grown gA (own_free o5 (by decide) q1),q2.grown gA q2.size (own_above o5),Nat.lt_of_lt_of_le q3 gA.size,fun e=>absurd e (by simp),q5.grown gA (own_free o5 (by decide) q5)⟩ (keepB (by intro q hq;simp only [List.mem_cons,List.not_mem_nil,or_false]at hq;rcases hq with rfl|rfl|rfl;exact .inr (.inr (.inl ⟨by simp,.inl rfl⟩));exact .inl rfl;exact .inr (.inl (hx1.out 16 (.inr (by kernel_rfl))).1))) (RegJ.ValE.got 1 _ _ (Or.inr rfl) rfl rfl ⟨g',c',rfl,oA⟩))
    ·obtain⟨g',c',ja,oA⟩:=((hJ1.out 15 (by kernel_rfl)).tie 1 rfl (.inl rfl));have ja:x 15=_:=ja;rw [ja]at hK;go_simp;exact hK.out _ _ (keepW 16 d _ hW1 (by decide)) RegJ.ValE.same (RegJ.ValE.got 2 _ _ (Or.inr rfl) rfl rfl ⟨g',c',rfl,oA⟩)
   obtain⟨gN,cN,jl,oN⟩:=(hJR 16 (by simp)).tie 2 rfl (.inl rfl)
   rw [jl]
   obtain⟨q1,q2,q3,-,-⟩:=hWR
   clear hdR hJR keepW C1 o v1 b1 hz3
   go_wp2_with fail
   go_roundw
   case rel=>exact⟨k+1,gN,cN,by omega,by simp,by rw [show 2*k+2=2*(k+1) by omega],by rw [HST.out];exact oN,q1,q2,q3⟩
   case measure=>simp [intOf] <;>omega
  ·have k0: ¬(k:Int)<3:=by omega
   obtain rfl:k=3:=by omega
   rw [List.take_of_length_le (by rw [List.length_map,HX.out];omega)]at o
   go_wp2_with fail
   go_ret
   exact⟨gI,cI,rfl,o,b1⟩
theorem specEndsOf (aH aR:Option Addr)(n m cH cR:Nat)(xs:List Ha)(rs:List Roa.Rd)(w:World)(hn:n=xs.length)(hm:m=rs.length)(L:LL w aH xs)(R:Roa.E.Lies w aR rs)(hl:xs.length≤1000)(hr:rs.length≤1000)(hs: ∀x∈xs,x.h.Sm):
  Calls Tryz.prog 13 #[.agg #[.slice aH n cH,.slice aR m cR]] w fun e w'=> ∃g c,e=.returned (.slice (some ⟨g,0,none⟩) (endsL (xs.map (·.h)) rs).length c)∧Roa.EI.Own 2 w' w.heap.size (some ⟨g,0,none⟩) c (endsL (xs.map (·.h)) rs)∧Below w.heap.size w w':=by
 have hOk:=fun w' l' r'=>specLineOk aH aR n m cH cR xs rs w' hn hm l' r' hl hr hs
 have hm2:=fun w' l' hb=>l17Ends aH aR m cH cR xs rs w' l' hb
 have b0:=(Below.refl w.heap.size w).alloc (Nat.le_refl _) (.cells #[.slice aH n cH,.slice aR m cR] 27)
 have v0:Var 27 (w.alloc (.cells #[.slice aH n cH,.slice aR m cR] 27)) w.heap.size [.slice aH n cH,.slice aR m cR]:=Var.new w _
 have L0:=L.later b0
 have R0:=R.later b0
 have HN:Hid (n=xs.length):=hn
 clear L R hr hl hs hm hn
 go_enter Tryz.func13,Tryz.ntmps13
 go_upto_region 1 with(fail)
 generalize w.alloc (.cells #[.slice aH n cH,.slice aR m cR] 27)=V at *
 have e0:=v0.cell (i:=0) rfl
 have e1:=v0.cell (i:=1) rfl
 go_wp2_with fail
 refine(hOk _ L0 R0).mono ?_
 rintro e w1 ⟨rfl,b1⟩
 have L1:=L0.later b1
 replace v0:=v0.later b1
 replace b0:=b0.trans (b1.mono b0.size)
 clear e0 e1 b1 hOk L0 R0
 cases hb:hopsB (xs.map (·.h)) rs
 case false=>
  have o1:=(Roa.ownI_empty w1).mono b0.size
  replace b0:=b0.alloc b0.size (.cells #[] 2)
  go_wp2_with fail
  go_ret
  have hz:endsL (xs.map (·.h)) rs=[]:=by rw [endsL,toldL,hb];rfl
  exact⟨_,0,by rw [hz];rfl,by rw [hz];exact o1,b0⟩
 have HZ:Hid (endsL (xs.map (·.h)) rs=(deskL (xs.map (·.h))).map endK):=by show _=_;rw [endsL,toldL,hb];rfl
 have h3:xs.length=3:=by have:=(hops_iff.1 hb).1;rw [List.length_map]at this;exact this
 have HL6:Hid (((deskL (xs.map (·.h))).map endK).length=6):=by show _=_;rw [List.length_map,deskL_len,List.length_map,h3]
 obtain rfl:n=3:=by have:=HN.out;omega
 have hmm:=hm2 w1 L1 hb
 clear hm2 L1 hb h3 HN
 have e0:=v0.cell (i:=0) rfl
 have e1:=v0.cell (i:=1) rfl
 go_wp2_with fail
 refine hmm.mono ?_
 rintro e w2 ⟨g,c,rfl,o2,b2⟩
 clear e0 e1 hmm v0
 go_wp2_with fail
 go_ret
 exact⟨g,c,by rw [HZ.out,HL6.out];rfl,by rw [HZ.out];exact o2.mono b0.size,b0.trans (b2.mono b0.size)⟩
theorem specStartsOf (aH aR:Option Addr)(n m cH cR:Nat)(xs:List Ha)(rs:List Roa.Rd)(w:World)(hn:n=xs.length)(hm:m=rs.length)(L:LL w aH xs)(R:Roa.E.Lies w aR rs)(hl:xs.length≤1000)(hr:rs.length≤1000)(hs: ∀x∈xs,x.h.Sm):
  Calls Tryz.prog 15 #[.agg #[.slice aH n cH,.slice aR m cR]] w fun e w'=> ∃g c,e=.returned (.slice (some ⟨g,0,none⟩) (startsL (xs.map (·.h)) rs).length c)∧Roa.EI.Own 2 w' w.heap.size (some ⟨g,0,none⟩) c (startsL (xs.map (·.h)) rs)∧Below w.heap.size w w':=by
 have hOk:=fun w' l' r'=>specLineOk aH aR n m cH cR xs rs w' hn hm l' r' hl hr hs
 have hm2:=fun w' l' hb=>l17Starts aH aR m cH cR xs rs w' l' hb
 have b0:=(Below.refl w.heap.size w).alloc (Nat.le_refl _) (.cells #[.slice aH n cH,.slice aR m cR] 27)
 have v0:Var 27 (w.alloc (.cells #[.slice aH n cH,.slice aR m cR] 27)) w.heap.size [.slice aH n cH,.slice aR m cR]:=Var.new w _
 have L0:=L.later b0
 have R0:=R.later b0
 have HN:Hid (n=xs.length):=hn
 clear L R hr hl hs hm hn
 go_enter Tryz.func15,Tryz.ntmps15
 go_upto_region 1 with(fail)
 generalize w.alloc (.cells #[.slice aH n cH,.slice aR m cR] 27)=V at *
 have e0:=v0.cell (i:=0) rfl
 have e1:=v0.cell (i:=1) rfl
 go_wp2_with fail
 refine(hOk _ L0 R0).mono ?_
 rintro e w1 ⟨rfl,b1⟩
 have L1:=L0.later b1
 replace v0:=v0.later b1
 replace b0:=b0.trans (b1.mono b0.size)
 clear e0 e1 b1 hOk L0 R0
 cases hb:hopsB (xs.map (·.h)) rs
 case false=>
  have o1:=(Roa.ownI_empty w1).mono b0.size
  replace b0:=b0.alloc b0.size (.cells #[] 2)
  go_wp2_with fail
  go_ret
  have hz:startsL (xs.map (·.h)) rs=[]:=by rw [startsL,toldL,hb];rfl
  exact⟨_,0,by rw [hz];rfl,by rw [hz];exact o1,b0⟩
 have HZ:Hid (startsL (xs.map (·.h)) rs=(deskL (xs.map (·.h))).map Prod.fst):=by show _=_;rw [startsL,toldL,hb];rfl
 have h3:xs.length=3:=by have:=(hops_iff.1 hb).1;rw [List.length_map]at this;exact this
 have HL6:Hid (((deskL (xs.map (·.h))).map Prod.fst).length=6):=by show _=_;rw [List.length_map,deskL_len,List.length_map,h3]
 obtain rfl:n=3:=by have:=HN.out;omega
 have hmm:=hm2 w1 L1 hb
 clear hm2 L1 hb h3 HN
 have e0:=v0.cell (i:=0) rfl
 have e1:=v0.cell (i:=1) rfl
 go_wp2_with fail
 refine hmm.mono ?_
 rintro e w2 ⟨g,c,rfl,o2,b2⟩
 clear e0 e1 hmm v0
 go_wp2_with fail
 go_ret
 exact⟨g,c,by rw [HZ.out,HL6.out];rfl,by rw [HZ.out];exact o2.mono b0.size,b0.trans (b2.mono b0.size)⟩
theorem likeInts (a a':Option Addr)(c c' n n':Nat)(l:List Int)(w:World)(hn:n=l.length)(hn':n'=l.length)(h:Roa.EI.Lies w a l)(h':Roa.EI.Lies w a' l)(hl:l.length≤4194304):
  Calls Tryz.prog 11 #[.slice a n c,.slice a' n' c'] w fun x w'=>x=.returned (.bool true)∧Below w.heap.size w w':=by
 subst hn
 subst hn'
 have hmix:=Roa.mix
 go_enter Tryz.func11,Tryz.ntmps11
 go_wp2_with fail
 go_loopw [5] (fun iv wr=> ∃k:Nat,k≤l.length∧iv=.int .i64 k∧Below w.heap.size w wr) (fun iv _=>l.length-(intOf iv).toNat)
 case atStart=>exact⟨0,Nat.zero_le _,rfl,Below.refl _ _⟩
 case round=>
  obtain⟨k,hk,rfl,hB⟩:=hrel
  by_cases hlt:k<l.length
  ·have h1:=h.later hB
   have h2:=h'.later hB
   obtain⟨b,off,rfl⟩: ∃b off,a=some ⟨b,off,none⟩:=by
    rcases h1 with hs|⟨b,off,rfl,_⟩
    ·simp [hs]at hlt
    ·exact⟨b,off,rfl⟩
   obtain⟨b',off',rfl⟩: ∃b off,a'=some ⟨b,off,none⟩:=by
    rcases h2 with hs|⟨b,off,rfl,_⟩
    ·simp [hs]at hlt
    ·exact⟨b,off,rfl⟩
   have d0:=Draw.Later.cell (capCell h1 hlt)
   have d1:=Draw.Later.cell (capCell h2 hlt)
   clear h1 h2
   have i0:(0:Int)≤(k:Int):=by omega
   have i1:(k:Int)<(l.length:Int):=by omega
   generalize capAt l k=s at *
   go_wp2_with fail
   refine Draw.wp_region_later hmix (by kernel_rfl) ?_
   repeat (go_big_quiet_step (fail))
   refine wpQuiet_nil ?_
   intro _ hw'
   obtain⟨⟨wq,hBq⟩,hw''⟩:=hw'
   subst hw''
   go_wp2_with fail
   go_roundw
   case rel=>exact⟨k+1,by omega,by go_num,hB.trans (hBq.mono hB.size)⟩
   case measure=>simp [intOf];omega
  ·have i1: ¬(k:Int)<(l.length:Int):=by omega
   go_wp2_with fail
   go_ret
   exact⟨rfl,hB⟩
end Go.Proofs.YtfmcahjdhoabcaaGreat.Cou
namespace Go.Proofs.YtfmcahjdhoabcaaGreat.Str
open Go.RowKit RowG
theorem implStreamOk (s:Sm)(w:World)(hs:s.tx.size≤2097152):
  Calls Tryz.prog 48 #[s.v] w fun x w'=>x=.returned (.bool s.ok)∧Below w.heap.size w w':=by
 have HO:Hid (s.ok=(decide ((s.tx.size:Int)≤2000)&&(decide (0≤s.rd∧s.rd≤(s.tx.size:Int))&&((!s.sn||(s.en&&decide (s.rd=(s.tx.size:Int))))&&(!s.dn||s.en))))):=rfl
 generalize s.ok=O at *
 obtain⟨tx,rd,en,dn,sn⟩:=s
 dsimp only [Sm.v]at *
 obtain⟨V,hV⟩: ∃z,Hid (z=w.alloc (.cells #[.string tx,.int .i64 rd,.bool en,.bool dn,.bool sn] 29)):=⟨_,rfl⟩
 have v1:Var 29 V w.heap.size [.string tx,.int .i64 rd,.bool en,.bool dn,.bool sn]:=by rw [hV.out];exact Var.new w _
 have b1:Below w.heap.size w V:=by rw [hV.out];exact(Below.refl _ _).alloc (Nat.le_refl _) _
 go_enter Tryz.func48,Tryz.ntmps48
 go_upto_region 1 with(fail)
 rw [←hV.out]
 clear hV
 have e0:=v1.cell (i:=0) rfl
 have e1:=v1.cell (i:=1) rfl
 have e2:=v1.cell (i:=2) rfl
 have e3:=v1.cell (i:=3) rfl
 have e4:=v1.cell (i:=4) rfl
 by_cases h1:(tx.size:Int)≤2000
 case neg=>
  have h1':(2000:Int)<(tx.size:Int):=by omega
  have hO:O=false:=by rw [HO.out,decide_eq_false h1];rfl
  subst hO
  go_wp2_with fail
  go_ret
  exact⟨rfl,b1⟩
 have h1': ¬(2000:Int)<(tx.size:Int):=by omega
 rw [decide_eq_true h1,Bool.true_and]at HO
 by_cases h2:rd<0
 case pos=>
  have hO:O=false:=by rw [HO.out,decide_eq_false (show ¬(0≤rd∧rd≤(tx.size:Int)) by omega)];rfl
  subst hO
  go_wp2_with fail
  go_ret
  exact⟨rfl,b1⟩
 by_cases h3:(tx.size:Int)<rd
 case pos=>
  have hO:O=false:=by rw [HO.out,decide_eq_false (show ¬(0≤rd∧rd≤(tx.size:Int)) by omega)];rfl
  subst hO
  go_wp2_with fail
  go_ret
  exact⟨rfl,b1⟩
 rw [decide_eq_true (show 0≤rd∧rd≤(tx.size:Int) by omega),Bool.true_and]at HO
 cases sn <;>cases en <;>cases dn
 all_goals first
  | (have hO:O=_:=HO.out;simp only [Bool.not_false,Bool.not_true,Bool.true_or,Bool.false_or,Bool.or_true,Bool.or_false,Bool.and_true,Bool.true_and,Bool.false_and,Bool.and_false]at hO;subst hO;(go_wp2_with fail);go_ret;exact⟨rfl,b1⟩)
  | (by_cases h4:rd=(tx.size:Int);(focus (have hO:O=true:=(by rw [HO.out,decide_eq_true h4];rfl);subst hO;(go_wp2_with fail);go_ret;exact⟨rfl,b1⟩));have hO:O=false:=(by rw [HO.out,decide_eq_false h4];rfl);subst hO;(go_wp2_with fail);go_ret;exact⟨rfl,b1⟩)
end Go.Proofs.YtfmcahjdhoabcaaGreat.Str
namespace Go.Proofs.YtfmcahjdhoabcaaGreat.Wor
open Go.RowKit RowG Hop Roa Pum Lin
def unW (hs:List Hp)(rs:List Rd)(s:Str.Sm):Int:=if (hopsB hs rs&&s.ok)=true then(s.tx.size:Int)-s.rd else -1
theorem implWorldOk (aH aR:Option Addr)(n m cH cR:Nat)(xs:List Ha)(rs:List Rd)(s:Str.Sm)(w:World)(hn:n=xs.length)(hm:m=rs.length)(L:LL w aH xs)(R:Roa.E.Lies w aR rs)(hl:xs.length≤1000)(hr:rs.length≤1000)(hs: ∀x∈xs,x.h.Sm)(hz:s.tx.size≤2097152):
  Calls Tryz.prog 25 #[.agg #[.slice aH n cH,.slice aR m cR,.string s.tx,.int .i64 s.rd,.bool s.en,.bool s.dn,.bool s.sn]] w fun x w'=>x=.returned (.bool (hopsB (xs.map (·.h)) rs&&s.ok))∧Below w.heap.size w w':=by
 have hL:=fun w' (b:Below w.heap.size w w')=>implLineOk aH aR n m cH cR xs rs w' hn hm (L.later b) (R.later b) hr hs
 have hS:=fun w'=>Str.implStreamOk s w' hz
 clear L R hn hm hl hr hs hz
 generalize hopsB (xs.map (·.h)) rs=q at *
 generalize s.ok=o at *
 obtain⟨tx,rd,en,dn,sn⟩:=s
 dsimp only [Str.Sm.v]at *
 obtain⟨V,hV⟩: ∃z,Hid (z=w.alloc (.cells #[.slice aH n cH,.slice aR m cR,.string tx,.int .i64 rd,.bool en,.bool dn,.bool sn] 31)):=⟨_,rfl⟩
 have v1:Var 31 V w.heap.size [.slice aH n cH,.slice aR m cR,.string tx,.int .i64 rd,.bool en,.bool dn,.bool sn]:=by rw [hV.out];exact Var.new w _
 have b1:Below w.heap.size w V:=by rw [hV.out];exact(Below.refl _ _).alloc (Nat.le_refl _) _
 go_enter Tryz.func25,Tryz.ntmps25
 go_upto_region 1 with(fail)
 rw [←hV.out]
 clear hV
 have e0:=v1.cell (i:=0) rfl
 have e1:=v1.cell (i:=1) rfl
 go_wp2_with fail
 refine(hL _ b1).mono ?_
 rintro x w1 ⟨rfl,b2⟩
 have B2:=b1.trans (b2.mono b1.size)
 have x1:=v1.later b2
 clear v1 b1 b2 e0 e1
 cases q
 ·go_wp2_with fail
  go_ret
  exact⟨rfl,B2⟩
 ·have e2:=x1.cell (i:=2) rfl
  have e3:=x1.cell (i:=3) rfl
  have e4:=x1.cell (i:=4) rfl
  have e5:=x1.cell (i:=5) rfl
  have e6:=x1.cell (i:=6) rfl
  go_wp2_with fail
  refine(hS _).mono ?_
  rintro x w2 ⟨rfl,b3⟩
  go_wp2_with fail
  go_ret
  exact⟨by simp,B2.trans (b3.mono B2.size)⟩
theorem specUnderWay (aH aR:Option Addr)(n m cH cR:Nat)(xs:List Ha)(rs:List Rd)(s:Str.Sm)(w:World)(hn:n=xs.length)(hm:m=rs.length)(L:LL w aH xs)(R:Roa.E.Lies w aR rs)(hl:xs.length≤1000)(hr:rs.length≤1000)(hs: ∀x∈xs,x.h.Sm)(hz:s.tx.size≤2097152):
  Calls Tryz.prog 10 #[.agg #[.slice aH n cH,.slice aR m cR,.string s.tx,.int .i64 s.rd,.bool s.en,.bool s.dn,.bool s.sn]] w fun x w'=>x=.returned (.int .i64 (unW (xs.map (·.h)) rs s))∧Below w.heap.size w w':=by
 have hW:=fun w' (b:Below w.heap.size w w')=>specWorldOk aH aR n m cH cR xs rs s w' hn hm (L.later b) (R.later b) hl hr hs hz
 have HU:Hid (unW (xs.map (·.h)) rs s=if (hopsB (xs.map (·.h)) rs&&s.ok)=true then(s.tx.size:Int)-s.rd else -1):=rfl
 have HK:Hid ((hopsB (xs.map (·.h)) rs&&s.ok)=true→0≤s.rd∧s.rd≤(s.tx.size:Int)):=fun h=>by
  rw [Bool.and_eq_true]at h
  have h2:=h.2
  unfold Str.Sm.ok at h2
  simp only [Bool.and_eq_true,decide_eq_true_eq]at h2
  exact h2.2.1
 generalize (hopsB (xs.map (·.h)) rs&&s.ok)=q at *
 generalize unW (xs.map (·.h)) rs s=u at *
 clear L R hn hm hl hr hs
 obtain⟨tx,rd,en,dn,sn⟩:=s
 dsimp only at *
 obtain⟨V,hV⟩: ∃z,Hid (z=w.alloc (.cells #[.slice aH n cH,.slice aR m cR,.string tx,.int .i64 rd,.bool en,.bool dn,.bool sn] 31)):=⟨_,rfl⟩
 have v1:Var 31 V w.heap.size [.slice aH n cH,.slice aR m cR,.string tx,.int .i64 rd,.bool en,.bool dn,.bool sn]:=by rw [hV.out];exact Var.new w _
 have b1:Below w.heap.size w V:=by rw [hV.out];exact(Below.refl _ _).alloc (Nat.le_refl _) _
 go_enter Tryz.func10,Tryz.ntmps10
 go_upto_region 1 with(fail)
 rw [←hV.out]
 clear hV
 obtain⟨e0,e1,e2,e3,e4,e5,e6⟩:=v1.c7
 go_wp2_with fail
 refine(hW _ b1).mono ?_
 rintro x w1 ⟨rfl,b2⟩
 have B2:=b1.trans (b2.mono b1.size)
 have x1:=v1.later b2
 clear v1 b1 b2 hW e0 e1 e2 e3 e4 e5 e6
 cases q
 ·go_wp2_with fail
  go_ret
  exact⟨by rw [HU.out];rfl,B2⟩
 ·have e2:=x1.cell (i:=2) rfl
  have e3:=x1.cell (i:=3) rfl
  have hk:=HK.out rfl
  have hbd: -9223372036854775808≤(tx.size:Int)-rd∧(tx.size:Int)-rd≤9223372036854775807:=by omega
  have HU2:Hid (u=(tx.size:Int)-rd):=by show _=_;rw [HU.out,if_pos rfl]
  clear HU
  go_wp2_with fail
  go_ret
  exact⟨by rw [HU2.out];go_num,B2⟩
theorem implUnderWay (aH aR:Option Addr)(n m cH cR:Nat)(xs:List Ha)(rs:List Rd)(s:Str.Sm)(w:World)(hn:n=xs.length)(hm:m=rs.length)(L:LL w aH xs)(R:Roa.E.Lies w aR rs)(hl:xs.length≤1000)(hr:rs.length≤1000)(hs: ∀x∈xs,x.h.Sm)(hz:s.tx.size≤2097152):
  Calls Tryz.prog 9 #[.agg #[.slice aH n cH,.slice aR m cR,.string s.tx,.int .i64 s.rd,.bool s.en,.bool s.dn,.bool s.sn]] w fun x w'=>x=.returned (.int .i64 (unW (xs.map (·.h)) rs s))∧Below w.heap.size w w':=by
 have hW:=fun w' (b:Below w.heap.size w w')=>implWorldOk aH aR n m cH cR xs rs s w' hn hm (L.later b) (R.later b) hl hr hs hz
 have HU:Hid (unW (xs.map (·.h)) rs s=if (hopsB (xs.map (·.h)) rs&&s.ok)=true then(s.tx.size:Int)-s.rd else -1):=rfl
 have HK:Hid ((hopsB (xs.map (·.h)) rs&&s.ok)=true→0≤s.rd∧s.rd≤(s.tx.size:Int)):=fun h=>by
  rw [Bool.and_eq_true]at h
  have h2:=h.2
  unfold Str.Sm.ok at h2
  simp only [Bool.and_eq_true,decide_eq_true_eq]at h2
  exact h2.2.1
 generalize (hopsB (xs.map (·.h)) rs&&s.ok)=q at *
 generalize unW (xs.map (·.h)) rs s=u at *
 clear L R hn hm hl hr hs
 obtain⟨tx,rd,en,dn,sn⟩:=s
 dsimp only at *
 obtain⟨V,hV⟩: ∃z,Hid (z=w.alloc (.cells #[.slice aH n cH,.slice aR m cR,.string tx,.int .i64 rd,.bool en,.bool dn,.bool sn] 31)):=⟨_,rfl⟩
 have v1:Var 31 V w.heap.size [.slice aH n cH,.slice aR m cR,.string tx,.int .i64 rd,.bool en,.bool dn,.bool sn]:=by rw [hV.out];exact Var.new w _
 have b1:Below w.heap.size w V:=by rw [hV.out];exact(Below.refl _ _).alloc (Nat.le_refl _) _
 go_enter Tryz.func9,Tryz.ntmps9
 go_upto_region 1 with(fail)
 rw [←hV.out]
 clear hV
 obtain⟨e0,e1,e2,e3,e4,e5,e6⟩:=v1.c7
 go_wp2_with fail
 refine(hW _ b1).mono ?_
 rintro x w1 ⟨rfl,b2⟩
 have B2:=b1.trans (b2.mono b1.size)
 have x1:=v1.later b2
 clear v1 b1 b2 hW e0 e1 e2 e3 e4 e5 e6
 cases q
 ·go_wp2_with fail
  go_ret
  exact⟨by rw [HU.out];rfl,B2⟩
 ·have e2:=x1.cell (i:=2) rfl
  have e3:=x1.cell (i:=3) rfl
  have hk:=HK.out rfl
  have hbd: -9223372036854775808≤(tx.size:Int)-rd∧(tx.size:Int)-rd≤9223372036854775807:=by omega
  have HU2:Hid (u=(tx.size:Int)-rd):=by show _=_;rw [HU.out,if_pos rfl]
  clear HU
  go_wp2_with fail
  go_ret
  exact⟨by rw [HU2.out];go_num,B2⟩
end Go.Proofs.YtfmcahjdhoabcaaGreat.Wor
namespace Go.Proofs.YtfmcahjdhoabcaaGreat.Wor
open Go.RowKit RowG Hop Roa Pum Lin
theorem drawLineOk (a:Option Addr)(len cap:Nat)(w:World)(hb:Draw.Bytes w a len)(hl:len≤4096):
  Calls Tryz.prog 24 #[.slice a len cap] w fun e w'=> ∃(aH aR:Option Addr) (cH cR:Nat) (xs:List Ha) (rs:List Rd),e=.returned (.agg #[.slice aH xs.length cH,.slice aR rs.length cR])∧DL w' aH xs aR rs∧Below w.heap.size w w':=by
 have vR:Var 27 (w.alloc (.cells #[.slice none 0 0,.slice none 0 0] 27)) w.heap.size [.slice none 0 0,.slice none 0 0]:=Var.new w _
 have hb0:=hb.below ((Below.refl w.heap.size w).alloc (Nat.le_refl _) (.cells #[.slice none 0 0,.slice none 0 0] 27)) (Nat.le_refl _)
 have b0:=(Below.refl w.heap.size w).alloc (Nat.le_refl _) (.cells #[.slice none 0 0,.slice none 0 0] 27)
 go_enter Tryz.func24,Tryz.ntmps24
 go_wp2_with fail
 generalize w.alloc (.cells #[.slice none 0 0,.slice none 0 0] 27)=V at *
 have hV:=vR.lt
 refine(Draw.l1New a len cap _ hb0 hl).mono ?_
 rintro x w1 ⟨rfl,hh,hw1⟩
 have c1:Draw.Cur w1 V.heap.size:=by rw [hw1];exact Draw.cur_new hb0 hl hh _
 have b1:Below V.heap.size V w1:=by rw [hw1];exact(Below.refl _ _).alloc (Nat.le_refl _) _
 replace vR:=vR.later b1
 have B1:=b0.trans (b1.mono b0.size)
 clear hw1 b0 b1
 go_wp2_with fail
 refine(l13DrawAny _ _ c1).mono ?_
 rintro e w2 ⟨aH,aR,cH,cR,xs,rs,rfl,D,-,c2,k2⟩
 replace vR:=vR.kept k2 (by omega)
 have B2:Below w.heap.size w w2:=B1.trans (k2.below (Nat.le_of_lt hV) B1.size)
 clear c1 c2 k2 B1
 have e0:=vR.cell (i:=0) rfl
 have e1:=vR.cell (i:=1) rfl
 have f0:=vR.free 0
 have f1:=vR.free 1
 go_wp2_with fail
 obtain⟨WZ,hWZ⟩: ∃z,Hid (z=(w2.setCell ⟨w.heap.size,0,none⟩ (.slice aH xs.length cH)).setCell ⟨w.heap.size,1,none⟩ (.slice aR rs.length cR)):=⟨_,rfl⟩
 have ka:Draw.Kept w.heap.size w2 WZ:=by rw [hWZ.out];exact((Draw.Kept.refl _ _).setCell (p:=⟨w.heap.size,0,none⟩) (.inl rfl) _).setCell (p:=⟨w.heap.size,1,none⟩) (.inl rfl) _
 have vv:Var 27 WZ w.heap.size [.slice aH xs.length cH,.slice aR rs.length cR]:=by rw [hWZ.out];exact(vR.set 0 _).set 1 _
 have DZ:=D.keptV vR ntLine ka
 have BZ:Below w.heap.size w WZ:=B2.trans (ka.below (Nat.le_refl _) B2.size)
 clear ka e0 e1 f0 f1 D B2 vR
 have hWZo:=hWZ.out
 clear hWZ
 subst hWZo
 generalize (w2.setCell ⟨w.heap.size,0,none⟩ (.slice aH xs.length cH)).setCell ⟨w.heap.size,1,none⟩ (.slice aR rs.length cR)=WZ at *
 have e0:=vv.cell (i:=0) rfl
 have e1:=vv.cell (i:=1) rfl
 refine bodyPost_ret (v:=.agg #[.slice aH xs.length cH,.slice aR rs.length cR]) (by rw [Hop.res_one rfl];go_simp) rfl ⟨aH,aR,cH,cR,xs,rs,rfl,DZ,BZ⟩
end Go.Proofs.YtfmcahjdhoabcaaGreat.Wor
namespace Go.Proofs.YtfmcahjdhoabcaaGreat.Wor
open Go.RowKit RowG Hop Roa Pum Lin
theorem drawEndsOf (a:Option Addr)(len cap:Nat)(w:World)(hb:Draw.Bytes w a len)(hl:len≤4096):
  Calls Tryz.prog 7 #[.slice a len cap] w fun e w'=> ∃(aH aR:Option Addr) (cH cR:Nat) (xs:List Ha) (rs:List Rd),e=.returned (.agg #[.slice aH xs.length cH,.slice aR rs.length cR])∧DL w' aH xs aR rs∧Below w.heap.size w w':=by
 have vR:Var 27 (w.alloc (.cells #[.slice none 0 0,.slice none 0 0] 27)) w.heap.size [.slice none 0 0,.slice none 0 0]:=Var.new w _
 have hb0:=hb.below ((Below.refl w.heap.size w).alloc (Nat.le_refl _) (.cells #[.slice none 0 0,.slice none 0 0] 27)) (Nat.le_refl _)
 have b0:=(Below.refl w.heap.size w).alloc (Nat.le_refl _) (.cells #[.slice none 0 0,.slice none 0 0] 27)
 go_enter Tryz.func7,Tryz.ntmps7
 go_wp2_with fail
 generalize w.alloc (.cells #[.slice none 0 0,.slice none 0 0] 27)=V at *
 have hV:=vR.lt
 refine(drawLineOk a len cap _ hb0 hl).mono ?_
 rintro e w2 ⟨aH,aR,cH,cR,xs,rs,rfl,D,b2⟩
 replace vR:=vR.later b2
 have B2:Below w.heap.size w w2:=b0.trans (b2.mono b0.size)
 clear b2 b0
 have e0:=vR.cell (i:=0) rfl
 have e1:=vR.cell (i:=1) rfl
 have f0:=vR.free 0
 have f1:=vR.free 1
 go_wp2_with fail
 obtain⟨WZ,hWZ⟩: ∃z,Hid (z=(w2.setCell ⟨w.heap.size,0,none⟩ (.slice aH xs.length cH)).setCell ⟨w.heap.size,1,none⟩ (.slice aR rs.length cR)):=⟨_,rfl⟩
 have ka:Draw.Kept w.heap.size w2 WZ:=by rw [hWZ.out];exact((Draw.Kept.refl _ _).setCell (p:=⟨w.heap.size,0,none⟩) (.inl rfl) _).setCell (p:=⟨w.heap.size,1,none⟩) (.inl rfl) _
 have vv:Var 27 WZ w.heap.size [.slice aH xs.length cH,.slice aR rs.length cR]:=by rw [hWZ.out];exact(vR.set 0 _).set 1 _
 have DZ:=D.keptV vR ntLine ka
 have BZ:Below w.heap.size w WZ:=B2.trans (ka.below (Nat.le_refl _) B2.size)
 clear ka e0 e1 f0 f1 D B2 vR
 have hWZo:=hWZ.out
 clear hWZ
 subst hWZo
 generalize (w2.setCell ⟨w.heap.size,0,none⟩ (.slice aH xs.length cH)).setCell ⟨w.heap.size,1,none⟩ (.slice aR rs.length cR)=WZ at *
 have e0:=vv.cell (i:=0) rfl
 have e1:=vv.cell (i:=1) rfl
 refine bodyPost_ret (v:=.agg #[.slice aH xs.length cH,.slice aR rs.length cR]) (by rw [Hop.res_one rfl];go_simp) rfl ⟨aH,aR,cH,cR,xs,rs,rfl,DZ,BZ⟩
theorem drawStartsOf (a:Option Addr)(len cap:Nat)(w:World)(hb:Draw.Bytes w a len)(hl:len≤4096):
  Calls Tryz.prog 8 #[.slice a len cap] w fun e w'=> ∃(aH aR:Option Addr) (cH cR:Nat) (xs:List Ha) (rs:List Rd),e=.returned (.agg #[.slice aH xs.length cH,.slice aR rs.length cR])∧DL w' aH xs aR rs∧Below w.heap.size w w':=by
 have vR:Var 27 (w.alloc (.cells #[.slice none 0 0,.slice none 0 0] 27)) w.heap.size [.slice none 0 0,.slice none 0 0]:=Var.new w _
 have hb0:=hb.below ((Below.refl w.heap.size w).alloc (Nat.le_refl _) (.cells #[.slice none 0 0,.slice none 0 0] 27)) (Nat.le_refl _)
 have b0:=(Below.refl w.heap.size w).alloc (Nat.le_refl _) (.cells #[.slice none 0 0,.slice none 0 0] 27)
 go_enter Tryz.func8,Tryz.ntmps8
 go_wp2_with fail
 generalize w.alloc (.cells #[.slice none 0 0,.slice none 0 0] 27)=V at *
 have hV:=vR.lt
 refine(drawLineOk a len cap _ hb0 hl).mono ?_
 rintro e w2 ⟨aH,aR,cH,cR,xs,rs,rfl,D,b2⟩
 replace vR:=vR.later b2
 have B2:Below w.heap.size w w2:=b0.trans (b2.mono b0.size)
 clear b2 b0
 have e0:=vR.cell (i:=0) rfl
 have e1:=vR.cell (i:=1) rfl
 have f0:=vR.free 0
 have f1:=vR.free 1
 go_wp2_with fail
 obtain⟨WZ,hWZ⟩: ∃z,Hid (z=(w2.setCell ⟨w.heap.size,0,none⟩ (.slice aH xs.length cH)).setCell ⟨w.heap.size,1,none⟩ (.slice aR rs.length cR)):=⟨_,rfl⟩
 have ka:Draw.Kept w.heap.size w2 WZ:=by rw [hWZ.out];exact((Draw.Kept.refl _ _).setCell (p:=⟨w.heap.size,0,none⟩) (.inl rfl) _).setCell (p:=⟨w.heap.size,1,none⟩) (.inl rfl) _
 have vv:Var 27 WZ w.heap.size [.slice aH xs.length cH,.slice aR rs.length cR]:=by rw [hWZ.out];exact(vR.set 0 _).set 1 _
 have DZ:=D.keptV vR ntLine ka
 have BZ:Below w.heap.size w WZ:=B2.trans (ka.below (Nat.le_refl _) B2.size)
 clear ka e0 e1 f0 f1 D B2 vR
 have hWZo:=hWZ.out
 clear hWZ
 subst hWZo
 generalize (w2.setCell ⟨w.heap.size,0,none⟩ (.slice aH xs.length cH)).setCell ⟨w.heap.size,1,none⟩ (.slice aR rs.length cR)=WZ at *
 have e0:=vv.cell (i:=0) rfl
 have e1:=vv.cell (i:=1) rfl
 refine bodyPost_ret (v:=.agg #[.slice aH xs.length cH,.slice aR rs.length cR]) (by rw [Hop.res_one rfl];go_simp) rfl ⟨aH,aR,cH,cR,xs,rs,rfl,DZ,BZ⟩
end Go.Proofs.YtfmcahjdhoabcaaGreat.Wor
