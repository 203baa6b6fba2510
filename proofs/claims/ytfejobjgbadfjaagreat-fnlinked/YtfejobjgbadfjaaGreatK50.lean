/- Contracts of this seat's functions, and their mathematics (CouC). -/
import Derived.Test.YtfejobjgbadfjaaGreatK49
set_option linter.unusedVariables false
set_option linter.unusedSimpArgs false
set_option maxRecDepth 10000
set_option maxHeartbeats 8000000
namespace Go.Proofs.YtfejobjgbadfjaaGreat.Cou
open Go.RowKit RowG Hop Lin Wor
def Hd.key (d:Hd):Int×ByteArray:=(d.st,d.bs)
def deskH (h:Hp):List (Int×ByteArray):=[(h.g.ba,h.g.bs),(h.t.nx-h.t.bs.size,h.t.bs)]
def deskL (hs:List Hp):List (Int×ByteArray):=hs.flatMap deskH
def toldL (hs:List Hp)(rs:List Roa.Rd):List (Int×ByteArray):=if hopsB hs rs then deskL hs else []
theorem deskL_step {hs:List Hp}{k:Nat}{h:Hp}(e:hs[k]? =some h):deskL (hs.take (k+1))=deskL (hs.take k)++deskH h:=by
 rw [List.take_add_one,e]
 simp [deskL]
theorem deskL_len (hs:List Hp):(deskL hs).length=2*hs.length:=by
 induction hs with
 | nil=>rfl
 | cons x hs ih=>simp only [deskL,List.flatMap_cons,List.length_append,List.length_cons]at *;rw [ih];simp [deskH];omega
theorem hop_fine {h:Hp}(hb:hopB h=true):(0≤h.g.ba∧h.g.ba+h.g.bs.size≤1000000000)∧0≤h.t.nx-h.t.bs.size∧h.t.nx≤1000000000:=by
 obtain⟨_,h1,h2,_⟩:=Hop.hop_ok hb
 have q:=Giv.ok_iff.1 h1
 have r:=Tak.taker_in h2
 obtain⟨hin,-,-⟩:=Tak.ok_iff.1 h2
 have r1:=hin.2.1
 have r2:=hin.2.2.1.2
 omega
structure Ea (B kk:Nat)(TE:TypeId)(Q:List Hd→World→Prop)(hs:List Hp)(k:Nat)(w wr:World)(l:List Hd):Prop where
 q:Q l wr
 key:l.map Hd.key=deskL (hs.take k)
 fr:Fr B kk TE w wr
theorem eachDesk (F:FuncId)(hFF:F=13)(B kk:Nat)(TE:TypeId)(hT:27≠TE∧47≠TE)(Q:List Hd→World→Prop)(hQl: ∀l w1 w2,Below w1.heap.size w1 w2→Q l w1→Q l w2)
  (hF: ∀(hd:Hd) (l:List Hd) (w1:World),Q l w1→HdAt w1 hd→hd.Fine→B≤w1.heap.size→kk<w1.heap.size→l.length≤6→Calls Tryz.prog F #[.agg hd.c.toArray,.pointer (some ⟨kk,0,none⟩)] w1 fun e w'=>e=.returned (.tuple #[])∧Q (l++[hd]) w'∧Fr B kk TE w1 w')
  (aH aR:Option Addr) (cH cR:Nat) (xs:List Ha) (rs:List Roa.Rd) (w0 w:World) (hB:w0.heap.size=B) (b0:Below B w0 w) (L:LL w0 aH xs) (R:Roa.E.Lies w0 aR rs) (hr:rs.length≤1000) (hs: ∀x∈xs,x.h.Sm) (hq:Q [] w) (hkk:kk<w.heap.size):
  Calls Tryz.prog 12 #[.agg #[.slice aH xs.length cH,.slice aR rs.length cR],.func (.func F) #[] #[.pointer (some ⟨kk,0,none⟩)]] w fun e w'=>e=.returned (.tuple #[])∧ ∃l,Q l w'∧l.map Hd.key=toldL (xs.map (·.h)) rs∧Fr B kk TE w w':=by
 subst hB
 rcases hFF with rfl
 all_goals
  have hmix:=Roa.mix
  have b1:=(Below.refl w.heap.size w).alloc (Nat.le_refl _) (.cells #[.slice aH xs.length cH,.slice aR rs.length cR] 27)
  have v0:Var 27 (w.alloc (.cells #[.slice aH xs.length cH,.slice aR rs.length cR] 27)) w.heap.size [.slice aH xs.length cH,.slice aR rs.length cR]:=Var.new w _
  have f0:Fr w0.heap.size kk TE w (w.alloc (.cells #[.slice aH xs.length cH,.slice aR rs.length cR] 27)):=Fr.ofLater b0.size b1
  have hq0:=hQl _ _ _ b1 hq
  have B0:=b0.trans (b1.mono b0.size)
  have hne:w.heap.size≠kk:=by omega
  clear b1 hq
  go_enter Tryz.func12,Tryz.ntmps12
  go_upto_region 1 with(fail)
  generalize w.alloc (.cells #[.slice aH xs.length cH,.slice aR rs.length cR] 27)=V at *
  have e0:=v0.cell (i:=0) rfl
  have e1:=v0.cell (i:=1) rfl
  go_wp2_with fail
  refine(implLineOk aH aR xs.length rs.length cH cR xs rs _ rfl rfl (L.later B0) (R.later B0) hr hs).mono ?_
  rintro e w1 ⟨rfl,b1⟩
  replace v0:=v0.later b1
  replace f0:=f0.later b0.size b1
  replace hq0:=hQl _ _ _ b1 hq0
  clear e0 e1 B0
  cases hb:hopsB (xs.map (·.h)) rs
  case false=>
   go_wp2_with fail
   refine bodyPost_ret (results_none rfl _ _ _) rfl ?_
   exact⟨rfl,[],hq0,by rw [toldL,hb];rfl,f0⟩
  have HB:Hid (hopsB (xs.map (·.h)) rs=true):=hb
  clear hb b1
  have H3:Hid (xs.length=3):=by have:=(hops_iff.1 HB.out).1;rw [List.length_map]at this;exact this
  have HL:Hid (LL w0 aH xs):=L
  have HV:Hid (Var 27 w1 w.heap.size [.slice aH xs.length cH,.slice aR rs.length cR]):=v0
  have HF:Hid (Fr w0.heap.size kk TE w w1):=f0
  have HQ:Hid (Q [] w1):=hq0
  have HFF:Hid _:=hF
  have HQL:Hid _:=hQl
  have HW:Hid (w0.heap.size≤w.heap.size):=b0.size
  have HB0:Hid (Below w0.heap.size w0 w):=b0
  have HKK:Hid (kk<w.heap.size):=hkk
  have e0:=v0.cell (i:=0) rfl
  clear L v0 f0 hq0 hF hQl b0 R hr hs hkk
  go_wp2_with fail
  clear e0
  go_loopw [5,12] (fun _ iv wr=> ∃(k:Nat) (l:List Hd),k≤3∧iv=.int .i64 k∧Ea w0.heap.size kk TE Q (xs.map (·.h)) k w wr l) (fun _ iv _=>3-(intOf iv).toNat)
  case atStart=>exact⟨0,[],by omega,rfl,HQ.out,rfl,HF.out⟩
  case round=>
   obtain⟨k,l,hk,rfl,E⟩:=hrel
   by_cases hk3:k<3
   case neg=>
    have i0: ¬(k:Int)<(xs.length:Int):=by rw [H3.out];omega
    go_wp2_with fail
    go_end0
    refine⟨rfl,l,E.q,?_,E.fr⟩
    rw [toldL,HB.out,if_pos rfl,E.key,List.take_of_length_le (by rw [List.length_map,H3.out];omega)]
   case pos=>
    have i0:(k:Int)<(xs.length:Int):=by rw [H3.out];omega
    have i1:(0:Int)≤(k:Int):=by omega
    obtain⟨x,hx⟩: ∃x,xs[k]? =some x:=⟨xs[k]'(by rw [H3.out];exact hk3),List.getElem?_eq_getElem _⟩
    have Bk:=HB0.out.trans E.fr.bel
    have Lr:=HL.out.later Bk
    have hfi:=hop_fine (hop_at HB.out hx)
    have hst:Hid (deskL ((xs.map (·.h)).take (k+1))=deskL ((xs.map (·.h)).take k)++deskH x.h):=deskL_step (h:=x.h) (by simp [hx])
    have hlen:Hid (l.length=2*k):=by
     have:=congrArg List.length E.key
     rw [List.length_map,deskL_len,List.length_take,List.length_map,H3.out]at this
     show _=_
     omega
    obtain⟨b,off,rfl,hL1⟩: ∃b off,aH=some ⟨b,off,none⟩∧ ∀j u,(hopE.vals xs)[j]? =some u→wr.cell? ⟨b,off+j,none⟩=some u:=by
     rcases Lr.row with h0|h0
     ·simp [h0]at hx
     ·exact h0
    have c0:wr.cell? ⟨b,off+k*13,none⟩=some (.int .i64 x.h.g.ba):=El.Lies.cell hL1 hx (j:=0) rfl
    have c1:wr.cell? ⟨b,off+k*13+1,none⟩=some (.string x.h.g.bs):=El.Lies.cell hL1 hx (j:=1) rfl
    have c2:wr.cell? ⟨b,off+k*13+2,none⟩=some (.int .i64 x.h.g.cp):=El.Lies.cell hL1 hx (j:=2) rfl
    have c3:wr.cell? ⟨b,off+k*13+3,none⟩=some (.int .i64 x.h.g.lm):=El.Lies.cell hL1 hx (j:=3) rfl
    have c4:wr.cell? ⟨b,off+k*13+4,none⟩=some (.bool x.h.g.en):=El.Lies.cell hL1 hx (j:=4) rfl
    have c5:wr.cell? ⟨b,off+k*13+5,none⟩=some (.bool x.h.g.dn):=El.Lies.cell hL1 hx (j:=5) rfl
    have c6:wr.cell? ⟨b,off+k*13+6,none⟩=some (.int .i64 x.h.t.nx):=El.Lies.cell hL1 hx (j:=6) rfl
    have c7:wr.cell? ⟨b,off+k*13+7,none⟩=some (.string x.h.t.bs):=El.Lies.cell hL1 hx (j:=7) rfl
    have c8:wr.cell? ⟨b,off+k*13+8,none⟩=some (.slice x.aT x.h.t.l.length x.cT):=El.Lies.cell hL1 hx (j:=8) rfl
    have c9:wr.cell? ⟨b,off+k*13+9,none⟩=some (.int .i64 x.h.t.cp):=El.Lies.cell hL1 hx (j:=9) rfl
    have c10:wr.cell? ⟨b,off+k*13+10,none⟩=some (.int .i64 x.h.t.fi):=El.Lies.cell hL1 hx (j:=10) rfl
    have c11:wr.cell? ⟨b,off+k*13+11,none⟩=some (.bool x.h.t.en):=El.Lies.cell hL1 hx (j:=11) rfl
    have c12:wr.cell? ⟨b,off+k*13+12,none⟩=some (.slice x.aW x.h.ws.length x.cW):=El.Lies.cell hL1 hx (j:=12) rfl
    clear Lr hL1 hx
    have v5:Var 47 (wr.alloc (.cells #[.int .i64 x.h.g.ba,.string x.h.g.bs,.int .i64 x.h.g.cp,.int .i64 x.h.g.lm,.bool x.h.g.en,.bool x.h.g.dn,.int .i64 x.h.t.nx,.string x.h.t.bs,.slice x.aT x.h.t.l.length x.cT,.int .i64 x.h.t.cp,.int .i64 x.h.t.fi,.bool x.h.t.en,.slice x.aW x.h.ws.length x.cW] 47)) wr.heap.size [.int .i64 x.h.g.ba,.string x.h.g.bs,.int .i64 x.h.g.cp,.int .i64 x.h.g.lm,.bool x.h.g.en,.bool x.h.g.dn,.int .i64 x.h.t.nx,.string x.h.t.bs,.slice x.aT x.h.t.l.length x.cT,.int .i64 x.h.t.cp,.int .i64 x.h.t.fi,.bool x.h.t.en,.slice x.aW x.h.ws.length x.cW]:=Var.new wr _
    have b2:=(Below.refl wr.heap.size wr).alloc (Nat.le_refl _) (.cells #[.int .i64 x.h.g.ba,.string x.h.g.bs,.int .i64 x.h.g.cp,.int .i64 x.h.g.lm,.bool x.h.g.en,.bool x.h.g.dn,.int .i64 x.h.t.nx,.string x.h.t.bs,.slice x.aT x.h.t.l.length x.cT,.int .i64 x.h.t.cp,.int .i64 x.h.t.fi,.bool x.h.t.en,.slice x.aW x.h.ws.length x.cW] 47)
    have f2:=E.fr.later HW.out b2
    have q2:=HQL.out _ _ _ b2 E.q
    have hk5:wr.heap.size≠kk:=by have:=E.fr.bel.size;have:=HKK.out;have:=HW.out;omega
    have zB:w0.heap.size≤wr.heap.size:=Bk.size
    have zK:kk<(wr.alloc (.cells #[.int .i64 x.h.g.ba,.string x.h.g.bs,.int .i64 x.h.g.cp,.int .i64 x.h.g.lm,.bool x.h.g.en,.bool x.h.g.dn,.int .i64 x.h.t.nx,.string x.h.t.bs,.slice x.aT x.h.t.l.length x.cT,.int .i64 x.h.t.cp,.int .i64 x.h.t.fi,.bool x.h.t.en,.slice x.aW x.h.ws.length x.cW] 47)).heap.size:=by have:=E.fr.bel.size;have:=HKK.out;have:=b2.size;have:=v5.lt;omega
    have HKEY:Hid (l.map Hd.key=deskL ((xs.map (·.h)).take k)):=E.key
    clear E Bk b2
    go_upto_region 5 with(fail)
    clear c0 c1 c2 c3 c4 c5 c6 c7 c8 c9 c10 c11 c12
    generalize wr.alloc (.cells #[.int .i64 x.h.g.ba,.string x.h.g.bs,.int .i64 x.h.g.cp,.int .i64 x.h.g.lm,.bool x.h.g.en,.bool x.h.g.dn,.int .i64 x.h.t.nx,.string x.h.t.bs,.slice x.aT x.h.t.l.length x.cT,.int .i64 x.h.t.cp,.int .i64 x.h.t.fi,.bool x.h.t.en,.slice x.aW x.h.ws.length x.cW] 47)=V2 at *
    have z2:w0.heap.size≤V2.heap.size:=by have:=v5.lt;omega
    generalize wr.heap.size=k5 at *
    clear zB
    have c0:=v5.cell (i:=0) rfl
    have c1:=v5.cell (i:=1) rfl
    go_wp2_with fail
    refine(heldFrom _ _ _).mono ?_
    rintro e w3 ⟨k1,k2,rfl,hA,b3⟩
    replace v5:=v5.later b3
    replace f2:=f2.later HW.out b3
    replace q2:=HQL.out _ _ _ b3 q2
    replace z2:=Nat.le_trans z2 b3.size
    replace zK:=Nat.lt_of_lt_of_le zK b3.size
    clear c0 c1 b3
    go_wp2_with fail
    refine(HFF.out ⟨k1,k2,x.h.g.ba,x.h.g.bs⟩ l _ q2 hA hfi.1 z2 zK (by rw [hlen.out];omega)).mono ?_
    rintro e w4 ⟨rfl,q4,f4⟩
    have v6:=f4.var _ _ _ v5 hT.2 hk5
    have f6:=f2.trans f4
    have z4:w0.heap.size≤w4.heap.size:=Nat.le_trans z2 f4.bel.size
    have zK4:kk<w4.heap.size:=Nat.lt_of_lt_of_le zK f4.bel.size
    clear v5 f2 q2 f4 z2 zK hA
    go_upto_region 6 with(fail)
    have c6:=v6.cell (i:=6) rfl
    have c7:=v6.cell (i:=7) rfl
    have hbd: -9223372036854775808≤x.h.t.nx-(x.h.t.bs.size:Int)∧x.h.t.nx-(x.h.t.bs.size:Int)≤9223372036854775807:=by omega
    go_wp2_with fail
    refine(heldFrom _ _ _).mono ?_
    rintro e w5 ⟨k3,k4,rfl,hA,b5⟩
    replace f6:=f6.later HW.out b5
    replace q4:=HQL.out _ _ _ b5 q4
    replace z4:=Nat.le_trans z4 b5.size
    replace zK4:=Nat.lt_of_lt_of_le zK4 b5.size
    clear c6 c7 b5 v6
    go_wp2_with fail
    refine(HFF.out ⟨k3,k4,x.h.t.nx-x.h.t.bs.size,x.h.t.bs⟩ _ _ q4 hA ⟨hfi.2.1,by have:=hfi.2.2;show x.h.t.nx-(x.h.t.bs.size:Int)+(x.h.t.bs.size:Int)≤1000000000;omega⟩ z4 zK4 (by rw [List.length_append,hlen.out];simp;omega)).mono ?_
    rintro e w6 ⟨rfl,q5,f5⟩
    have EE:Ea w0.heap.size kk TE Q (xs.map (·.h)) (k+1) w w6 (l++[⟨k1,k2,x.h.g.ba,x.h.g.bs⟩]++[⟨k3,k4,x.h.t.nx-x.h.t.bs.size,x.h.t.bs⟩]):=⟨q5,by rw [List.map_append,List.map_append,HKEY.out,hst.out,List.append_assoc];rfl,f6.trans f5⟩
    clear f6 f5 q4 q5 hA hst hlen HKEY hfi hbd z4 zK4
    go_wp2_with fail
    go_roundw
    case rel=>exact⟨k+1,_,by omega,by go_num,EE⟩
    case measure=>simp [intOf];omega
def endK (p:Int×ByteArray):Int:=p.1+p.2.size
end Go.Proofs.YtfejobjgbadfjaaGreat.Cou
