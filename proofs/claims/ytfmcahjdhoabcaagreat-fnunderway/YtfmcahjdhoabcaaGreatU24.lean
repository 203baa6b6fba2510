/- Contracts of this seat's functions, and their mathematics (CouA WorB StrA). -/
import Derived.Test.YtfmcahjdhoabcaaGreatU23
import Derived.Test.YtfmcahjdhoabcaaGreatU8
import Derived.Laws.EntriesVeiled
import Derived.Test.YtfmcahjdhoabcaaGreatU19
import Derived.Test.YtfmcahjdhoabcaaGreatU4
import Derived.Test.YtfmcahjdhoabcaaGreatU1
import Derived.Laws.Strings
set_option linter.unusedVariables false
set_option linter.unusedSimpArgs false
set_option maxRecDepth 10000
set_option maxHeartbeats 4000000
namespace Go.Proofs.YtfmcahjdhoabcaaGreat.Cou
open Go.RowKit RowG
structure Hd where
 k1:Nat
 k2:Nat
 st:Int
 bs:ByteArray
abbrev Hd.c (d:Hd):List Value:=[.func (.func 71) #[] #[.pointer (some ⟨d.k1,0,none⟩)],.func (.func 72) #[] #[.pointer (some ⟨d.k1,0,none⟩),.pointer (some ⟨d.k2,0,none⟩)],.func (.func 73) #[] #[.pointer (some ⟨d.k2,0,none⟩),.pointer (some ⟨d.k1,0,none⟩)]]
structure HdAt (w:World)(d:Hd):Prop where
 a:Var 2 w d.k1 [.int .i64 d.st]
 b:Var 9 w d.k2 [.string d.bs]
theorem HdAt.later {w w':World}{d:Hd}(h:HdAt w d)(b:Below w.heap.size w w'):HdAt w' d:=⟨h.a.later b,h.b.later b⟩
theorem HdAt.drew {w:World}{d:Hd}(h:HdAt w d):HdAt w.drew d:=⟨h.a.drew,h.b.drew⟩
def Hd.en (d:Hd):Int:=d.st+d.bs.size
def Hd.Fine (d:Hd):Prop:=0≤d.st∧d.st+d.bs.size≤1000000000
theorem held1 (d:Hd)(w:World)(h:HdAt w d):Calls Tryz.prog 71 #[.pointer (some ⟨d.k1,0,none⟩)] w fun e w'=>e=.returned (.int .i64 d.st)∧w'=w:=by
 have e0:=h.a.cell (i:=0) rfl
 go_enter Tryz.func71,Tryz.ntmps71
 go_wp2_with fail
 go_ret
 exact⟨rfl,rfl⟩
theorem held2 (d:Hd)(w:World)(h:HdAt w d)(hf:d.Fine):Calls Tryz.prog 72 #[.pointer (some ⟨d.k1,0,none⟩),.pointer (some ⟨d.k2,0,none⟩)] w fun e w'=>e=.returned (.int .i64 d.en)∧w'=w:=by
 have e0:=h.a.cell (i:=0) rfl
 have e1:=h.b.cell (i:=0) rfl
 obtain⟨f0,f1⟩:=hf
 have z: -9223372036854775808≤d.st+(d.bs.size:Int)∧d.st+(d.bs.size:Int)≤9223372036854775807:=by omega
 go_enter Tryz.func72,Tryz.ntmps72
 go_wp2_with fail
 go_ret
 exact⟨by unfold Hd.en;go_num,rfl⟩
theorem heldFrom (st:Int)(bs:ByteArray)(w:World):Calls Tryz.prog 50 #[.int .i64 st,.string bs] w fun e w'=> ∃k1 k2,e=.returned (.agg (Hd.c ⟨k1,k2,st,bs⟩).toArray)∧HdAt w' ⟨k1,k2,st,bs⟩∧Below w.heap.size w w':=by
 have va:Var 2 (((w.alloc (.cells #[.int .i64 st] 2)).alloc (.cells #[.string bs] 9)).alloc (.cells (Hd.c (⟨w.heap.size,w.heap.size+1,st,bs⟩:Hd)).toArray 59)) w.heap.size [.int .i64 st]:=((Var.new w _).alloc _).alloc _
 have vb:Var 9 (((w.alloc (.cells #[.int .i64 st] 2)).alloc (.cells #[.string bs] 9)).alloc (.cells (Hd.c (⟨w.heap.size,w.heap.size+1,st,bs⟩:Hd)).toArray 59)) (w.heap.size+1) [.string bs]:=by
  have q:=(Var.new (T:=9) (w.alloc (.cells #[.int .i64 st] 2)) [.string bs]).alloc (.cells (Hd.c (⟨w.heap.size,w.heap.size+1,st,bs⟩:Hd)).toArray 59)
  simpa using q
 have vc:Var 59 (((w.alloc (.cells #[.int .i64 st] 2)).alloc (.cells #[.string bs] 9)).alloc (.cells (Hd.c (⟨w.heap.size,w.heap.size+1,st,bs⟩:Hd)).toArray 59)) (w.heap.size+1+1) (Hd.c (⟨w.heap.size,w.heap.size+1,st,bs⟩:Hd)):=by
  have q:=Var.new (T:=59) ((w.alloc (.cells #[.int .i64 st] 2)).alloc (.cells #[.string bs] 9)) (Hd.c (⟨w.heap.size,w.heap.size+1,st,bs⟩:Hd))
  simpa using q
 have b0:Below w.heap.size w (((w.alloc (.cells #[.int .i64 st] 2)).alloc (.cells #[.string bs] 9)).alloc (.cells (Hd.c (⟨w.heap.size,w.heap.size+1,st,bs⟩:Hd)).toArray 59)):=(((Below.refl _ _).alloc (Nat.le_refl _) _).alloc (by simp) _).alloc (by simp;omega) _
 go_enter Tryz.func50,Tryz.ntmps50
 go_wp2_with fail
 generalize ((w.alloc (.cells #[.int .i64 st] 2)).alloc (.cells #[.string bs] 9)).alloc (.cells _ 59)=WZ at *
 have c0:=vc.cell (i:=0) rfl
 have c1:=vc.cell (i:=1) rfl
 have c2:=vc.cell (i:=2) rfl
 refine bodyPost_ret (v:=.agg (Hd.c (⟨w.heap.size,w.heap.size+1,st,bs⟩:Hd)).toArray) (by rw [Hop.res_one rfl];go_simp) rfl ⟨_,_,rfl,⟨va,vb⟩,b0⟩
end Go.Proofs.YtfmcahjdhoabcaaGreat.Cou
namespace Go.Proofs.YtfmcahjdhoabcaaGreat.Wor
open Go.RowKit RowG Hop Roa Pum
theorem post_ws {h:Hp}{y x:Lt}(hx:x∈(postH h y).ws):x∈h.ws∨x=y:=by
 unfold postH at hx
 split at hx
 ·simpa using hx
 ·exact .inl hx
theorem send_ws {h:Hp}{r p n:Int}{x:Lt}(hx:x∈(sendH h r p n).1.ws):x∈h.ws∨x.rd=r:=by
 unfold sendH at hx
 split at hx
 ·rcases post_ws hx with q|q
  ·exact .inl q
  ·right;rw [q];rfl
 ·exact .inl hx
theorem tell_ws {h:Hp}{r:Int}{d:Bool}{x:Lt}(hx:x∈(tellH h r d).1.ws):x∈h.ws∨x.rd=r:=by
 rcases post_ws hx with q|q
 ·exact .inl q
 ·right;rw [q];rfl
theorem out_ws {h:Hp}{n:Int}{x:Lt}(hx:x∈(outH h n).1.ws):x∈h.ws:=by
 obtain⟨⟨y,z,is⟩,hR⟩: ∃R,outH h n=R:=⟨_,rfl⟩
 rw [hR]at hx
 cases is
 ·have:y=h:=by
   unfold outH at hR
   split at hR
   ·split at hR
    ·simp at hR
    ·simp only [Prod.mk.injEq]at hR;exact hR.1.symm
   ·simp only [Prod.mk.injEq]at hR;exact hR.1.symm
  rw [this]at hx
  exact hx
 ·exact(outH_in hR).2.2.2.1 x hx
theorem come_ws {h:Hp}{n:Int}{x:Lt}(hx:x∈(comeH h n).1.ws):x∈h.ws:=by
 have key:=@out_ws h n x
 unfold comeH at hx
 obtain⟨⟨y,z,is⟩,hR⟩: ∃R,outH h n=R:=⟨_,rfl⟩
 rw [hR]at hx key
 cases is <;>simp only at hx key
 ·exact key hx
 ·split at hx <;>exact key hx
theorem road_of {i:Nat}{rs:List Rd}{road:Int}{x:Lt}(ho:openB rs (i:Int) road=true)(hx:x.rd=road):roadB i rs x=true:=by
 unfold openB at ho
 unfold roadB
 by_cases e:i=1
 ·subst e
  rw [if_pos (by omega)]at ho
  rw [if_pos rfl]
  simp only [hasB,Bool.and_eq_true,decide_eq_true_eq]at ho
  rw [hx]
  exact decide_eq_true ho.1.2
 ·rw [if_neg (by omega)]at ho
  rw [if_neg e,hx]
  exact ho
theorem stream_iff {W:Wd}:streamB W=true↔W.tx.size≤2000∧(0≤W.rd∧W.rd≤(W.tx.size:Int))∧(W.sn=true→W.en=true∧W.rd=(W.tx.size:Int))∧(W.dn=true→W.en=true):=by
 unfold streamB
 cases W.sn <;>cases W.dn <;>cases W.en <;>simp
theorem ok_parts {W:Wd}:okW W=true↔hopsB W.hs W.rs=true∧streamB W=true:=by simp [okW]
theorem at_ok {W:Wd}(h:hopsB W.hs W.rs=true){i:Nat}(hi:i<3):hopB (W.at i)=true∧ ∀x∈(W.at i).ws,roadB i W.rs x=true:=(hops_iff.1 h).2.2 i hi
theorem ok_put {W:Wd}(h:okW W=true){i:Nat}(hi:i<3){y:Hp}(h1:hopB y=true)(h2: ∀x∈y.ws,roadB i W.rs x=true):okW (W.put i y)=true:=by
 obtain⟨a1,a2⟩:=ok_parts.1 h
 exact ok_parts.2 ⟨hops_put a1 hi h1 h2,a2⟩
theorem ok_pump {W:Wd}(h:okW W=true){i:Nat}(hi:i<2){n:Int}(hn:0≤n):okW (pumpW W i n).1=true:=by
 obtain⟨a1,a2⟩:=ok_parts.1 h
 obtain⟨b1,b2⟩:=at_ok a1 (show i<3 by omega)
 obtain⟨c1,c2⟩:=at_ok a1 (show i+1<3 by omega)
 obtain⟨-,d2,d3,-⟩:=hop_ok b1
 obtain⟨-,e2,-,-⟩:=hop_ok c1
 obtain⟨m0,m1,m2⟩:=move_in (t:=(W.at i).t) (n:=n) e2 hn
 have k1:=ok_put h (show i<3 by omega) (y:={W.at i with t:=leftT (W.at i).t (moveN (W.at i).t (W.at (i+1)).g n)}) (taker_ok b1 (left_ok d3 m0 m1)) b2
 exact ok_put k1 (show i+1<3 by omega) (giver_ok c1 (more_ok e2 hn)) c2
theorem ok_hop {W:Wd}(h:okW W=true){a:Ac}{i:Nat}(hi:i<3)(ha:a.hp=(i:Int)):okW (hopW W a i).1=true:=by
 obtain⟨a1,a2⟩:=ok_parts.1 h
 obtain⟨b1,b2⟩:=at_ok a1 hi
 unfold hopW
 split
 ·split
  ·rename_i ho
   rw [ha]at ho
   exact ok_put h hi (send_ok b1 _ _ _) fun x hx=>(send_ws hx).elim (b2 x) (road_of ho)
  ·exact h
 split
 ·split
  ·rename_i ho
   rw [ha]at ho
   exact ok_put h hi (tell_ok b1 _ _) fun x hx=>(tell_ws hx).elim (b2 x) (road_of ho)
  ·exact h
 split
 ·split
  ·exact h
  ·split
   ·exact ok_put h hi (come_ok b1 _) fun x hx=>b2 x (come_ws hx)
   ·exact h
 split
 ·exact ok_put h hi (out_ok b1 _) fun x hx=>b2 x (out_ws hx)
 split
 ·split
  ·exact h
  ·rename_i y hy
   have hm:y∈(W.at i).ws:=by
    split at hy
    ·exact List.mem_of_getElem? hy
    ·cases hy
   exact ok_put h hi (post_ok b1 _) fun x hx=>(post_ws hx).elim (b2 x) (fun e=>by rw [e];exact b2 y hm)
 split
 ·rename_i q
  exact ok_pump h (by omega) q.2.1
 ·exact h
theorem ok_tell {W:Wd}(h:okW W=true)(seen:Bool):okW (tellW W seen)=true:=by
 obtain⟨a1,a2⟩:=ok_parts.1 h
 obtain⟨b1,b2,b3,b4⟩:=stream_iff.1 a2
 unfold tellW
 split
 ·rename_i hq
  simp only [tellB,Bool.and_eq_true]at hq
  obtain⟨⟨q1,q2⟩,q3⟩:=hq
  cases seen
  ·exact ok_parts.2 ⟨a1,stream_iff.2 ⟨b1,b2,b3,fun _=>q1⟩⟩
  ·refine ok_parts.2 ⟨a1,stream_iff.2 ⟨b1,b2,fun _=>⟨q1,?_⟩,b4⟩⟩
   simp only [Bool.true_and,Bool.not_or,Bool.and_eq_true,Bool.not_eq_true',decide_eq_false_iff_not]at q2
   show W.rd=(W.tx.size:Int)
   omega
 ·exact h
theorem ok_read {W:Wd}(h:okW W=true)(n:Int):okW (readW W n).1=true:=by
 obtain⟨a1,a2⟩:=ok_parts.1 h
 obtain⟨b1,b2⟩:=at_ok a1 (show 2<3 by omega)
 obtain⟨-,d2,d3,-⟩:=hop_ok b1
 obtain⟨s1,s2,s3,s4⟩:=stream_iff.1 a2
 unfold readW
 split
 ·exact h
 rename_i hn
 dsimp only
 split
 ·exact h
 rename_i hq
 have hm0:0≤min n ((W.at 2).t.bs.size:Int):=by omega
 have hm1:min n ((W.at 2).t.bs.size:Int)≤((W.at 2).t.bs.size:Int):=by omega
 have hle:W.rd+min n ((W.at 2).t.bs.size:Int)≤(W.tx.size:Int):=by
  apply Int.not_lt.1
  intro q
  exact hq (.inl q)
 have k1:okW {W.put 2 {W.at 2 with t:=leftT (W.at 2).t (min n ((W.at 2).t.bs.size:Int))}with rd:=W.rd+min n ((W.at 2).t.bs.size:Int)}=true:=by
  refine ok_parts.2 ⟨hops_put a1 (by omega) (taker_ok b1 (left_ok d3 hm0 hm1)) b2,stream_iff.2 ⟨s1,⟨?_,hle⟩,fun q=>⟨(s3 q).1,?_⟩,s4⟩⟩
  ·show 0≤W.rd+_
   omega
  ·have:=(s3 q).2
   show W.rd+_=_
   have hle':W.rd+min n ((W.at 2).t.bs.size:Int)≤(W.tx.size:Int):=hle
   show W.rd+min n ((W.at 2).t.bs.size:Int)=(W.tx.size:Int)
   omega
 split
 ·exact ok_tell k1 true
 ·exact k1
theorem turn_ok {l:List Rd}(h:roadsB l=true)(r:Int)(o:Bool):roadsB (turnL l r o)=true∧(turnL l r o).length=l.length:=by
 cases hb:turnB l r o
 ·have e:turnL l r o=l:=by simp [turnL,h,hb]
  rw [e]
  exact⟨h,rfl⟩
 ·have hk:0≤r∧r<(l.length:Int):=by
   simp only [turnB,hasB,Bool.and_eq_true,decide_eq_true_eq]at hb
   exact hb.2.1
  have e:turnL l r o=l.set r.toNat {at' l r.toNat with op:=o}:=by simp [turnL,h,hb]
  rw [e]
  refine⟨?_,by rw [List.length_set]⟩
  have hr:rdB (at' l r.toNat)=true:=by
   cases q:rdB (at' l r.toNat)
   ·rw [rd_false (by omega) q]at h;cases h
   ·rfl
  simp only [roadsB,Bool.and_eq_true,List.all_eq_true,decide_eq_true_eq,List.length_set]at h ⊢
  refine⟨fun x hx=>?_,h.2⟩
  rcases List.mem_or_eq_of_mem_set hx with q|q
  ·exact h.1 x q
  ·rw [q]
   exact hr
theorem ok_do {W:Wd}(h:okW W=true)(a:Ac):okW (doW W a).1=true:=by
 obtain⟨a1,a2⟩:=ok_parts.1 h
 obtain⟨b1,b2⟩:=at_ok a1 (show 0<3 by omega)
 obtain⟨-,d2,d3,-⟩:=hop_ok b1
 obtain⟨s1,s2,s3,s4⟩:=stream_iff.1 a2
 unfold doW
 split
 ·dsimp only
  have k1:okW (W.put 0 {W.at 0 with g:=(Giv.writeG (W.at 0).g a.tx).1})=true:=ok_put h (by omega) (giver_ok b1 (Giv.write_ok d2 _)) b2
  split
  ·rename_i hn
   split
   ·exact k1
   ·rename_i hq
    simp only [Bool.or_eq_true,decide_eq_true_eq,not_or]at hq
    have hen:W.en=false:=by simpa using hq.1
    have hsz:((W.tx++a.tx.extract 0 (Giv.writeG (W.at 0).g a.tx).2.toNat).size:Int)=(W.tx.size:Int)+(a.tx.extract 0 (Giv.writeG (W.at 0).g a.tx).2.toNat).size:=by simp
    have hes:(a.tx.extract 0 (Giv.writeG (W.at 0).g a.tx).2.toNat).size≤(Giv.writeG (W.at 0).g a.tx).2.toNat:=by simp;omega
    refine ok_parts.2 ⟨(ok_parts.1 k1).1,stream_iff.2 ⟨?_,⟨s2.1,?_⟩,fun q=>absurd (s3 q).1 (by rw [hen];decide),s4⟩⟩
    ·show(W.tx++_).size≤2000
     omega
    ·show W.rd≤((W.tx++_).size:Int)
     omega
  ·exact k1
 split
 ·split
  ·exact h
  ·have k1:okW (W.put 0 {W.at 0 with g:={(W.at 0).g with en:=true}})=true:=by
    refine ok_put h (by omega) (giver_ok b1 ?_) b2
    have:=end_ok d2 true
    rw [Bool.or_true]at this
    exact this
   refine ok_parts.2 ⟨(ok_parts.1 k1).1,stream_iff.2 ⟨s1,s2,fun q=>⟨rfl,(s3 q).2⟩,fun _=>rfl⟩⟩
 split
 ·split
  ·rename_i q
   exact ok_hop h (by omega) (by omega)
  ·exact h
 split
 ·exact ok_read h _
 split
 ·obtain⟨t1,t2⟩:=turn_ok (hops_iff.1 a1).2.1 a.ro (decide (a.n=1))
  refine ok_parts.2 ⟨hops_iff.2 ⟨(hops_iff.1 a1).1,t1,fun i hi=>⟨(at_ok a1 hi).1,fun x hx=>?_⟩⟩,a2⟩
  have:=(at_ok a1 hi).2 x hx
  unfold roadB at this ⊢
  rw [t2]
  exact this
 split
 ·split
  ·exact ok_tell h false
  ·exact h
 ·exact h
theorem ok_happen {W:Wd}(h:okW W=true)(a:Ac):okW (happenW W a).1=true:=by
 unfold happenW
 split
 ·exact ok_do h a
 ·exact h
end Go.Proofs.YtfmcahjdhoabcaaGreat.Wor
namespace Go.Proofs.YtfmcahjdhoabcaaGreat.Str
open Go.RowKit RowG
theorem beq_text (x y:ByteArray):(x.toList==y.toList)=decide (x=y):=by
 rw [ByteArray.toList_eq,ByteArray.toList_eq]
 by_cases e:x=y
 ·rw [e]
  simp
 ·rw [decide_eq_false e]
  refine beq_eq_false_iff_ne.2 fun q=>e ?_
  cases x
  cases y
  congr 1
  exact Array.toList_inj.1 q
structure Sm where
 tx:ByteArray
 rd:Int
 en:Bool
 dn:Bool
 sn:Bool
abbrev Sm.c (s:Sm):List Value:=[.string s.tx,.int .i64 s.rd,.bool s.en,.bool s.dn,.bool s.sn]
abbrev Sm.v (s:Sm):Value:=.agg #[.string s.tx,.int .i64 s.rd,.bool s.en,.bool s.dn,.bool s.sn]
def growB (s:Sm)(b:ByteArray):Bool:= !(s.en||decide (2000<(s.tx.size:Int)+b.size))
def growS (s:Sm)(b:ByteArray):Sm:=if growB s b then {s with tx:=s.tx++b}else s
def readB (s:Sm)(b:ByteArray):Bool:= !(decide ((s.tx.size:Int)<s.rd+b.size)||decide (s.tx.extract s.rd.toNat (s.rd+b.size).toNat≠b))
def readS (s:Sm)(b:ByteArray):Sm:=if readB s b then {s with rd:=s.rd+b.size}else s
def tellB (s:Sm)(seen:Bool):Bool:=s.en&& !(seen&&(s.sn||decide (s.rd<(s.tx.size:Int))))&& !(!seen&&s.dn)
def tellS (s:Sm)(seen:Bool):Sm:=if tellB s seen then(if seen then {s with sn:=true}else {s with dn:=true})else s
theorem l15Grow {T:TypeId}{pre post:List Value}{ow:Nat}(k:Nat)(s:Sm)(b:ByteArray)(w:World)(hv:Win T pre post ow w k s.c)(hs:s.tx.size≤2097152)(hb:b.size≤2097152):
  Calls Tryz.prog 82 #[.pointer (some ⟨k,ow,none⟩),.string b] w fun x w'=>x=.returned (.bool (growB s b))∧Win T pre post ow w' k (growS s b).c∧Draw.Kept k w w':=by
 have hmix:=Tak.mix
 have HG:Hid (growS s b=if growB s b then {s with tx:=s.tx++b}else s):=rfl
 have HB:Hid (growB s b= !(s.en||decide (2000<(s.tx.size:Int)+b.size))):=rfl
 generalize growS s b=S' at *
 generalize growB s b=B' at *
 have e0:=hv.cell0 rfl
 have e2:=hv.cell (i:=2) rfl
 have f0:=hv.free0
 have v1:Hid _:=hv.set0 (.string (s.tx++b))
 have k1:Hid _:=(Draw.Kept.refl k w).setCell (p:=⟨k,ow,none⟩) (.inl rfl) (.string (s.tx++b))
 have HV:Hid (Win T pre post ow w k s.c):=hv
 clear hv
 obtain⟨tx,rd,en,dn,sn⟩:=s
 dsimp only at *
 cases en
 ·by_cases hz:(2000:Int)<(tx.size:Int)+b.size
  ·have hzd:decide ((2000:Int)<(tx.size:Int)+b.size)=true:=decide_eq_true hz
   have hB:B'=false:=by rw [HB.out,hzd];rfl
   subst hB
   have hS:S'=⟨tx,rd,false,dn,sn⟩:=HG.out
   subst hS
   go_enter Tryz.func82,Tryz.ntmps82
   go_wp2_with fail
   go_ret
   exact⟨rfl,HV.out,Draw.Kept.refl _ _⟩
  ·have hzd:decide ((2000:Int)<(tx.size:Int)+b.size)=false:=decide_eq_false hz
   have hB:B'=true:=by rw [HB.out,hzd];rfl
   subst hB
   have hS:S'=⟨tx++b,rd,false,dn,sn⟩:=HG.out
   subst hS
   go_enter Tryz.func82,Tryz.ntmps82
   go_wp2_with fail
   go_ret
   exact⟨rfl,v1.out,k1.out⟩
 ·have hB:B'=false:=by rw [HB.out];rfl
  subst hB
  have hS:S'=⟨tx,rd,true,dn,sn⟩:=HG.out
  subst hS
  go_enter Tryz.func82,Tryz.ntmps82
  go_wp2_with fail
  go_ret
  exact⟨rfl,HV.out,Draw.Kept.refl _ _⟩
theorem l15Tell {T:TypeId}{pre post:List Value}{ow:Nat}(k:Nat)(s:Sm)(seen:Bool)(w:World)(hv:Win T pre post ow w k s.c)(hs:s.tx.size≤2097152):
  Calls Tryz.prog 86 #[.pointer (some ⟨k,ow,none⟩),.bool seen] w fun x w'=>x=.returned (.bool (tellB s seen))∧Win T pre post ow w' k (tellS s seen).c∧Draw.Kept k w w':=by
 have hmix:=Tak.mix
 have HG:Hid (tellS s seen=if tellB s seen then(if seen then {s with sn:=true}else {s with dn:=true})else s):=rfl
 have HB:Hid (tellB s seen=(s.en&& !(seen&&(s.sn||decide (s.rd<(s.tx.size:Int))))&& !(!seen&&s.dn))):=rfl
 generalize tellS s seen=S' at *
 generalize tellB s seen=B' at *
 have e0:=hv.cell0 rfl
 have e1:=hv.cell (i:=1) rfl
 have e2:=hv.cell (i:=2) rfl
 have e3:=hv.cell (i:=3) rfl
 have e4:=hv.cell (i:=4) rfl
 have HV:Hid (Win T pre post ow w k s.c):=hv
 clear hv
 obtain⟨tx,rd,en,dn,sn⟩:=s
 dsimp only at *
 have d0:=Draw.Later.cell e0
 have d1:=Draw.Later.cell e1
 have d2:=Draw.Later.cell e2
 have d3:=Draw.Later.cell e3
 have d4:=Draw.Later.cell e4
 clear e0 e1 e2 e3 e4
 obtain⟨u,hu⟩: ∃u,decide (rd<(tx.size:Int))=u:=⟨_,rfl⟩
 rw [hu]at HB
 cases en
 case false=>
  have hB:B'=false:=by rw [HB.out];rfl
  subst hB
  have hS:S'=⟨tx,rd,false,dn,sn⟩:=HG.out
  subst hS
  go_enter Tryz.func86,Tryz.ntmps86
  go_wp2_with fail
  refine Draw.wp_region_later hmix (by kernel_rfl) ?_
  repeat (go_big_quiet_step (fail))
  refine wpQuiet_nil ?_
  intro wq hw'
  obtain⟨q9,hq9⟩:=hw'
  have hBq:=q9.h
  rw [←hq9]at hBq
  clear hq9 q9
  have hvq:=HV.out.later hBq
  have kq:Draw.Kept k w wq:=Draw.Kept.ofBelow hBq (Nat.le_refl _)
  go_wp2_with fail
  go_ret
  exact⟨rfl,hvq,kq⟩
 cases seen
 case false=>
  cases dn
  ·have hB:B'=true:=by rw [HB.out];rfl
   subst hB
   have hS:S'=⟨tx,rd,true,true,sn⟩:=HG.out
   subst hS
   go_enter Tryz.func86,Tryz.ntmps86
   go_wp2_with fail
   refine Draw.wp_region_later hmix (by kernel_rfl) ?_
   repeat (go_big_quiet_step (fail))
   refine wpQuiet_nil ?_
   intro wq hw'
   obtain⟨q9,hq9⟩:=hw'
   have hBq:=q9.h
   rw [←hq9]at hBq
   clear hq9 q9
   have hvq:=HV.out.later hBq
   have kq:Draw.Kept k w wq:=Draw.Kept.ofBelow hBq (Nat.le_refl _)
   have fq:=hvq.free 3
   have cq:=hvq.cell (i:=3) rfl
   have vq:Hid _:=hvq.set 3 (.bool true)
   have kq':Hid _:=kq.setCell (p:=⟨k,ow+3,none⟩) (.inl rfl) (.bool true)
   clear hvq kq
   go_wp2_with fail
   go_ret
   exact⟨rfl,vq.out,kq'.out⟩
  ·have hB:B'=false:=by rw [HB.out];rfl
   subst hB
   have hS:S'=⟨tx,rd,true,true,sn⟩:=HG.out
   subst hS
   go_enter Tryz.func86,Tryz.ntmps86
   go_wp2_with fail
   refine Draw.wp_region_later hmix (by kernel_rfl) ?_
   repeat (go_big_quiet_step (fail))
   refine wpQuiet_nil ?_
   intro wq hw'
   obtain⟨q9,hq9⟩:=hw'
   have hBq:=q9.h
   rw [←hq9]at hBq
   clear hq9 q9
   have hvq:=HV.out.later hBq
   have kq:Draw.Kept k w wq:=Draw.Kept.ofBelow hBq (Nat.le_refl _)
   go_wp2_with fail
   go_ret
   exact⟨rfl,hvq,kq⟩
 cases sn
 case true=>
  have hB:B'=false:=by rw [HB.out];rfl
  subst hB
  have hS:S'=⟨tx,rd,true,dn,true⟩:=HG.out
  subst hS
  go_enter Tryz.func86,Tryz.ntmps86
  go_wp2_with fail
  refine Draw.wp_region_later hmix (by kernel_rfl) ?_
  repeat (go_big_quiet_step (fail))
  refine wpQuiet_nil ?_
  intro wq hw'
  obtain⟨q9,hq9⟩:=hw'
  have hBq:=q9.h
  rw [←hq9]at hBq
  clear hq9 q9
  have hvq:=HV.out.later hBq
  have kq:Draw.Kept k w wq:=Draw.Kept.ofBelow hBq (Nat.le_refl _)
  go_wp2_with fail
  go_ret
  exact⟨rfl,hvq,kq⟩
 cases u
 ·have hB:B'=true:=by rw [HB.out];rfl
  subst hB
  have hS:S'=⟨tx,rd,true,dn,true⟩:=HG.out
  subst hS
  have hu': ¬rd<(tx.size:Int):=of_decide_eq_false hu
  go_enter Tryz.func86,Tryz.ntmps86
  go_wp2_with fail
  refine Draw.wp_region_later hmix (by kernel_rfl) ?_
  repeat (go_big_quiet_step (fail))
  refine wpQuiet_nil ?_
  intro wq hw'
  obtain⟨q9,hq9⟩:=hw'
  have hBq:=q9.h
  rw [←hq9]at hBq
  clear hq9 q9
  have hvq:=HV.out.later hBq
  have kq:Draw.Kept k w wq:=Draw.Kept.ofBelow hBq (Nat.le_refl _)
  have fq:=hvq.free 4
  have cq:=hvq.cell (i:=4) rfl
  have vq:Hid _:=hvq.set 4 (.bool true)
  have kq':Hid _:=kq.setCell (p:=⟨k,ow+4,none⟩) (.inl rfl) (.bool true)
  clear hvq kq
  go_wp2_with fail
  go_ret
  exact⟨rfl,vq.out,kq'.out⟩
 ·have hB:B'=false:=by rw [HB.out];rfl
  subst hB
  have hS:S'=⟨tx,rd,true,dn,false⟩:=HG.out
  subst hS
  have hu':rd<(tx.size:Int):=of_decide_eq_true hu
  go_enter Tryz.func86,Tryz.ntmps86
  go_wp2_with fail
  refine Draw.wp_region_later hmix (by kernel_rfl) ?_
  repeat (go_big_quiet_step (fail))
  refine wpQuiet_nil ?_
  intro wq hw'
  obtain⟨q9,hq9⟩:=hw'
  have hBq:=q9.h
  rw [←hq9]at hBq
  clear hq9 q9
  have hvq:=HV.out.later hBq
  have kq:Draw.Kept k w wq:=Draw.Kept.ofBelow hBq (Nat.le_refl _)
  go_wp2_with fail
  go_ret
  exact⟨rfl,hvq,kq⟩
theorem l15Read {T:TypeId}{pre post:List Value}{ow:Nat}(k:Nat)(s:Sm)(b:ByteArray)(w:World)(hv:Win T pre post ow w k s.c)(hs:s.tx.size≤2097152)(hb:b.size≤2097152)(hr:0≤s.rd∧s.rd≤(s.tx.size:Int)):
  Calls Tryz.prog 110 #[.pointer (some ⟨k,ow,none⟩),.string b] w fun x w'=>x=.returned (.bool (readB s b))∧Win T pre post ow w' k (readS s b).c∧Draw.Kept k w w':=by
 have hmix:=Tak.mix
 have HG:Hid (readS s b=if readB s b then {s with rd:=s.rd+b.size}else s):=rfl
 have HB:Hid (readB s b= !(decide ((s.tx.size:Int)<s.rd+b.size)||decide (s.tx.extract s.rd.toNat (s.rd+b.size).toNat≠b))):=rfl
 generalize readS s b=S' at *
 generalize readB s b=B' at *
 have e0:=hv.cell0 rfl
 have e1:=hv.cell (i:=1) rfl
 have HV:Hid (Win T pre post ow w k s.c):=hv
 clear hv
 obtain⟨tx,rd,en,dn,sn⟩:=s
 dsimp only at *
 obtain⟨r,rfl⟩: ∃r:Nat,rd=(r:Int):=⟨rd.toNat,by omega⟩
 have d0:=Draw.Later.cell e0
 have d1:=Draw.Later.cell e1
 by_cases hz:(tx.size:Int)<(r:Int)+b.size
 ·have hzd:decide ((tx.size:Int)<(r:Int)+b.size)=true:=decide_eq_true hz
  have hB:B'=false:=by rw [HB.out,hzd];rfl
  subst hB
  have hS:S'=⟨tx,r,en,dn,sn⟩:=HG.out
  subst hS
  go_enter Tryz.func110,Tryz.ntmps110
  go_wp2_with fail
  refine Draw.wp_region_later hmix (by kernel_rfl) ?_
  repeat (go_big_quiet_step (fail))
  refine wpQuiet_nil ?_
  intro wq hw'
  obtain⟨q9,hq9⟩:=hw'
  have hBq:=q9.h
  rw [←hq9]at hBq
  clear hq9 q9
  have hvq:=HV.out.later hBq
  have kq:Draw.Kept k w wq:=Draw.Kept.ofBelow hBq (Nat.le_refl _)
  go_wp2_with fail
  go_ret
  exact⟨rfl,hvq,kq⟩
 ·have hzd:decide ((tx.size:Int)<(r:Int)+b.size)=false:=decide_eq_false hz
  rw [hzd,Bool.false_or,show((r:Int)).toNat=r by omega,show((r:Int)+(b.size:Int)).toNat=r+b.size by omega]at HB
  have i0:(r:Int)+(b.size:Int)≤(tx.size:Int):=by omega
  have i1:(r:Int)≤(r:Int)+(b.size:Int):=by omega
  have i2:(0:Int)≤(r:Int):=by omega
  go_enter Tryz.func110,Tryz.ntmps110
  go_wp2_with fail
  refine Draw.wp_region_later hmix (by kernel_rfl) ?_
  repeat (go_big_quiet_step (fail))
  refine wpQuiet_nil ?_
  intro wq hw'
  obtain⟨q9,hq9⟩:=hw'
  have hBq:=q9.h
  rw [←hq9]at hBq
  clear hq9 q9
  have hvq:=HV.out.later hBq
  have kq:Draw.Kept k w wq:=Draw.Kept.ofBelow hBq (Nat.le_refl _)
  have hc:=beq_text (tx.extract r (r+b.size)) b
  by_cases hq:tx.extract r (r+b.size)=b
  ·rw [decide_eq_true hq]at hc
   have hB:B'=true:=by rw [HB.out,hq];simp
   subst hB
   have hS:S'=⟨tx,(r:Int)+(b.size:Int),en,dn,sn⟩:=HG.out
   subst hS
   have fq:=hvq.free 1
   have cq:=hvq.cell (i:=1) rfl
   have vq:Hid _:=hvq.set 1 (.int .i64 ((r:Int)+(b.size:Int)))
   have kq':Hid _:=kq.setCell (p:=⟨k,ow+1,none⟩) (.inl rfl) (.int .i64 ((r:Int)+(b.size:Int)))
   clear hvq kq
   rw [hc]
   clear hc hq
   go_wp2_with fail
   go_ret
   exact⟨rfl,vq.out,kq'.out⟩
  ·rw [decide_eq_false hq]at hc
   have hB:B'=false:=by rw [HB.out];simp [hq]
   subst hB
   have hS:S'=⟨tx,(r:Int),en,dn,sn⟩:=HG.out
   subst hS
   rw [hc]
   clear hc hq
   go_wp2_with fail
   go_ret
   exact⟨rfl,hvq,kq⟩
end Go.Proofs.YtfmcahjdhoabcaaGreat.Str
