/- Contracts of this seat's functions, and their mathematics (WorS DrawT). -/
import Derived.Test.YtfmcahjdhoabcaaGreatU35
set_option linter.unusedVariables false
set_option linter.unusedSimpArgs false
set_option maxRecDepth 10000
set_option maxHeartbeats 4000000
namespace Go.Proofs.YtfmcahjdhoabcaaGreat.Wor
open Go.RowKit RowG Hop Roa Pum Lin
theorem curG {w w':World}{c r:Nat}(h:Draw.Cur w c)(g:w.grownBy w' (some r))(hr:c<r):Draw.Cur w' c:=h.upto fun i hi=>g.block i (by have:=h.lt;omega) (by simp;omega)
theorem keptG {w0 w w':World}{c r:Nat}(h:Draw.Kept c w0 w)(g:w.grownBy w' (some r))(hr:w0.heap.size≤r):Draw.Kept c w0 w':=
 ⟨g.os.trans h.os,g.tape.trans h.tape,g.output.trans h.output,Nat.le_trans h.size g.size,fun k hk hc=>(g.block k (Nat.lt_of_lt_of_le hk h.size) (by simp;omega)).trans (h.block k hk hc)⟩
theorem l16New (c:Nat)(w:World)(hc:Draw.Cur w c):
  Calls Tryz.prog 34 #[.pointer (some ⟨c,0,none⟩)] w fun e w'=> ∃(l:List Int) (n:Int) (v:Value),capsB l n=true∧e=.returned v∧WHold w' w.heap.size v (newW l n)∧Draw.Cur w' c∧Draw.Kept c w w':=by
 have hmix:=Roa.mix
 have hcl:=hc.lt
 have v0:Var 31 ((w.alloc (.cells #[.slice none 0 0,.slice none 0 0,.string ⟨#[]⟩,.int .i64 0,.bool false,.bool false,.bool false] 31)).alloc (.cells #[] 2)) w.heap.size [.slice none 0 0,.slice none 0 0,.string ⟨#[]⟩,.int .i64 0,.bool false,.bool false,.bool false]:=(Var.new w _).alloc _
 have cu0:=(hc.alloc (.cells #[.slice none 0 0,.slice none 0 0,.string ⟨#[]⟩,.int .i64 0,.bool false,.bool false,.bool false] 31)).alloc (.cells #[] 2)
 have K0:=((Draw.Kept.refl c w).alloc (.cells #[.slice none 0 0,.slice none 0 0,.string ⟨#[]⟩,.int .i64 0,.bool false,.bool false,.bool false] 31)).alloc (.cells #[] 2)
 have o0:Roa.EI.Own 2 ((w.alloc (.cells #[.slice none 0 0,.slice none 0 0,.string ⟨#[]⟩,.int .i64 0,.bool false,.bool false,.bool false] 31)).alloc (.cells #[] 2)) (w.heap.size+1) (some ⟨w.heap.size+1,0,none⟩) 0 []:=by
  have q:=Roa.ownI_empty (w.alloc (.cells #[.slice none 0 0,.slice none 0 0,.string ⟨#[]⟩,.int .i64 0,.bool false,.bool false,.bool false] 31))
  simpa using q
 go_enter Tryz.func34,Tryz.ntmps34
 go_wp2_with fail
 generalize (w.alloc (.cells #[.slice none 0 0,.slice none 0 0,.string ⟨#[]⟩,.int .i64 0,.bool false,.bool false,.bool false] 31)).alloc (.cells #[] 2)=V at *
 go_loopw [3,4] (fun lv iv wr=> ∃(k g cap:Nat) (L:List Int),k≤6∧iv=.int .i64 k∧lv=.slice (some ⟨g,0,none⟩) k cap∧Hid (L.length=k∧L.all Tak.capB=true)∧Roa.EI.Own 2 wr (w.heap.size+1) (some ⟨g,0,none⟩) cap L∧Var 31 wr w.heap.size [.slice none 0 0,.slice none 0 0,.string ⟨#[]⟩,.int .i64 0,.bool false,.bool false,.bool false]∧Draw.Cur wr c∧Draw.Kept c w wr) (fun _ iv _=>6-(intOf iv).toNat)
 case atStart=>exact⟨0,_,0,[],by omega,rfl,rfl,⟨rfl,rfl⟩,o0,v0,cu0,K0⟩
 case round=>
  clear o0 v0 cu0 K0
  obtain⟨k,g,cap,L,hk,rfl,rfl,HL,o1,v1,cu1,K1⟩:=hrel
  by_cases hk6:k<6
  ·have i0:(k:Int)<6:=by omega
   have hb1:c<wr.heap.size:=cu1.lt
   have vb:Var 2 (wr.alloc (.cells #[.int .i64 3,.int .i64 8,.int .i64 20,.int .i64 60] 2)) wr.heap.size ([3,8,20,60].map (Value.int .i64)):=Var.new wr _
   replace o1:=o1.alloc (.cells #[.int .i64 3,.int .i64 8,.int .i64 20,.int .i64 60] 2)
   replace v1:=v1.alloc (.cells #[.int .i64 3,.int .i64 8,.int .i64 20,.int .i64 60] 2)
   replace cu1:=cu1.alloc (.cells #[.int .i64 3,.int .i64 8,.int .i64 20,.int .i64 60] 2)
   replace K1:=K1.alloc (.cells #[.int .i64 3,.int .i64 8,.int .i64 20,.int .i64 60] 2)
   go_wp2_with fail
   generalize wr.alloc (.cells #[.int .i64 3,.int .i64 8,.int .i64 20,.int .i64 60] 2)=V1 at *
   generalize wr.heap.size=b at *
   refine(Draw.l1Below _ _ _ cu1).mono ?_
   rintro e w2 ⟨y,y0,y1,rfl,cu2,k2⟩
   replace y1:y<4:=by omega
   replace vb:=vb.kept k2 (by omega)
   replace o1:=o1.kept k2 (fun x hx=>by have:=(o1.lt x hx).1;omega)
   replace v1:=v1.kept k2 (by omega)
   replace K1:=K1.trans k2
   clear cu1 k2
   obtain⟨n,hn,hcell⟩:=RegJ.int_sat (ns:=[3,8,20,60]) vb (i:=y.toNat) (by simp;omega)
   have o2:=o1.alloc (.cells #[.int .i64 n] 2)
   have v2:=v1.alloc (.cells #[.int .i64 n] 2)
   have cu3:=cu2.alloc (.cells #[.int .i64 n] 2)
   have K2:=K1.alloc (.cells #[.int .i64 n] 2)
   have hz:w.heap.size+1≤(w2.alloc (.cells #[.int .i64 n] 2)).heap.size:=by have:=v2.lt;omega
   have L5:Roa.EI.Lies (w2.alloc (.cells #[.int .i64 n] 2)) (some ⟨w2.heap.size,0,none⟩) [n]:=El.lies_new rfl
   have hg:=(o2.lt _ rfl).1
   simp only at hg
   have hlen:=HL.out.1
   go_wp2_with (at_builtin;refine wpList_appS Roa.tyI (by decide) (by rfl) _ _ (by rfl) (w.heap.size+1) g cap k L [n] hlen.symm (by rfl) o2 hz (some ⟨w2.heap.size,0,none⟩) 1 1 rfl (by rfl) L5 (fun e=>by cases e) (by rw [hlen];simp;omega) ?_;intro g6 cap6 w6 o6 gr6)
   have cu6:=curG cu3 gr6 (by omega)
   have K6:=keptG K2 gr6 (by omega)
   have v6:=v2.grown gr6 (fun x hx=>by cases hx;omega)
   have HL6:Hid ((L++[n]).length=k+1∧(L++[n]).all Tak.capB=true):=by
    refine⟨by simp [hlen],?_⟩
    rw [List.all_append,HL.out.2]
    simp at hn
    rcases hn with rfl|rfl|rfl|rfl <;>rfl
   clear hlen
   go_roundw
   case rel=>exact⟨k+1,g6,cap6,L++[n],by omega,by simp,rfl,HL6,o6,v6,cu6,K6⟩
   case measure=>simp [intOf];omega
  ·obtain rfl:k=6:=by omega
   have i0: ¬((6:Nat):Int)<6:=by decide
   go_wp2_with fail
   refine(Draw.l1Below _ _ _ cu1).mono ?_
   rintro e w2 ⟨y,y0,y1,rfl,cu2,k2⟩
   have hb1:c<wr.heap.size:=cu1.lt
   replace o1:=o1.kept k2 (fun x hx=>by have:=(o1.lt x hx).1;omega)
   replace v1:=v1.kept k2 (by omega)
   replace K1:=K1.trans k2
   have hcaps:capsB L (1+y)=true:=by
    have:=HL.out
    have h1:1≤1+y∧1+y≤4:=by omega
    simp [capsB,this.1,this.2,h1]
   have HC:Hid _:=hcaps
   clear hcaps cu1 k2
   go_wp2_with fail
   have hNW:=specNewWorld (some ⟨g,0,none⟩) cap L (1+y) w2 o1.lies (by rw [HL.out.1];decide) HC.out
   rw [HL.out.1]at hNW
   refine hNW.mono ?_
   rintro e w3 ⟨v,rfl,hold,b3⟩
   clear hNW
   have cu3:=cu2.below b3 (Nat.le_refl _)
   have K3:=K1.trans (Draw.Kept.ofBelow b3 (Nat.le_refl _))
   replace v1:=v1.later b3
   have z2:w.heap.size≤w2.heap.size:=K1.size
   clear cu2 K1 o1 b3
   obtain⟨W,hW⟩: ∃W,newW L (1+y)=W:=⟨_,rfl⟩
   rw [hW]at hold
   have HW:Hid (newW L (1+y)=W):=hW
   clear hW
   obtain⟨g2,h2,xs2,a2,r2,rfl,A2⟩:=hold
   replace A2:=A2.later ((Below.refl _ _).alloc (Nat.le_refl _) (.cells #[.slice (some ⟨g2,0,none⟩) 3 h2,.slice a2 W.rs.length r2,.string W.tx,.int .i64 W.rd,.bool W.en,.bool W.dn,.bool W.sn] 31))
   replace v1:=v1.alloc (.cells #[.slice (some ⟨g2,0,none⟩) 3 h2,.slice a2 W.rs.length r2,.string W.tx,.int .i64 W.rd,.bool W.en,.bool W.dn,.bool W.sn] 31)
   replace cu3:=cu3.alloc (.cells #[.slice (some ⟨g2,0,none⟩) 3 h2,.slice a2 W.rs.length r2,.string W.tx,.int .i64 W.rd,.bool W.en,.bool W.dn,.bool W.sn] 31)
   replace K3:=K3.alloc (.cells #[.slice (some ⟨g2,0,none⟩) 3 h2,.slice a2 W.rs.length r2,.string W.tx,.int .i64 W.rd,.bool W.en,.bool W.dn,.bool W.sn] 31)
   have v2:Var 31 (w3.alloc (.cells #[.slice (some ⟨g2,0,none⟩) 3 h2,.slice a2 W.rs.length r2,.string W.tx,.int .i64 W.rd,.bool W.en,.bool W.dn,.bool W.sn] 31)) w3.heap.size [.slice (some ⟨g2,0,none⟩) 3 h2,.slice a2 W.rs.length r2,.string W.tx,.int .i64 W.rd,.bool W.en,.bool W.dn,.bool W.sn]:=Var.new w3 _
   obtain⟨e0,e1,e2,e3,e4,e5,e6⟩:=v1.c7
   obtain⟨d0,d1,d2,d3,d4,d5,d6⟩:=v2.c7
   obtain⟨f0,f1,f2,f3,f4,f5,f6⟩:=v1.f7
   go_wp2_with fail
   generalize w3.alloc (.cells #[.slice (some ⟨g2,0,none⟩) 3 h2,.slice a2 W.rs.length r2,.string W.tx,.int .i64 W.rd,.bool W.en,.bool W.dn,.bool W.sn] 31)=V3 at *
   obtain⟨WZ,hWZ⟩: ∃z,Hid (z=((((((V3.setCell ⟨w.heap.size,0,none⟩ (.slice (some ⟨g2,0,none⟩) 3 h2)).setCell ⟨w.heap.size,1,none⟩ (.slice a2 W.rs.length r2)).setCell ⟨w.heap.size,2,none⟩ (.string W.tx)).setCell ⟨w.heap.size,3,none⟩ (.int .i64 W.rd)).setCell ⟨w.heap.size,4,none⟩ (.bool W.en)).setCell ⟨w.heap.size,5,none⟩ (.bool W.dn)).setCell ⟨w.heap.size,6,none⟩ (.bool W.sn)):=⟨_,rfl⟩
   have ka:Draw.Kept w.heap.size V3 WZ:=by rw [hWZ.out];exact kept7 _ _ _ _ _ _ _ _ _
   have vv:Var 31 WZ w.heap.size [.slice (some ⟨g2,0,none⟩) 3 h2,.slice a2 W.rs.length r2,.string W.tx,.int .i64 W.rd,.bool W.en,.bool W.dn,.bool W.sn]:=by rw [hWZ.out];exact var7 v1 _ _ _ _ _ _ _
   have A6:=A2.keptV v1 (by decide) (by decide) (by decide) (by decide) ka
   have cu6:Draw.Cur WZ c:=cu3.upto (fun i hi=>ka.block i (by have:=cu3.lt;omega) (by omega))
   have K6:Draw.Kept c w WZ:=⟨ka.os.trans K3.os,ka.tape.trans K3.tape,ka.output.trans K3.output,Nat.le_trans K3.size ka.size,fun i hi hc=>(ka.block i (Nat.lt_of_lt_of_le hi K3.size) (by omega)).trans (K3.block i hi hc)⟩
   clear ka A2 v1 v2 cu3 K3 e0 e1 e2 e3 e4 e5 e6 d0 d1 d2 d3 d4 d5 d6 f0 f1 f2 f3 f4 f5 f6
   have hWZo:=hWZ.out
   clear hWZ
   subst hWZo
   generalize (((((((V3.setCell ⟨w.heap.size,0,none⟩ (.slice (some ⟨g2,0,none⟩) 3 h2)).setCell ⟨w.heap.size,1,none⟩ (.slice a2 W.rs.length r2)).setCell ⟨w.heap.size,2,none⟩ (.string W.tx)).setCell ⟨w.heap.size,3,none⟩ (.int .i64 W.rd)).setCell ⟨w.heap.size,4,none⟩ (.bool W.en)).setCell ⟨w.heap.size,5,none⟩ (.bool W.dn)).setCell ⟨w.heap.size,6,none⟩ (.bool W.sn))=WZ at *
   obtain⟨e0,e1,e2,e3,e4,e5,e6⟩:=vv.c7
   refine bodyPost_ret (v:=.agg #[.slice (some ⟨g2,0,none⟩) 3 h2,.slice a2 W.rs.length r2,.string W.tx,.int .i64 W.rd,.bool W.en,.bool W.dn,.bool W.sn]) (by rw [Hop.res_one rfl];go_simp) rfl ⟨L,1+y,_,HC.out,rfl,?_,cu6,K6⟩
   rw [HW.out]
   exact⟨g2,h2,xs2,a2,r2,rfl,⟨A6.L.mono z2,A6.hs,A6.R.mono z2,A6.ok⟩⟩
end Go.Proofs.YtfmcahjdhoabcaaGreat.Wor
namespace Go.Proofs.YtfmcahjdhoabcaaGreat.Draw
open Go.RowKit
theorem stand {p:Prop}(h:Hid p):p:=h.out
theorem l5Text (p n:Int)(w:World)(hp:0≤p)(hp1:p≤4000000000)(hn:0≤n)(hn1:n≤4096):
  Calls Tryz.prog 79 #[.int .i64 p,.int .i64 n] w fun e w'=> ∃s:ByteArray,(s.size:Int)=n∧e=.returned (.string s)∧Below w.heap.size w w':=by
 obtain⟨i,hi,hz0,hz1,hz2⟩:=info_parts infoU8
 have hown:(w.alloc (.cells #[] 5)).ownsRow w.heap.size 5 1 (.slice (some ⟨w.heap.size,0,none⟩) 0 0) 0 []:=World.ownsRow_made w #[] 0 (Nat.le_refl _) (Nat.zero_le _) rfl
 have hb0:Below w.heap.size w (w.alloc (.cells #[] 5)):=(Below.refl _ _).alloc (Nat.le_refl _) _
 go_enter Tryz.func79,Tryz.ntmps79
 go_wp2_with fail
 go_loopw [5,6] (fun v kv wr=> ∃(l:List UInt8) (g cap:Nat),(l.length:Int)≤n∧v=.slice (some ⟨g,0,none⟩) l.length cap∧kv=.int .i64 (p+l.length)∧wr.ownsRow w.heap.size 5 1 (.slice (some ⟨g,0,none⟩) l.length cap) l.length (l.map fun b=>Value.int .u8 (b.toNat:Int))∧Below w.heap.size w wr) (fun _ kv _=>(p+n-intOf kv).toNat)
 case atStart=>exact⟨[],w.heap.size,0,hn,rfl,by simp,hown,hb0⟩
 case round=>
  clear hown hb0
  obtain⟨l,g,cap,hln,rfl,rfl,hown,hB⟩:=hrel
  by_cases hm:(l.length:Int)<n
  ·have hm':p+(l.length:Int)<p+n:=by omega
   have n1:l.length+1≤maxLen:=by unfold maxLen;omega
   have n2:w.heap.size≤wr.heap.size+1:=by have:=hB.size;omega
   have n3:(l.length+1)*1≤140737488355328:=by omega
   have hg:=(hown.lt g rfl).1
   obtain⟨K,hK⟩: ∃K:Int,p+(l.length:Int)=K:=⟨_,rfl⟩
   have k0:0≤K:=by omega
   have k1:K≤5000000000:=by omega
   have HK:Hid _:=hK
   rw [hK]at hm' ⊢
   clear hK
   have x0:0≤97+(K*7+K / 26)%26:=by omega
   have x1:97+(K*7+K / 26)%26≤255:=by omega
   obtain⟨b,hb⟩: ∃b:UInt8,(b.toNat:Int)=97+(K*7+K / 26)%26:=⟨_,u8_of x0 x1⟩
   have HB:Hid _:=hb
   clear hb x0 x1
   go_wp2_with (at_builtin;refine wpList_append_lies _ (by rfl) _ _ 22 (by rfl) w.heap.size 5 i (.int .u8 0) 1 1 Tryz.underlying22 hi hz0 hz1 hz2 rfl (by decide) _ _ _ (by rfl) (hown.alloc _) ⟨wr.heap.size,0,none⟩ 1 1 [.int .u8 (97+(K*7+K / 26)%26)] (by rfl) rfl (World.news_of_block (heap_alloc_new wr _)) (one_u8 _) (by decide) n1 n3 (by simpa using n2) (wr.heap.size+1) (by simp) ?_;intro g1 cap1 w3 hown3 hgrow3 hat3 hlt3)
   have b3:Below w.heap.size w w3:=(hB.alloc hB.size _).trans ⟨hgrow3.os,hgrow3.tape,hgrow3.output,hgrow3.size,fun q hq=>hgrow3.block q (Nat.lt_of_lt_of_le hq (by have:=hB.size;simp;omega)) (fun e=>by simp [Value.ownBlock]at e;omega)⟩
   clear hgrow3 hat3 hlt3 hown
   go_roundw
   case rel=>
    rw [←HB.out,bytes_snoc]at hown3
    have hl:(l++[b]).length=l.length+1:=by simp
    exact⟨l++[b],g1,cap1,by rw [hl];omega,by rw [hl],by rw [hl,←HK.out];go_num,by rw [hl];exact hown3,b3⟩
   case measure=>have:=HK.out;simp [intOf];omega
  ·obtain⟨_,_,hrow⟩:=Row.ofOwn hown
   have hconv:=text_byteRow hrow l.length cap rfl
   have hm': ¬p+(l.length:Int)<p+n:=by omega
   have hle:(l.length:Int)=n:=by omega
   have HL:Hid _:=hle
   clear hle hown hrow
   go_wp2_with fail
   go_ret
   exact⟨⟨l.toArray⟩,HL.out,rfl,hB⟩
theorem l1DrawText (c:Nat)(sg:ByteArray)(most:Int)(w:World)(h:Cur w c)(hs0:0<sg.size)(hs1:sg.size≤4096)(m0:0<most)(m1:most≤4096):
  Calls Tryz.prog 94 #[.pointer (some ⟨c,0,none⟩),.string sg,.int .i64 most] w fun e w'=> ∃s:ByteArray,(s.size:Int)<most∧e=.returned (.string s)∧Cur w' c∧Kept c w w':=by
 have hlt:=h.lt
 obtain⟨i,hi,hz0,hz1,hz2⟩:=info_parts infoU8
 go_enter Tryz.func94,Tryz.ntmps94
 go_wp2_with fail
 refine(l1Below _ _ _ (h.alloc _)).mono ?_
 rintro e w1 ⟨n,n0,n1,rfl,c1,k1⟩
 have n2:n<most:=by omega
 have hown:w1.ownsRow w.heap.size 5 1 (.slice (some ⟨w.heap.size,0,none⟩) 0 0) 0 []:=own_kept (World.ownsRow_made w #[] 0 (Nat.le_refl _) (Nat.zero_le _) rfl) k1 hlt
 have hkept:Kept c w w1:=((Kept.refl c w).alloc _).trans k1
 clear k1 n1
 go_wp2_with fail
 go_loopw [7,8] (fun v nv wr=> ∃(l:List UInt8) (g cap:Nat) (m:Int),0≤m∧(l.length:Int)+m=n∧v=.slice (some ⟨g,0,none⟩) l.length cap∧nv=.int .i64 m∧wr.ownsRow w.heap.size 5 1 (.slice (some ⟨g,0,none⟩) l.length cap) l.length (l.map fun b=>Value.int .u8 (b.toNat:Int))∧Cur wr c∧Kept c w wr) (fun _ nv _=>(intOf nv).toNat)
 case atStart=>exact⟨[],w.heap.size,0,n,n0,by simp,rfl,rfl,hown,c1,hkept⟩
 case round=>
  clear hown c1 hkept
  obtain⟨l,g,cap,m,mm,hlm,rfl,rfl,hown,cr,kr⟩:=hrel
  by_cases hm:0<m
  ·go_wp2_with fail
   refine(l1Below _ _ _ cr).mono ?_
   rintro e w2 ⟨y,y0,y1,rfl,c2,k2⟩
   have y2:y<(sg.size:Int):=by omega
   have y3:y.toNat<sg.size:=by omega
   have hown2:=own_kept hown k2 hlt
   have kept2:=kr.trans k2
   have hg:=(hown.lt g rfl).1
   clear hown k2 kr cr
   obtain⟨b,hb⟩: ∃b:UInt8,sg[y.toNat]=b:=⟨_,rfl⟩
   have n1:l.length+1≤maxLen:=by unfold maxLen;omega
   have n2:w.heap.size≤w2.heap.size+1:=by have:=kept2.size;omega
   have n3:(l.length+1)*1≤140737488355328:=by omega
   have mn:m≤n:=by omega
   have HB:Hid _:=hb
   have HL:Hid _:=hlm
   clear hb hlm
   go_wp2_with (at_builtin;refine wpList_append_lies _ (by rfl) _ _ 22 (by rfl) w.heap.size 5 i (.int .u8 0) 1 1 Tryz.underlying22 hi hz0 hz1 hz2 rfl (by decide) _ _ _ (by rfl) (hown2.alloc _) ⟨w2.heap.size,0,none⟩ 1 1 [.int .u8 (sg[y.toNat].toNat:Int)] (by rfl) rfl (World.news_of_block (heap_alloc_new w2 _)) (one_u8 _) (by decide) n1 n3 (by simpa using n2) (w2.heap.size+1) (by simp) ?_;intro g1 cap1 w3 hown3 hgrow3 hat3 hlt3)
   have c3:=(c2.alloc _).grownBy hgrow3 (by omega)
   have k3:=(kept2.alloc _).grownBy hgrow3 hg
   clear hgrow3 hat3 hlt3 c2 kept2 hown2
   go_wp2_with fail
   go_roundw
   case rel=>
    rw [HB.out,bytes_snoc]at hown3
    have hl:(l++[b]).length=l.length+1:=by simp
    exact⟨l++[b],g1,cap1,m-1,by omega,by rw [hl];have:=HL.out;omega,by rw [hl],rfl,by rw [hl];exact hown3,c3,k3⟩
   case measure=>simp [intOf];omega
  ·obtain⟨_,_,hrow⟩:=Row.ofOwn hown
   have hconv:=text_byteRow hrow l.length cap rfl
   have HL:Hid _:=hlm
   clear hlm hown hrow
   go_wp2_with fail
   go_ret
   refine⟨⟨l.toArray⟩,?_,rfl,cr,kr⟩
   have:(⟨l.toArray⟩:ByteArray).size=l.length:=rfl
   rw [this]
   have:=HL.out
   omega
end Go.Proofs.YtfmcahjdhoabcaaGreat.Draw
