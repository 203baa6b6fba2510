/- Contracts of this seat's functions, and their mathematics (WorV). -/
import Derived.Test.YtfejobjgbadfjaaGreatK32
import Derived.Deep.CutRange
import Derived.Test.YtfejobjgbadfjaaGreatK30
set_option linter.unusedVariables false
set_option linter.unusedSimpArgs false
set_option maxRecDepth 20000
set_option maxHeartbeats 16000000
namespace Go.Proofs.YtfejobjgbadfjaaGreat.Wor
open Go.RowKit RowG Hop Roa Pum Lin
def TieY (B:Nat)(l:List Ac)(v:Value)(w:World):Prop:= ∃m:Nat,B≤m∧v=.slice (some ⟨m,0,none⟩) l.length l.length∧Var 69 w m (actE.vals l)
theorem tieY {B:Nat}{l:List Ac}{v:Value}{w w':World}(b:Below w.heap.size w w')(h:TieY B l v w):TieY B l v w':=by
 obtain⟨m,h1,h2,h3⟩:=h
 exact⟨m,h1,h2,h3.later b⟩
theorem hopCell {w:World}{B g c i:Nat}{xs:List Ha}{x:Ha}(L:LineLay w B (some ⟨g,0,none⟩) c xs)(hx:xs[i]? =some x)(j:Nat)(v:Value)(hv:x.c[j]? =some v):w.cell? ⟨g,i*13+j,none⟩=some v:=by
 have:=El.Lies.cells L.row.lies hx j v hv
 rwa [Nat.zero_add]at this
theorem TH.drew {c k B:Nat}{w wr:World}{W:Wd}(s:TH c k B w wr W):TH c k B w wr.drew W:=by
 obtain⟨g,cH,xs,aR,cR,A⟩:=s.lay
 exact⟨⟨g,cH,xs,aR,cR,⟨A.v.drew,A.L.drew,A.hs,A.R.drew⟩⟩,s.ok,s.cu.drew,⟨s.f.os,s.f.tape,s.f.output,s.f.size,s.f.block⟩,s.acts,s.hB,s.hck,s.hcB⟩
theorem own_keptT {α:Type}{E:El α}{e T:TypeId}{w w':World}{B g:Nat}{a:Option Addr}{c:Nat}{l:List α}{cs:Array Value}{m:Nat×Nat}(o:E.Own e w B a c l)(hk:w.heap[g]? =some (.cells cs T m))(hT:T≠e)(k:Draw.Kept g w w'):E.Own e w' B a c l:=
 o.kept k (fun x hx he=>by
  obtain⟨cs',h1⟩:=own_row o x hx
  rw [he,hk]at h1
  injection h1 with h1
  injection h1 with _ h2 _
  exact hT h2)
theorem TH.grown {c k B B' g cc:Nat}{w wr wa:World}{W:Wd}{l:List Ac}(s:TH c k B w wr W)(o:actE.Own 69 wr B' (some ⟨g,0,none⟩) cc l)(gr:wr.grownBy wa (some g))(hg:w.heap.size≤g)(hB:B≤w.heap.size)(hc:c<w.heap.size):TH c k B w wa W:=by
 have ka:Draw.Kept g wr wa:=grown_kept gr (.inr rfl)
 obtain⟨cs,hk⟩:=own_rowS o
 have hgk:=s.neO o
 obtain⟨g',cH,xs,aR,cR,A⟩:=s.lay
 exact⟨⟨g',cH,xs,aR,cR,⟨A.v.kept ka (Ne.symm hgk),⟨own_keptT A.L.row hk (by decide) ka,fun x hx=>⟨own_keptT (A.L.rows x hx).p hk (by decide) ka,own_keptT (A.L.rows x hx).l hk (by decide) ka⟩,A.L.off⟩,A.hs,own_keptT A.R hk (by decide) ka⟩⟩,s.ok,s.cu.upto (fun i hi=>ka.block i (by have:=s.cu.lt;omega) (by omega)),s.f.trans ⟨ka.os,ka.tape,ka.output,ka.size,fun i h1 _ _=>ka.block i (by have:=s.hB;omega) (by omega)⟩,fun i cs m h1 h2 hi=>by
  have h3:=s.acts i cs m h1 h2 hi
  have h4:=(Array.getElem?_eq_some_iff.1 hi).1
  rw [ka.block i (Array.getElem?_eq_some_iff.1 h3).1 (by omega),h3],Nat.le_trans s.hB ka.size,s.hck,s.hcB⟩
theorem l16DrawThrough (c k B:Nat)(W0:Wd)(w:World)(S0:TH c k B w w W0):
  Calls Tryz.prog 39 #[.pointer (some ⟨c,0,none⟩),.pointer (some ⟨k,0,none⟩)] w fun e w'=> ∃(g cap:Nat) (L:List Ac) (W:Wd),e=.returned (.slice (some ⟨g,0,none⟩) L.length cap)∧L.length≤21∧(∀a∈L,a.tx.size≤12)∧actE.Own 69 w' w.heap.size (some ⟨g,0,none⟩) cap L∧TH c k B w w' W:=by
 have hmix:=Roa.mix
 have hcl:=S0.cu.lt
 have hwB:=S0.hB
 have o0:actE.Own 69 (w.alloc (.cells #[] 69)) w.heap.size (some ⟨w.heap.size,0,none⟩) 0 []:=El.Own.made w
 have S1:=S0.alloc (.cells #[] 69)
 go_enter Tryz.func39,Tryz.ntmps39
 go_wp2_with fail
 generalize w.alloc (.cells #[] 69)=V at *
 have hz:w.heap.size≤V.heap.size:=Nat.le_of_lt (o0.lt _ rfl).2
 go_loopw [5,6] (fun lv hv wr=> ∃(h g cap:Nat) (L:List Ac) (W:Wd),h≤3∧hv=.int .i64 ((h:Int)-1)∧lv=.slice (some ⟨g,0,none⟩) L.length cap∧Hid (L.length≤7*(3-h)∧ ∀a∈L,a.tx.size≤12)∧actE.Own 69 wr w.heap.size (some ⟨g,0,none⟩) cap L∧w.heap.size≤wr.heap.size∧TH c k B w wr W) (fun _ hv _=>(intOf hv+1).toNat)
 case atStart=>exact⟨3,_,0,[],W0,by omega,rfl,rfl,⟨Nat.zero_le _,fun a ha=>by cases ha⟩,o0,hz,S1⟩
 case round=>
  clear o0 S1 hz S0
  obtain⟨h,g,cap,L,W,hh,rfl,rfl,HL,o1,hz,S⟩:=hrel
  by_cases h0:h=0
  ·subst h0
   have hlen:L.length≤21:=by have:=HL.out.1;omega
   have i0: ¬((0:Nat):Int)-1≥0:=by decide
   go_wp2_with fail
   go_ret
   exact⟨g,cap,L,rfl,hlen,HL.out.2,o1,W,S⟩
  obtain⟨i,rfl⟩: ∃i,h=i+1:=⟨h-1,by omega⟩
  have e0:(((i+1:Nat):Int)-1)=(i:Int):=by omega
  rw [e0]
  have hi3:i<3:=by omega
  have i0:(0:Int)≤(i:Int):=by omega
  have i1:(i:Int)<3:=by omega
  clear e0 h0
  obtain⟨gh,cH,xs,aR,cR,A⟩:=id S.lay
  have c1:=A.v.whole.cell (i:=1) rfl
  have hrl:W.rs.length≤4:=(roads_len (hops_iff.1 (ok_parts.1 S.ok).1).2.1).2
  go_wp2_with fail
  refine(Roa.specOpenOnes _ _ _ W.rs _ rfl A.R.lies (by omega)).mono ?_
  rintro e w1 ⟨gO,cO,rfl,oO,b1⟩
  replace S:=S.later b1
  replace o1:=o1.later b1
  replace hz:=Nat.le_trans hz b1.size
  have hgO:=(El.Own.lt (E:=Roa.EI) oO _ rfl).1
  simp only at hgO
  have hcw:=S.hcB
  have hBw:=(show B≤wr.heap.size from by have:=A.L.row.lt _ rfl;simp only at this;omega)
  clear A c1 b1
  go_upto_region 7 with(fail)
  go_cut [31]from 25 to 31 (fun v wx=>wx=w1∧ ∃b:Bool,v=.bool b∧(b=true→0<(openL W.rs).length))
  case first=>
   cases hb:((i:Int)==1)
   focus
    go_wp2_with fail
    go_meet
    exact⟨rfl,false,rfl,fun e=>by cases e⟩
   focus
    cases hlo:decide (0<(openL W.rs).length)
    focus
     have hl0: ¬0<(openL W.rs).length:=by simpa using hlo
     have hl1: ¬(0:Int)<((openL W.rs).length:Int):=by omega
     go_wp2_with fail
     go_meet
     exact⟨rfl,_,rfl,fun e=>by simp at e⟩
    focus
     have hl0:0<(openL W.rs).length:=by simpa using hlo
     have hl1:(0:Int)<((openL W.rs).length:Int):=by omega
     go_wp2_with fail
     go_meet
     exact⟨rfl,_,rfl,fun _=>hl0⟩
  case rest=>
   obtain⟨rfl,b,rfl,hb⟩:=hcut
   go_upto_if 31 with(fail)
   go_cut [7]from 32 to 38 (fun v wx=> ∃r:Int,v=.int .i64 r∧actE.Own 69 wx w.heap.size (some ⟨g,0,none⟩) cap L∧w.heap.size≤wx.heap.size∧TH c k B w wx W)
   case first=>
    cases b
    focus
     go_wp2_with fail
     go_meet
     exact⟨0,rfl,o1,hz,S⟩
    focus
     have hlo:=hb rfl
     go_wp2_with fail
     refine(Draw.l1Below _ _ _ S.cu).mono ?_
     rintro e wa ⟨y,y0,y1,rfl,cua,ka⟩
     obtain⟨j,rfl⟩: ∃j:Nat,y=(j:Int):=⟨y.toNat,by omega⟩
     have hj:j<(openL W.rs).length:=by omega
     have j1:(j:Int)<((openL W.rs).length:Int):=by omega
     have oO':=El.Own.kept (E:=Roa.EI) oO ka (fun x hx=>by cases hx;simp only;omega)
     have cj:=capCell oO'.lies hj
     rw [Nat.zero_add]at cj
     replace S:=S.drawn cua ka
     replace o1:=o1.kept ka (fun x hx=>by have:=(o1.lt x hx).1;omega)
     replace hz:=Nat.le_trans hz ka.size
     clear cua ka oO'
     go_wp2_with fail
     go_meet
     exact⟨_,rfl,o1,hz,S⟩
   case rest=>
    obtain⟨r,rfl,o1,hz,S⟩:=hcut
    clear hb hgO oO
    obtain⟨gh,cH,xs,aR,cR,Ax⟩:=id S.lay
    obtain⟨x0,hx,hxW⟩:=Ax.hop (ok_parts.1 S.ok).1 hi3
    have C1: ∀j v,x0.c[j]? =some v→wc.cell? ⟨gh,i*13+j,none⟩=some v:=by
     intro j v hv
     have:=El.Lies.cells Ax.L.row.lies hx j v hv
     rwa [Nat.zero_add]at this
    have c0:=Ax.v.whole.cell (i:=0) rfl
    have c12:=C1 12 _ rfl
    clear hxW
    have vX:Var 69 (wc.alloc (.cells #[.int .i64 4,.int .i64 (i:Int),.int .i64 r,.int .i64 0,.int .i64 0,.string ⟨#[]⟩,.int .i64 5,.int .i64 (i:Int),.int .i64 0,.int .i64 0,.int .i64 (x0.h.ws.length:Int),.string ⟨#[]⟩] 69)) wc.heap.size (actE.vals [(⟨4,i,r,0,0,⟨#[]⟩⟩:Ac),(⟨5,i,0,0,x0.h.ws.length,⟨#[]⟩⟩:Ac)]):=Var.new wc _
    have oW:=o1
    replace o1:=o1.alloc (.cells #[.int .i64 4,.int .i64 (i:Int),.int .i64 r,.int .i64 0,.int .i64 0,.string ⟨#[]⟩,.int .i64 5,.int .i64 (i:Int),.int .i64 0,.int .i64 0,.int .i64 (x0.h.ws.length:Int),.string ⟨#[]⟩] 69)
    replace S:=S.alloc (.cells #[.int .i64 4,.int .i64 (i:Int),.int .i64 r,.int .i64 0,.int .i64 0,.string ⟨#[]⟩,.int .i64 5,.int .i64 (i:Int),.int .i64 0,.int .i64 0,.int .i64 (x0.h.ws.length:Int),.string ⟨#[]⟩] 69)
    replace hz:w.heap.size≤(wc.alloc (.cells #[.int .i64 4,.int .i64 (i:Int),.int .i64 r,.int .i64 0,.int .i64 0,.string ⟨#[]⟩,.int .i64 5,.int .i64 (i:Int),.int .i64 0,.int .i64 0,.int .i64 (x0.h.ws.length:Int),.string ⟨#[]⟩] 69)).heap.size:=Nat.le_trans hz (by simp)
    have hgX:Hid (g<wc.heap.size):=(oW.lt _ rfl).2
    clear Ax hx C1 oW
    go_upto_region 10 with(fail)
    generalize wc.alloc (.cells #[.int .i64 4,.int .i64 (i:Int),.int .i64 r,.int .i64 0,.int .i64 0,.string ⟨#[]⟩,.int .i64 5,.int .i64 (i:Int),.int .i64 0,.int .i64 0,.int .i64 (x0.h.ws.length:Int),.string ⟨#[]⟩] 69)=V4 at *
    generalize wc.heap.size=mX at *
    generalize hxw:x0.h.ws.length=nW at *
    clear c0 c12 hxw
    go_wp2_with fail
    go_loopw [10] (fun jv wr=> ∃(j:Nat) (W:Wd),j≤2∧jv=.int .i64 j∧Var 69 wr mX (actE.vals [(⟨4,i,r,0,0,⟨#[]⟩⟩:Ac),(⟨5,i,0,0,nW,⟨#[]⟩⟩:Ac)])∧actE.Own 69 wr w.heap.size (some ⟨g,0,none⟩) cap L∧w.heap.size≤wr.heap.size∧TH c k B w wr W) (fun jv _=>2-(intOf jv).toNat)
    case atStart=>exact⟨0,_,by omega,rfl,vX,o1,hz,S⟩
    case round=>
     clear vX o1 hz S
     obtain⟨j,W,hj,rfl,vX,o1,hz,S⟩:=hrel
     by_cases hjn:j<2
     ·have j0:(j:Int)<2:=by omega
      have j1:(0:Int)≤(j:Int):=by omega
      obtain⟨a,ha⟩: ∃a,[(⟨4,i,r,0,0,⟨#[]⟩⟩:Ac),(⟨5,i,0,0,nW,⟨#[]⟩⟩:Ac)][j]? =some a:=⟨_,List.getElem?_eq_getElem (by simpa using hjn)⟩
      have hat:a.tx.size≤2097152:=by
       have:=List.mem_of_getElem? ha
       simp only [List.mem_cons,List.not_mem_nil,or_false]at this
       rcases this with rfl|rfl <;>exact Nat.zero_le _
      have C2: ∀q u,a.c[q]? =some u→wr.cell? ⟨mX,j*6+q,none⟩=some u:=by
       intro q u hu
       have:=El.Lies.cells (lies_acts vX) ha q u hu
       rwa [Nat.zero_add]at this
      have q0:=C2 0 _ rfl
      rw [Nat.add_zero]at q0
      have q1:=C2 1 _ rfl
      have q2:=C2 2 _ rfl
      have q3:=C2 3 _ rfl
      have q4:=C2 4 _ rfl
      have q5:=C2 5 _ rfl
      go_wp2_with fail
      refine(S.act a hat).mono ?_
      rintro e wa ⟨rfl,S',act,hsz⟩
      have vX2:=var_act vX act (S.ne vX)
      have o2:=own_act o1 act (S.neO o1)
      clear q0 q1 q2 q3 q4 q5 C2 ha hat
      go_wp2_with fail
      go_roundw
      case rel=>exact⟨j+1,_,by omega,by simp,vX2,o2,Nat.le_trans hz hsz,S'⟩
      case measure=>simp [intOf];omega
     ·have j0: ¬(j:Int)<2:=by omega
      obtain⟨z14,hz14,hz15,hz16,hz17⟩: ∃z,z≤wr.drew.heap.size∧w.heap.size≤z∧g<z∧mX<z:=⟨wr.heap.size,Nat.le_refl _,hz,(o1.lt _ rfl).2,vX.lt⟩
      obtain⟨gh,cH,xs,aR,cR,Ax⟩:=id S.lay
      obtain⟨x1,hx,hxW⟩:=Ax.hop (ok_parts.1 S.ok).1 hi3
      clear hxW
      have keepW: ∀(q:Nat) (d:Nat→Bool) (w':World),(fun d w'=>WAt 33 [] [] 0 w' B k gh cH xs aR cR W∧Var 69 w' mX (actE.vals [(⟨4,i,r,0,0,⟨#[]⟩⟩:Ac),(⟨5,i,0,0,nW,⟨#[]⟩⟩:Ac)])∧actE.Own 69 w' w.heap.size (some ⟨g,0,none⟩) cap L∧z14≤w'.heap.size∧TH c k B w w' W) d w'→True→(fun d w'=>WAt 33 [] [] 0 w' B k gh cH xs aR cR W∧Var 69 w' mX (actE.vals [(⟨4,i,r,0,0,⟨#[]⟩⟩:Ac),(⟨5,i,0,0,nW,⟨#[]⟩⟩:Ac)])∧actE.Own 69 w' w.heap.size (some ⟨g,0,none⟩) cap L∧z14≤w'.heap.size∧TH c k B w w' W) (fun j=>j==q||d j) w':=fun _ _ _ h _=>h
      go_upto_region 14 with(fail)
      refine RegJ.wp_region_J (W:=(fun d w'=>WAt 33 [] [] 0 w' B k gh cH xs aR cR W∧Var 69 w' mX (actE.vals [(⟨4,i,r,0,0,⟨#[]⟩⟩:Ac),(⟨5,i,0,0,nW,⟨#[]⟩⟩:Ac)])∧actE.Own 69 w' w.heap.size (some ⟨g,0,none⟩) cap L∧z14≤w'.heap.size∧TH c k B w w' W)) (RegJ.ValE [some (.int .i64 (i:Int)),some (.int .i64 r),some (.pointer (some ⟨k,0,none⟩)),some (.pointer (some ⟨k,0,none⟩)),some (.pointer (some ⟨k,0,none⟩)),some (.pointer (some ⟨k,0,none⟩)),some (.slice (some ⟨gh,0,none⟩) 3 cH),some (.int .i64 (i:Int)),some (.pointer (some ⟨gh,i*13,none⟩)),some (.pointer (some ⟨gh,i*13,none⟩)),some (.pointer (some ⟨gh,i*13,none⟩)),some (.int .i64 x1.h.g.ba),some (.agg #[.int .i64 3,.int .i64 (i:Int),.int .i64 r,.int .i64 x1.h.g.ba,.int .i64 40,.string ⟨#[]⟩]),some (.int .i64 (i:Int)),some (.pointer (some ⟨k,0,none⟩)),some (.pointer (some ⟨k,0,none⟩)),some (.pointer (some ⟨k,0,none⟩)),some (.pointer (some ⟨k,0,none⟩)),some (.slice (some ⟨gh,0,none⟩) 3 cH),some (.int .i64 (i:Int)),some (.pointer (some ⟨gh,i*13,none⟩)),some (.pointer (some ⟨gh,i*13+12,none⟩)),some (.slice x1.aW x1.h.ws.length x1.cW),some (.int .i64 (x1.h.ws.length:Int)),some (.agg #[.int .i64 5,.int .i64 (i:Int),.int .i64 0,.int .i64 0,.int .i64 (x1.h.ws.length:Int),.string ⟨#[]⟩]),some (.int .i64 (i:Int)),some (.int .i64 r),some (.agg #[.int .i64 4,.int .i64 (i:Int),.int .i64 r,.int .i64 0,.int .i64 0,.string ⟨#[]⟩]),some (.int .i64 (i:Int)),some (.pointer (some ⟨k,0,none⟩)),some (.pointer (some ⟨k,0,none⟩)),some (.pointer (some ⟨k,0,none⟩)),some (.pointer (some ⟨k,0,none⟩)),some (.slice (some ⟨gh,0,none⟩) 3 cH),some (.int .i64 (i:Int)),some (.pointer (some ⟨gh,i*13,none⟩)),some (.pointer (some ⟨gh,i*13+12,none⟩)),some (.slice x1.aW x1.h.ws.length x1.cW),some (.int .i64 (x1.h.ws.length:Int)),some (.agg #[.int .i64 5,.int .i64 (i:Int),.int .i64 0,.int .i64 0,.int .i64 (x1.h.ws.length:Int),.string ⟨#[]⟩]),none,none] ([(40,40,TieY z14 [(⟨3,i,r,x1.h.g.ba,40,⟨#[]⟩⟩:Ac),(⟨5,i,0,0,x1.h.ws.length,⟨#[]⟩⟩:Ac),(⟨4,i,r,0,0,⟨#[]⟩⟩:Ac),(⟨5,i,0,0,x1.h.ws.length,⟨#[]⟩⟩:Ac)]),(41,41,TieY z14 [(⟨3,i,r,x1.h.g.ba,40,⟨#[]⟩⟩:Ac),(⟨5,i,0,0,x1.h.ws.length,⟨#[]⟩⟩:Ac),(⟨4,i,r,0,0,⟨#[]⟩⟩:Ac),(⟨5,i,0,0,x1.h.ws.length,⟨#[]⟩⟩:Ac)])])) [some 65,some 66,some 67,some 68,some 69,some 70,some 71,some 72,some 73,some 74,some 75,some 76,some 77,some 78,some 79,some 80,some 81,some 82,some 83,some 84,some 85,some 86,some 87,some 88,some 89,some 90,some 91,some 92,some 93,some 94,some 95,some 96,some 97,some 98,some 99,some 100,some 101,some 102,some 103,some 104,some 105,some 11] (F:=?_) (is:=[0,1,2,3,4,5,6,7,8,9,10,11,12,13,14,15,16,17,18,19,20,21,22,23,24,25,26,27,28,29,30,31,32,33,34,35,36,37,38,39,40,41]) hmix (by kernel_rfl) (by kernel_rfl) (by kernel_rfl) (by kernel_rfl) (fun x=>?_) (⟨⟨Ax.v.drew,Ax.L.drew,Ax.hs,Ax.R.drew⟩,vX.drew,o1.drew,hz14,S.drew⟩) ?_ (fun dR xR wR hWR hdR hJR=>?_)
      rotate_left 1
      focus (simp only [RegJ.lay,Act.put,Nat.reduceAdd,Nat.zero_add,Draw.lays];rfl)
      focus
       iterate 42 (refine RegJ.Steps.cons (RegJ.StepAt.mk rfl (fun d x w1 hW1 hJ1 hx1 K hK=>?_)) ?_;simp only [Draw.lays]at hK;rotate_left 1)
       exact RegJ.Steps.nil
       ·go_simp;exact hK.out _ _ (keepW 0 d _ hW1 (by decide)) RegJ.ValE.same (RegJ.ValE.free (Or.inl rfl) rfl)
       ·go_simp;exact hK.out _ _ (keepW 1 d _ hW1 (by decide)) RegJ.ValE.same (RegJ.ValE.free (Or.inl rfl) rfl)
       ·go_simp;exact hK.out _ _ (keepW 2 d _ hW1 (by decide)) RegJ.ValE.same (RegJ.ValE.free (Or.inl rfl) rfl)
       ·have j2:x 2=_:=(hJ1.out 2 (by kernel_rfl)).val rfl;rw [j2]at hK;go_simp;exact hK.out _ _ (keepW 3 d _ hW1 (by decide)) RegJ.ValE.same (RegJ.ValE.free (Or.inl rfl) rfl)
       ·have j3:x 3=_:=(hJ1.out 3 (by kernel_rfl)).val rfl;rw [j3]at hK;go_simp;exact hK.out _ _ (keepW 4 d _ hW1 (by decide)) RegJ.ValE.same (RegJ.ValE.free (Or.inl rfl) rfl)
       ·have j4:x 4=_:=(hJ1.out 4 (by kernel_rfl)).val rfl;rw [j4]at hK;go_simp;exact hK.out _ _ (keepW 5 d _ hW1 (by decide)) RegJ.ValE.same (RegJ.ValE.free (Or.inl rfl) rfl)
       ·have j5:x 5=_:=(hJ1.out 5 (by kernel_rfl)).val rfl;rw [j5]at hK;have q0:=hW1.1.v.whole.cell (i:=0) rfl;go_simp;exact hK.out _ _ (keepW 6 d _ hW1 (by decide)) RegJ.ValE.same (RegJ.ValE.free (Or.inl rfl) rfl)
       ·go_simp;exact hK.out _ _ (keepW 7 d _ hW1 (by decide)) RegJ.ValE.same (RegJ.ValE.free (Or.inl rfl) rfl)
       ·have j6:x 6=_:=(hJ1.out 6 (by kernel_rfl)).val rfl;rw [j6]at hK;have j7:x 7=_:=(hJ1.out 7 (by kernel_rfl)).val rfl;rw [j7]at hK;go_simp;exact hK.out _ _ (keepW 8 d _ hW1 (by decide)) RegJ.ValE.same (RegJ.ValE.free (Or.inl rfl) rfl)
       ·have j8:x 8=_:=(hJ1.out 8 (by kernel_rfl)).val rfl;rw [j8]at hK;go_simp;exact hK.out _ _ (keepW 9 d _ hW1 (by decide)) RegJ.ValE.same (RegJ.ValE.free (Or.inl rfl) rfl)
       ·have j9:x 9=_:=(hJ1.out 9 (by kernel_rfl)).val rfl;rw [j9]at hK;go_simp;exact hK.out _ _ (keepW 10 d _ hW1 (by decide)) RegJ.ValE.same (RegJ.ValE.free (Or.inl rfl) rfl)
       ·have j10:x 10=_:=(hJ1.out 10 (by kernel_rfl)).val rfl;rw [j10]at hK;have q0:w1.cell? ⟨gh,i*13,none⟩=_:=hopCell hW1.1.L hx 0 _ rfl;go_simp;exact hK.out _ _ (keepW 11 d _ hW1 (by decide)) RegJ.ValE.same (RegJ.ValE.free (Or.inl rfl) rfl)
       ·have j0:x 0=_:=(hJ1.out 0 (by kernel_rfl)).val rfl;rw [j0]at hK;have j1:x 1=_:=(hJ1.out 1 (by kernel_rfl)).val rfl;rw [j1]at hK;have j11:x 11=_:=(hJ1.out 11 (by kernel_rfl)).val rfl;rw [j11]at hK;go_simp;exact hK.out _ _ (keepW 12 d _ hW1 (by decide)) RegJ.ValE.same (RegJ.ValE.free (Or.inl rfl) rfl)
       ·go_simp;exact hK.out _ _ (keepW 13 d _ hW1 (by decide)) RegJ.ValE.same (RegJ.ValE.free (Or.inl rfl) rfl)
       ·go_simp;exact hK.out _ _ (keepW 14 d _ hW1 (by decide)) RegJ.ValE.same (RegJ.ValE.free (Or.inl rfl) rfl)
       ·have j14:x 14=_:=(hJ1.out 14 (by kernel_rfl)).val rfl;rw [j14]at hK;go_simp;exact hK.out _ _ (keepW 15 d _ hW1 (by decide)) RegJ.ValE.same (RegJ.ValE.free (Or.inl rfl) rfl)
       ·have j15:x 15=_:=(hJ1.out 15 (by kernel_rfl)).val rfl;rw [j15]at hK;go_simp;exact hK.out _ _ (keepW 16 d _ hW1 (by decide)) RegJ.ValE.same (RegJ.ValE.free (Or.inl rfl) rfl)
       ·have j16:x 16=_:=(hJ1.out 16 (by kernel_rfl)).val rfl;rw [j16]at hK;go_simp;exact hK.out _ _ (keepW 17 d _ hW1 (by decide)) RegJ.ValE.same (RegJ.ValE.free (Or.inl rfl) rfl)
       ·have j17:x 17=_:=(hJ1.out 17 (by kernel_rfl)).val rfl;rw [j17]at hK;have q0:=hW1.1.v.whole.cell (i:=0) rfl;go_simp;exact hK.out _ _ (keepW 18 d _ hW1 (by decide)) RegJ.ValE.same (RegJ.ValE.free (Or.inl rfl) rfl)
       ·go_simp;exact hK.out _ _ (keepW 19 d _ hW1 (by decide)) RegJ.ValE.same (RegJ.ValE.free (Or.inl rfl) rfl)
       ·have j18:x 18=_:=(hJ1.out 18 (by kernel_rfl)).val rfl;rw [j18]at hK;have j19:x 19=_:=(hJ1.out 19 (by kernel_rfl)).val rfl;rw [j19]at hK;go_simp;exact hK.out _ _ (keepW 20 d _ hW1 (by decide)) RegJ.ValE.same (RegJ.ValE.free (Or.inl rfl) rfl)
       ·have j20:x 20=_:=(hJ1.out 20 (by kernel_rfl)).val rfl;rw [j20]at hK;go_simp;exact hK.out _ _ (keepW 21 d _ hW1 (by decide)) RegJ.ValE.same (RegJ.ValE.free (Or.inl rfl) rfl)
       ·have j21:x 21=_:=(hJ1.out 21 (by kernel_rfl)).val rfl;rw [j21]at hK;have q0:w1.cell? ⟨gh,i*13+12,none⟩=_:=hopCell hW1.1.L hx 12 _ rfl;go_simp;exact hK.out _ _ (keepW 22 d _ hW1 (by decide)) RegJ.ValE.same (RegJ.ValE.free (Or.inl rfl) rfl)
       ·have j22:x 22=_:=(hJ1.out 22 (by kernel_rfl)).val rfl;rw [j22]at hK;go_simp;exact hK.out _ _ (keepW 23 d _ hW1 (by decide)) RegJ.ValE.same (RegJ.ValE.free (Or.inl rfl) rfl)
       ·have j13:x 13=_:=(hJ1.out 13 (by kernel_rfl)).val rfl;rw [j13]at hK;have j23:x 23=_:=(hJ1.out 23 (by kernel_rfl)).val rfl;rw [j23]at hK;go_simp;exact hK.out _ _ (keepW 24 d _ hW1 (by decide)) RegJ.ValE.same (RegJ.ValE.free (Or.inl rfl) rfl)
       ·go_simp;exact hK.out _ _ (keepW 25 d _ hW1 (by decide)) RegJ.ValE.same (RegJ.ValE.free (Or.inl rfl) rfl)
       ·go_simp;exact hK.out _ _ (keepW 26 d _ hW1 (by decide)) RegJ.ValE.same (RegJ.ValE.free (Or.inl rfl) rfl)
       ·have j25:x 25=_:=(hJ1.out 25 (by kernel_rfl)).val rfl;rw [j25]at hK;have j26:x 26=_:=(hJ1.out 26 (by kernel_rfl)).val rfl;rw [j26]at hK;go_simp;exact hK.out _ _ (keepW 27 d _ hW1 (by decide)) RegJ.ValE.same (RegJ.ValE.free (Or.inl rfl) rfl)
       ·go_simp;exact hK.out _ _ (keepW 28 d _ hW1 (by decide)) RegJ.ValE.same (RegJ.ValE.free (Or.inl rfl) rfl)
       ·go_simp;exact hK.out _ _ (keepW 29 d _ hW1 (by decide)) RegJ.ValE.same (RegJ.ValE.free (Or.inl rfl) rfl)
       ·have j29:x 29=_:=(hJ1.out 29 (by kernel_rfl)).val rfl;rw [j29]at hK;go_simp;exact hK.out _ _ (keepW 30 d _ hW1 (by decide)) RegJ.ValE.same (RegJ.ValE.free (Or.inl rfl) rfl)
       ·have j30:x 30=_:=(hJ1.out 30 (by kernel_rfl)).val rfl;rw [j30]at hK;go_simp;exact hK.out _ _ (keepW 31 d _ hW1 (by decide)) RegJ.ValE.same (RegJ.ValE.free (Or.inl rfl) rfl)
       ·have j31:x 31=_:=(hJ1.out 31 (by kernel_rfl)).val rfl;rw [j31]at hK;go_simp;exact hK.out _ _ (keepW 32 d _ hW1 (by decide)) RegJ.ValE.same (RegJ.ValE.free (Or.inl rfl) rfl)
       ·have j32:x 32=_:=(hJ1.out 32 (by kernel_rfl)).val rfl;rw [j32]at hK;have q0:=hW1.1.v.whole.cell (i:=0) rfl;go_simp;exact hK.out _ _ (keepW 33 d _ hW1 (by decide)) RegJ.ValE.same (RegJ.ValE.free (Or.inl rfl) rfl)
       ·go_simp;exact hK.out _ _ (keepW 34 d _ hW1 (by decide)) RegJ.ValE.same (RegJ.ValE.free (Or.inl rfl) rfl)
       ·have j33:x 33=_:=(hJ1.out 33 (by kernel_rfl)).val rfl;rw [j33]at hK;have j34:x 34=_:=(hJ1.out 34 (by kernel_rfl)).val rfl;rw [j34]at hK;go_simp;exact hK.out _ _ (keepW 35 d _ hW1 (by decide)) RegJ.ValE.same (RegJ.ValE.free (Or.inl rfl) rfl)
       ·have j35:x 35=_:=(hJ1.out 35 (by kernel_rfl)).val rfl;rw [j35]at hK;go_simp;exact hK.out _ _ (keepW 36 d _ hW1 (by decide)) RegJ.ValE.same (RegJ.ValE.free (Or.inl rfl) rfl)
       ·have j36:x 36=_:=(hJ1.out 36 (by kernel_rfl)).val rfl;rw [j36]at hK;have q0:w1.cell? ⟨gh,i*13+12,none⟩=_:=hopCell hW1.1.L hx 12 _ rfl;go_simp;exact hK.out _ _ (keepW 37 d _ hW1 (by decide)) RegJ.ValE.same (RegJ.ValE.free (Or.inl rfl) rfl)
       ·have j37:x 37=_:=(hJ1.out 37 (by kernel_rfl)).val rfl;rw [j37]at hK;go_simp;exact hK.out _ _ (keepW 38 d _ hW1 (by decide)) RegJ.ValE.same (RegJ.ValE.free (Or.inl rfl) rfl)
       ·have j28:x 28=_:=(hJ1.out 28 (by kernel_rfl)).val rfl;rw [j28]at hK;have j38:x 38=_:=(hJ1.out 38 (by kernel_rfl)).val rfl;rw [j38]at hK;go_simp;exact hK.out _ _ (keepW 39 d _ hW1 (by decide)) RegJ.ValE.same (RegJ.ValE.free (Or.inl rfl) rfl)
       ·have j12:x 12=_:=(hJ1.out 12 (by kernel_rfl)).val rfl;rw [j12]at hK;have j24:x 24=_:=(hJ1.out 24 (by kernel_rfl)).val rfl;rw [j24]at hK;have j27:x 27=_:=(hJ1.out 27 (by kernel_rfl)).val rfl;rw [j27]at hK;have j39:x 39=_:=(hJ1.out 39 (by kernel_rfl)).val rfl;rw [j39]at hK;obtain⟨qA,qX,qO,qz,qS⟩:=id hW1;go_simp;have ba:=(Below.refl w1.heap.size w1).alloc (Nat.le_refl _) (.cells (actE.vals [(⟨3,i,r,x1.h.g.ba,40,⟨#[]⟩⟩:Ac),(⟨5,i,0,0,x1.h.ws.length,⟨#[]⟩⟩:Ac),(⟨4,i,r,0,0,⟨#[]⟩⟩:Ac),(⟨5,i,0,0,x1.h.ws.length,⟨#[]⟩⟩:Ac)]).toArray 69);exact hK.out _ _ ⟨qA.later ba,qX.later ba,qO.later ba,Nat.le_trans qz ba.size,qS.later ba⟩ (RegJ.ValE.keep (by intro q hq;simp only [List.mem_cons,List.not_mem_nil,or_false]at hq;rcases hq with rfl|rfl;exact .inl rfl;exact .inr (.inr (fun v hv=>tieY ba hv)))) (RegJ.ValE.got 0 _ _ (Or.inr rfl) rfl rfl ⟨w1.heap.size,qz,rfl,Var.new w1 _⟩)
       ·obtain⟨m,hm,j40,vm⟩:=((hJ1.out 40 (by kernel_rfl)).tie 0 rfl (.inl rfl));rw [j40]at hK;go_simp;exact hK.out _ _ hW1 RegJ.ValE.same (RegJ.ValE.got 1 _ _ (Or.inr rfl) rfl rfl ⟨m,hm,rfl,vm⟩)
      obtain⟨mY,hmY,j41,vY⟩:=(hJR 41 (by simp)).tie 1 rfl (.inl rfl)
      rw [j41]
      have vX':=hWR.2.1
      have o1':=hWR.2.2.1
      have S':=hWR.2.2.2.2
      have hz':w.heap.size≤wR.heap.size:=Nat.le_trans hz15 hWR.2.2.2.1
      clear hWR hdR hJR keepW Ax hx vX o1 S hz j41 hz14
      generalize hn1:x1.h.ws.length=n1 at *
      generalize hn2:x1.h.g.ba=n2 at *
      clear hn1 hn2
      have vX:=vX'
      have o1:=o1'
      have S:=S'
      have hz:=hz'
      clear vX' o1' S' hz'
      go_wp2_with fail
      go_loopw [12] (fun jv wr=> ∃(j:Nat) (W:Wd),j≤4∧jv=.int .i64 j∧Var 69 wr mX (actE.vals [(⟨4,i,r,0,0,⟨#[]⟩⟩:Ac),(⟨5,i,0,0,nW,⟨#[]⟩⟩:Ac)])∧Var 69 wr mY (actE.vals [(⟨3,i,r,n2,40,⟨#[]⟩⟩:Ac),(⟨5,i,0,0,n1,⟨#[]⟩⟩:Ac),(⟨4,i,r,0,0,⟨#[]⟩⟩:Ac),(⟨5,i,0,0,n1,⟨#[]⟩⟩:Ac)])∧actE.Own 69 wr w.heap.size (some ⟨g,0,none⟩) cap L∧w.heap.size≤wr.heap.size∧TH c k B w wr W) (fun jv _=>4-(intOf jv).toNat)
      case atStart=>exact⟨0,_,by omega,rfl,vX,vY,o1,hz,S⟩
      case round=>
       clear vX vY o1 hz S
       obtain⟨j,W,hj,rfl,vX,vY,o1,hz,S⟩:=hrel
       by_cases hjn:j<4
       ·have j0:(j:Int)<4:=by omega
        have j1:(0:Int)≤(j:Int):=by omega
        obtain⟨a,ha⟩: ∃a,[(⟨3,i,r,n2,40,⟨#[]⟩⟩:Ac),(⟨5,i,0,0,n1,⟨#[]⟩⟩:Ac),(⟨4,i,r,0,0,⟨#[]⟩⟩:Ac),(⟨5,i,0,0,n1,⟨#[]⟩⟩:Ac)][j]? =some a:=⟨_,List.getElem?_eq_getElem (by simpa using hjn)⟩
        have hat:a.tx.size≤2097152:=by
         have:=List.mem_of_getElem? ha
         simp only [List.mem_cons,List.not_mem_nil,or_false]at this
         rcases this with rfl|rfl|rfl|rfl <;>exact Nat.zero_le _
        have C2: ∀q u,a.c[q]? =some u→wr.cell? ⟨mY,j*6+q,none⟩=some u:=by
         intro q u hu
         have:=El.Lies.cells (lies_acts vY) ha q u hu
         rwa [Nat.zero_add]at this
        have q0:=C2 0 _ rfl
        rw [Nat.add_zero]at q0
        have q1:=C2 1 _ rfl
        have q2:=C2 2 _ rfl
        have q3:=C2 3 _ rfl
        have q4:=C2 4 _ rfl
        have q5:=C2 5 _ rfl
        go_wp2_with fail
        refine(S.act a hat).mono ?_
        rintro e wa ⟨rfl,S',act,hsz⟩
        have vX2:=var_act vX act (S.ne vX);have vY2:=var_act vY act (S.ne vY)
        have o2:=own_act o1 act (S.neO o1)
        clear q0 q1 q2 q3 q4 q5 C2 ha hat
        go_wp2_with fail
        go_roundw
        case rel=>exact⟨j+1,_,by omega,by simp,vX2,vY2,o2,Nat.le_trans hz hsz,S'⟩
        case measure=>simp [intOf];omega
       ·have j0: ¬(j:Int)<4:=by omega
        have hlen:=HL.out.1
        have LX:=lies_acts vX
        have LY:=lies_acts vY
        have nX:g≠mX:=by have:=hgX.out;omega
        have nY:g≠mY:=by omega
        have gl:=(o1.lt _ rfl).1
        simp only at gl
        go_wp2_with (at_builtin;refine wpList_appS tyAct (by decide) (by rfl) _ _ (by rfl) w.heap.size g cap L.length L [(⟨4,i,r,0,0,⟨#[]⟩⟩:Ac),(⟨5,i,0,0,nW,⟨#[]⟩⟩:Ac)] rfl (by rfl) o1 hz (some ⟨mX,0,none⟩) 2 2 rfl (by rfl) LX (fun e=>by cases e) (by simp only [List.length_cons,List.length_nil];omega) ?_;intro g5 cap5 w5 o5 gr5;refine Tak.stand ?_)
        have S5:=S.grown o1 gr5 gl hwB hcl
        have vY5:=vY.grown gr5 (fun q hq=>by cases hq;exact Ne.symm nY)
        have LY5:=lies_acts vY5
        have hz5:=Nat.le_trans hz gr5.size
        have g5l:=(o5.lt _ rfl).1
        simp only at g5l
        show wpList _ _ _ _ _ _
        go_wp2_with (at_builtin;refine wpList_appS tyAct (by decide) (by rfl) _ _ (by rfl) w.heap.size g5 cap5 (L.length+2) (L++[(⟨4,i,r,0,0,⟨#[]⟩⟩:Ac),(⟨5,i,0,0,nW,⟨#[]⟩⟩:Ac)]) [(⟨3,i,r,n2,40,⟨#[]⟩⟩:Ac),(⟨5,i,0,0,n1,⟨#[]⟩⟩:Ac),(⟨4,i,r,0,0,⟨#[]⟩⟩:Ac),(⟨5,i,0,0,n1,⟨#[]⟩⟩:Ac)] (by simp only [List.length_append,List.length_cons,List.length_nil]) (by rfl) o5 hz5 (some ⟨mY,0,none⟩) 4 4 rfl (by rfl) LY5 (fun e=>by cases e) (by simp only [List.length_append,List.length_cons,List.length_nil];omega) ?_;intro g6 cap6 w6 o6 gr6;refine Tak.stand ?_)
        have S6:=S5.grown o5 gr6 g5l hwB hcl
        have hz6:=Nat.le_trans hz5 gr6.size
        have g6l:=(o6.lt _ rfl).1
        simp only at g6l
        obtain⟨L6,hL6⟩: ∃L6,L6=L++[(⟨4,i,r,0,0,⟨#[]⟩⟩:Ac),(⟨5,i,0,0,nW,⟨#[]⟩⟩:Ac)]++[(⟨3,i,r,n2,40,⟨#[]⟩⟩:Ac),(⟨5,i,0,0,n1,⟨#[]⟩⟩:Ac),(⟨4,i,r,0,0,⟨#[]⟩⟩:Ac),(⟨5,i,0,0,n1,⟨#[]⟩⟩:Ac)]:=⟨_,rfl⟩
        rw [←hL6]at o6
        have hn6:L6.length=L.length+2+4:=by rw [hL6];simp only [List.length_append,List.length_cons,List.length_nil]
        have ht6: ∀a∈L6,a.tx.size≤12:=by
         intro a ha
         rw [hL6]at ha
         simp only [List.mem_append,List.mem_cons,List.not_mem_nil,or_false]at ha
         rcases ha with(ha|rfl|rfl)|rfl|rfl|rfl|rfl
         ·exact HL.out.2 a ha
         all_goals exact Nat.zero_le _
        rw [←hn6]
        have HT:Hid _:=ht6
        have HN:Hid _:=hn6
        clear hL6 hn6 ht6 S S5 o1 o5 gr5 gr6 vX vY vY5 LX LY LY5 hz hz5 g5l gl
        show wpList _ _ _ _ _ _
        by_cases hip:0<i
        ·have i2:(0:Int)<(i:Int):=by omega
         have vP:Var 69 (w6.alloc (.cells #[.int .i64 8,.int .i64 ((i:Int)-1),.int .i64 0,.int .i64 0,.int .i64 40,.string ⟨#[]⟩] 69)) w6.heap.size [.int .i64 8,.int .i64 ((i:Int)-1),.int .i64 0,.int .i64 0,.int .i64 40,.string ⟨#[]⟩]:=Var.new w6 _
         have S7:=S6.alloc (.cells #[.int .i64 8,.int .i64 ((i:Int)-1),.int .i64 0,.int .i64 0,.int .i64 40,.string ⟨#[]⟩] 69)
         have o7:=o6.alloc (.cells #[.int .i64 8,.int .i64 ((i:Int)-1),.int .i64 0,.int .i64 0,.int .i64 40,.string ⟨#[]⟩] 69)
         have hz7:w.heap.size≤(w6.alloc (.cells #[.int .i64 8,.int .i64 ((i:Int)-1),.int .i64 0,.int .i64 0,.int .i64 40,.string ⟨#[]⟩] 69)).heap.size:=Nat.le_trans hz6 (by simp)
         clear S6 o6 hz6
         go_wp2_with fail
         generalize w6.alloc (.cells #[.int .i64 8,.int .i64 ((i:Int)-1),.int .i64 0,.int .i64 0,.int .i64 40,.string ⟨#[]⟩] 69)=V7 at *
         generalize w6.heap.size=mP at *
         refine(S7.act (⟨8,(i:Int)-1,0,0,40,⟨#[]⟩⟩:Ac) (Nat.zero_le _)).mono ?_
         rintro e w8 ⟨rfl,S8,act,hsz⟩
         have vP8:=var_act vP act (S7.ne vP)
         have o8:=own_act o7 act (S7.neO o7)
         have hz8:=Nat.le_trans hz7 hsz
         clear S7 o7 vP act hz7 hsz
         obtain⟨p0,p1,p2,p3,p4,p5⟩:=vP8.c6
         have S9:=S8.alloc (.cells #[.int .i64 8,.int .i64 ((i:Int)-1),.int .i64 0,.int .i64 0,.int .i64 40,.string ⟨#[]⟩] 69)
         have o9:=o8.alloc (.cells #[.int .i64 8,.int .i64 ((i:Int)-1),.int .i64 0,.int .i64 0,.int .i64 40,.string ⟨#[]⟩] 69)
         have hz9:w.heap.size≤(w8.alloc (.cells #[.int .i64 8,.int .i64 ((i:Int)-1),.int .i64 0,.int .i64 0,.int .i64 40,.string ⟨#[]⟩] 69)).heap.size:=Nat.le_trans hz8 (by simp)
         have L9:actE.Lies (w8.alloc (.cells #[.int .i64 8,.int .i64 ((i:Int)-1),.int .i64 0,.int .i64 0,.int .i64 40,.string ⟨#[]⟩] 69)) (some ⟨w8.heap.size,0,none⟩) [(⟨8,(i:Int)-1,0,0,40,⟨#[]⟩⟩:Ac)]:=El.lies_new rfl
         have hlb:L6.length≤100:=by have:=HN.out;have:=HL.out.1;omega
         clear S8 o8 vP8 hz8
         go_wp2_with (at_builtin;refine wpList_appS tyAct (by decide) (by rfl) _ _ (by rfl) w.heap.size g6 cap6 L6.length L6 [(⟨8,(i:Int)-1,0,0,40,⟨#[]⟩⟩:Ac)] rfl (by rfl) o9 hz9 (some ⟨w8.heap.size,0,none⟩) 1 1 rfl (by rfl) L9 (fun e=>by cases e) (by simp only [List.length_cons,List.length_nil];omega) ?_;intro gA capA wA oA grA)
         have SA:=S9.grown o9 grA g6l hwB hcl
         have hzA:=Nat.le_trans hz9 grA.size
         have HLA:Hid ((L6++[(⟨8,(i:Int)-1,0,0,40,⟨#[]⟩⟩:Ac)]).length≤7*(3-i)∧ ∀a∈L6++[(⟨8,(i:Int)-1,0,0,40,⟨#[]⟩⟩:Ac)],a.tx.size≤12):=by
          refine⟨by have:=HN.out;have:=HL.out.1;simp only [List.length_append,List.length_cons,List.length_nil];omega,fun a ha=>?_⟩
          simp only [List.mem_append,List.mem_cons,List.not_mem_nil,or_false]at ha
          rcases ha with ha|rfl
          ·exact HT.out a ha
          ·exact Nat.zero_le _
         have hlA:(L6++[(⟨8,(i:Int)-1,0,0,40,⟨#[]⟩⟩:Ac)]).length=L6.length+1:=by simp only [List.length_append,List.length_cons,List.length_nil]
         clear hlb p0 p1 p2 p3 p4 p5 L9 o9 S9 grA
         go_roundw
         case rel=>exact⟨i,gA,capA,_,_,by omega,rfl,by rw [hlA],HLA,oA,hzA,SA⟩
         case measure=>simp [intOf] <;>omega
        ·obtain rfl:i=0:=by omega
         have HLA:Hid (L6.length≤7*(3-0)∧ ∀a∈L6,a.tx.size≤12):=by
          refine⟨?_,HT.out⟩
          have h1:=HN.out
          have h2:=HL.out.1
          omega
         go_wp2_with fail
         go_roundw
         case rel=>exact⟨0,g6,cap6,L6,_,by omega,rfl,rfl,HLA,o6,hz6,S6⟩
         case measure=>simp [intOf] <;>omega
end Go.Proofs.YtfejobjgbadfjaaGreat.Wor
