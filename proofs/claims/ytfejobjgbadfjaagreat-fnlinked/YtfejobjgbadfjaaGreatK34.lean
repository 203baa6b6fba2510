/- Contracts of this seat's functions, and their mathematics (WorX WorY LinD). -/
import Derived.Test.YtfejobjgbadfjaaGreatK31
import Derived.Test.YtfejobjgbadfjaaGreatK33
set_option linter.unusedVariables false
set_option linter.unusedSimpArgs false
set_option maxRecDepth 10000
set_option maxHeartbeats 8000000
namespace Go.Proofs.YtfejobjgbadfjaaGreat.Wor
open Go.RowKit RowG Hop Roa Pum Lin
theorem TH.store {c k B g cH cR:Nat}{xs:List Ha}{aR:Option Addr}{w wr:World}{W W':Wd}(s:TH c k B w wr W)(A:WAs wr B g cH xs aR cR W'):
  TH c k B w (((((((wr.setCell ⟨k,0,none⟩ (.slice (some ⟨g,0,none⟩) 3 cH)).setCell ⟨k,1,none⟩ (.slice aR W'.rs.length cR)).setCell ⟨k,2,none⟩ (.string W'.tx)).setCell ⟨k,3,none⟩ (.int .i64 W'.rd)).setCell ⟨k,4,none⟩ (.bool W'.en)).setCell ⟨k,5,none⟩ (.bool W'.dn)).setCell ⟨k,6,none⟩ (.bool W'.sn)) W':=by
 obtain⟨g0,cH0,xs0,aR0,cR0,A0⟩:=s.lay
 have v0:=A0.v.whole
 have ka:=kept7 wr k (.slice (some ⟨g,0,none⟩) 3 cH) (.slice aR W'.rs.length cR) (.string W'.tx) (.int .i64 W'.rd) (.bool W'.en) (.bool W'.dn) (.bool W'.sn)
 have vv:=var7 v0 (.slice (some ⟨g,0,none⟩) 3 cH) (.slice aR W'.rs.length cR) (.string W'.tx) (.int .i64 W'.rd) (.bool W'.en) (.bool W'.dn) (.bool W'.sn)
 have A1:=A.keptV v0 (by decide) (by decide) (by decide) (by decide) ka
 have:=s.hck
 exact⟨⟨g,cH,xs,aR,cR,⟨vv.win,A1.L,A1.hs,A1.R⟩⟩,A1.ok,s.cu.upto (fun i hi=>ka.block i (by have:=s.cu.lt;omega) (by omega)),s.f.trans ⟨ka.os,ka.tape,ka.output,ka.size,fun i h1 h2 _=>ka.block i (by have:=s.hB;omega) h2⟩,fun i cs m h1 h2 hi=>by
  have h3:=s.acts i cs m h1 h2 hi
  rw [ka.block i (Array.getElem?_eq_some_iff.1 h3).1 h1,h3],Nat.le_trans s.hB ka.size,s.hck,s.hcB⟩
theorem l16DrawActs (c B most:Nat)(hm:most≤100)(W0:Wd)(aR:Option Addr)(g cH cR:Nat)(xs:List Ha)(w:World)(A:WAs w B g cH xs aR cR W0)(hc:Draw.Cur w c):
  Calls Tryz.prog 22 #[.pointer (some ⟨c,0,none⟩),.agg #[.slice (some ⟨g,0,none⟩) 3 cH,.slice aR W0.rs.length cR,.string W0.tx,.int .i64 W0.rd,.bool W0.en,.bool W0.dn,.bool W0.sn],.int .i64 (most:Int)] w fun e w'=> ∃(g' cap:Nat) (L:List Ac),e=.returned (.slice (some ⟨g',0,none⟩) L.length cap)∧L.length≤21*most∧(∀a∈L,a.tx.size≤12)∧actE.Own 69 w' w.heap.size (some ⟨g',0,none⟩) cap L∧Draw.Cur w' c∧Draw.Kept c w w':=by
 have hmix:=Roa.mix
 have hcl:=hc.lt
 have v0:Var 33 ((w.alloc (.cells #[.slice (some ⟨g,0,none⟩) 3 cH,.slice aR W0.rs.length cR,.string W0.tx,.int .i64 W0.rd,.bool W0.en,.bool W0.dn,.bool W0.sn] 33)).alloc (.cells #[] 69)) w.heap.size [.slice (some ⟨g,0,none⟩) 3 cH,.slice aR W0.rs.length cR,.string W0.tx,.int .i64 W0.rd,.bool W0.en,.bool W0.dn,.bool W0.sn]:=(Var.new w _).alloc _
 have oO:actE.Own 69 ((w.alloc (.cells #[.slice (some ⟨g,0,none⟩) 3 cH,.slice aR W0.rs.length cR,.string W0.tx,.int .i64 W0.rd,.bool W0.en,.bool W0.dn,.bool W0.sn] 33)).alloc (.cells #[] 69)) (w.heap.size+1) (some ⟨w.heap.size+1,0,none⟩) 0 []:=by
  have q:=El.Own.made (E:=actE) (T:=69) (w.alloc (.cells #[.slice (some ⟨g,0,none⟩) 3 cH,.slice aR W0.rs.length cR,.string W0.tx,.int .i64 W0.rd,.bool W0.en,.bool W0.dn,.bool W0.sn] 33))
  simpa using q
 have b0:Below w.heap.size w ((w.alloc (.cells #[.slice (some ⟨g,0,none⟩) 3 cH,.slice aR W0.rs.length cR,.string W0.tx,.int .i64 W0.rd,.bool W0.en,.bool W0.dn,.bool W0.sn] 33)).alloc (.cells #[] 69)):=((Below.refl _ _).alloc (Nat.le_refl _) _).alloc (by simp) _
 go_enter Tryz.func22,Tryz.ntmps22
 go_wp2_with fail
 generalize (w.alloc (.cells #[.slice (some ⟨g,0,none⟩) 3 cH,.slice aR W0.rs.length cR,.string W0.tx,.int .i64 W0.rd,.bool W0.en,.bool W0.dn,.bool W0.sn] 33)).alloc (.cells #[] 69)=V at *
 refine(l16Copy W0 _ aR cH cR xs _ (A.L.ll.later b0) A.hs (A.R.lies.later b0) A.R.none_cap A.ok).mono ?_
 rintro e w1 ⟨v,rfl,⟨g2,h2,xs2,a2,r2,rfl,A2⟩,b1⟩
 replace v0:=v0.later b1
 replace oO:=oO.later b1
 have hzV:=b0.size
 have B1:=b0.trans (b1.mono b0.size)
 clear b0 b1 A
 obtain⟨c0,c1,c2,c3,c4,c5,c6⟩:=v0.c7
 obtain⟨y0,y1,y2,y3,y4,y5,y6⟩:=v0.f7
 go_wp2_with fail
 clear c0 c1 c2 c3 c4 c5 c6 y0 y1 y2 y3 y4 y5 y6
 obtain⟨WZ,hWZ⟩: ∃z,Hid (z=((((((w1.setCell ⟨w.heap.size,0,none⟩ (.slice (some ⟨g2,0,none⟩) 3 h2)).setCell ⟨w.heap.size,1,none⟩ (.slice a2 W0.rs.length r2)).setCell ⟨w.heap.size,2,none⟩ (.string W0.tx)).setCell ⟨w.heap.size,3,none⟩ (.int .i64 W0.rd)).setCell ⟨w.heap.size,4,none⟩ (.bool W0.en)).setCell ⟨w.heap.size,5,none⟩ (.bool W0.dn)).setCell ⟨w.heap.size,6,none⟩ (.bool W0.sn)):=⟨_,rfl⟩
 have ka:Draw.Kept w.heap.size w1 WZ:=by rw [hWZ.out];exact kept7 _ _ _ _ _ _ _ _ _
 have vv:Var 33 WZ w.heap.size [.slice (some ⟨g2,0,none⟩) 3 h2,.slice a2 W0.rs.length r2,.string W0.tx,.int .i64 W0.rd,.bool W0.en,.bool W0.dn,.bool W0.sn]:=by rw [hWZ.out];exact var7 v0 _ _ _ _ _ _ _
 have A3:=A2.keptV v0 (by decide) (by decide) (by decide) (by decide) ka
 have o1:=(oO.mono (Nat.le_succ _)).kept ka (fun y hy=>by have:=(oO.lt y hy).1;omega)
 have BZ:=B1.trans (ka.below (Nat.le_refl _) B1.size)
 clear ka A2 oO v0 B1
 have hWZo:=hWZ.out
 clear hWZ
 subst hWZo
 generalize (((((((w1.setCell ⟨w.heap.size,0,none⟩ (.slice (some ⟨g2,0,none⟩) 3 h2)).setCell ⟨w.heap.size,1,none⟩ (.slice a2 W0.rs.length r2)).setCell ⟨w.heap.size,2,none⟩ (.string W0.tx)).setCell ⟨w.heap.size,3,none⟩ (.int .i64 W0.rd)).setCell ⟨w.heap.size,4,none⟩ (.bool W0.en)).setCell ⟨w.heap.size,5,none⟩ (.bool W0.dn)).setCell ⟨w.heap.size,6,none⟩ (.bool W0.sn))=WZ at *
 have cu1:=hc.upto (fun i hi=>BZ.block i (by omega))
 have S:TH c w.heap.size w.heap.size w WZ W0:=⟨⟨g2,h2,xs2,a2,r2,⟨vv.win,A3.L.mono hzV,A3.hs,A3.R.mono hzV⟩⟩,A3.ok,cu1,⟨BZ.os,BZ.tape,BZ.output,BZ.size,fun i h1 _ _=>BZ.block i h1⟩,fun i cs m _ _ hi=>(BZ.block i (Array.getElem?_eq_some_iff.1 hi).1).trans hi,BZ.size,hcl,hcl⟩
 clear vv A3 cu1
 refine(Draw.l1Below _ _ _ S.cu).mono ?_
 rintro e wa ⟨y,y0,y1,rfl,cua,ka⟩
 obtain⟨n,rfl⟩: ∃n:Nat,y=(n:Int):=⟨y.toNat,by omega⟩
 have hn:n≤most:=by omega
 replace S:=S.drawn cua ka
 replace o1:=o1.kept ka (fun y hy=>by have:=(o1.lt y hy).1;omega)
 have hz:w.heap.size≤wa.heap.size:=Nat.le_trans BZ.size ka.size
 clear cua ka y0 y1 BZ hzV hc
 go_wp2_with fail
 go_loopw [7,8] (fun lv nv wr=> ∃(n g cap:Nat) (L:List Ac) (W:Wd),nv=.int .i64 n∧lv=.slice (some ⟨g,0,none⟩) L.length cap∧Hid (L.length+21*n≤21*most∧ ∀a∈L,a.tx.size≤12)∧actE.Own 69 wr w.heap.size (some ⟨g,0,none⟩) cap L∧w.heap.size≤wr.heap.size∧TH c w.heap.size w.heap.size w wr W) (fun _ nv _=>(intOf nv).toNat)
 case atStart=>exact⟨n,_,0,[],W0,rfl,rfl,⟨by simp;omega,fun a ha=>by cases ha⟩,o1,hz,S⟩
 case round=>
  clear o1 hz S hn
  obtain⟨n,g,cap,L,W,rfl,rfl,HL,o1,hz,S⟩:=hrel
  have hgl:=(o1.lt _ rfl).1
  simp only at hgl
  by_cases hn:0<n
  case neg=>
   obtain rfl:n=0:=by omega
   go_wp2_with fail
   go_ret
   exact⟨g,cap,L,rfl,by have:=HL.out.1;omega,HL.out.2,o1,S.cu,⟨S.f.os,S.f.tape,S.f.output,S.f.size,fun i h1 h2=>S.f.block i h1 (by omega) h2⟩⟩
  have n0:(0:Int)<(n:Int):=by omega
  have hlb:L.length≤2100:=by have:=HL.out.1;omega
  have hnb:n≤100:=by have:=HL.out.1;omega
  have hnc:(n:Int)≤100:=by omega
  go_wp2_with fail
  refine(Draw.l1Once _ _ _ S.cu).mono ?_
  rintro e w2 ⟨b,rfl,cua,ka⟩
  replace S:=S.drawn cua ka
  replace o1:=o1.kept ka (fun y hy=>by have:=(o1.lt y hy).1;omega)
  replace hz:=Nat.le_trans hz ka.size
  clear cua ka
  cases b
  case true=>
   go_wp2_with fail
   refine(l16DrawThrough c w.heap.size w.heap.size W _ S.base).mono ?_
   rintro e w3 ⟨gT,cT,LT,WT,rfl,hT1,hT2,oT,ST⟩
   have o3:=ST.row o1 (S.neO o1) (by omega)
   have S3:=S.join ST
   have hz3:=Nat.le_trans hz ST.f.size
   have LT3:=oT.lies
   have hc3:=oT.none_cap
   clear o1 S ST hz
   go_wp2_with (at_builtin;refine wpList_appS tyAct (by decide) (by rfl) _ _ (by rfl) w.heap.size g cap L.length L LT rfl (by rfl) o3 hz3 (some ⟨gT,0,none⟩) LT.length cT rfl (by rfl) LT3 hc3 (by omega) ?_;intro g5 cap5 w5 o5 gr5)
   have S5:=S3.grown o3 gr5 hgl (Nat.le_refl _) hcl
   have hz5:=Nat.le_trans hz3 gr5.size
   have HL5:Hid ((L++LT).length+21*(n-1)≤21*most∧ ∀a∈L++LT,a.tx.size≤12):=by
    refine⟨by have:=HL.out.1;simp only [List.length_append];omega,fun a ha=>?_⟩
    rcases List.mem_append.1 ha with ha|ha
    ·exact HL.out.2 a ha
    ·exact hT2 a ha
   have hl5:(L++LT).length=L.length+LT.length:=List.length_append
   clear LT3 hc3 oT o3 S3 gr5
   go_roundw
   case rel=>exact⟨n-1,g5,cap5,_,_,by congr 1;omega,by rw [hl5],HL5,o5,hz5,S5⟩
   case measure=>simp [intOf] <;>omega
  case false=>
   obtain⟨g4,h4,xs4,a4,r4,A4⟩:=id S.lay
   have v4:=A4.v.whole
   obtain⟨c0,c1,c2,c3,c4,c5,c6⟩:=v4.c7
   go_wp2_with fail
   refine(l16DrawAct c w.heap.size W a4 g4 h4 r4 xs4 _ ⟨A4.L,A4.hs,A4.R,S.ok⟩ S.cu hcl).mono ?_
   rintro e w3 ⟨a,rfl,ht,cua,ka⟩
   replace S:=S.drawn cua ka
   replace o1:=o1.kept ka (fun y hy=>by have:=(o1.lt y hy).1;omega)
   replace hz:=Nat.le_trans hz ka.size
   have A5:WAt 33 [] [] 0 w3 w.heap.size w.heap.size g4 h4 xs4 a4 r4 W:=⟨A4.v.kept ka (by omega),A4.L.kept ka hcl,A4.hs,A4.R.kept ka (fun x hx=>by have:=(A4.R.lt x hx).1;omega)⟩
   clear cua ka A4 v4 c0 c1 c2 c3 c4 c5 c6
   have vP:Var 69 (w3.alloc (.cells #[.int .i64 a.kd,.int .i64 a.hp,.int .i64 a.ro,.int .i64 a.pl,.int .i64 a.n,.string a.tx] 69)) w3.heap.size [.int .i64 a.kd,.int .i64 a.hp,.int .i64 a.ro,.int .i64 a.pl,.int .i64 a.n,.string a.tx]:=Var.new w3 _
   replace S:=S.alloc (.cells #[.int .i64 a.kd,.int .i64 a.hp,.int .i64 a.ro,.int .i64 a.pl,.int .i64 a.n,.string a.tx] 69)
   replace o1:=o1.alloc (.cells #[.int .i64 a.kd,.int .i64 a.hp,.int .i64 a.ro,.int .i64 a.pl,.int .i64 a.n,.string a.tx] 69)
   replace hz:w.heap.size≤(w3.alloc (.cells #[.int .i64 a.kd,.int .i64 a.hp,.int .i64 a.ro,.int .i64 a.pl,.int .i64 a.n,.string a.tx] 69)).heap.size:=Nat.le_trans hz (by simp)
   replace A5:=A5.later ((Below.refl _ _).alloc (Nat.le_refl _) (.cells #[.int .i64 a.kd,.int .i64 a.hp,.int .i64 a.ro,.int .i64 a.pl,.int .i64 a.n,.string a.tx] 69))
   have v5:=A5.v.whole
   obtain⟨c0,c1,c2,c3,c4,c5,c6⟩:=v5.c7
   obtain⟨p0,p1,p2,p3,p4,p5⟩:=vP.c6
   go_wp2_with fail
   clear c0 c1 c2 c3 c4 c5 c6 p0 p1 p2 p3 p4 p5
   generalize w3.alloc (.cells #[.int .i64 a.kd,.int .i64 a.hp,.int .i64 a.ro,.int .i64 a.pl,.int .i64 a.n,.string a.tx] 69)=V5 at *
   generalize w3.heap.size=mP at *
   refine(l16Happen w.heap.size W a (by omega) a4 g4 h4 r4 xs4 _ ⟨A5.L,A5.hs,A5.R,S.ok⟩ hz).mono ?_
   rintro e w5 ⟨v,rfl,⟨g5,h5,xs5,a5,r5,rfl,A6⟩,b5⟩
   generalize (happenW W a).1=W5 at *
   replace S:=S.later b5
   replace o1:=o1.later b5
   replace hz:=Nat.le_trans hz b5.size
   replace vP:=vP.later b5
   replace v5:=v5.later b5
   clear A5 b5
   obtain⟨c0,c1,c2,c3,c4,c5,c6⟩:=v5.c7
   obtain⟨y0,y1,y2,y3,y4,y5,y6⟩:=v5.f7
   go_upto_region 10 with(fail)
   clear c0 c1 c2 c3 c4 c5 c6 y0 y1 y2 y3 y4 y5 y6
   have S6:=S.store A6
   have ka:Draw.Kept w.heap.size w5 (((((((w5.setCell ⟨w.heap.size,0,none⟩ (.slice (some ⟨g5,0,none⟩) 3 h5)).setCell ⟨w.heap.size,1,none⟩ (.slice a5 W5.rs.length r5)).setCell ⟨w.heap.size,2,none⟩ (.string W5.tx)).setCell ⟨w.heap.size,3,none⟩ (.int .i64 W5.rd)).setCell ⟨w.heap.size,4,none⟩ (.bool W5.en)).setCell ⟨w.heap.size,5,none⟩ (.bool W5.dn)).setCell ⟨w.heap.size,6,none⟩ (.bool W5.sn)):=kept7 _ _ _ _ _ _ _ _ _
   have o6:=o1.kept ka (own_win (by decide) o1 v5.win)
   have vP6:=vP.kept ka (S.ne vP)
   have hz6:=Nat.le_trans hz ka.size
   clear ka S o1 vP hz v5 A6
   generalize (((((((w5.setCell ⟨w.heap.size,0,none⟩ (.slice (some ⟨g5,0,none⟩) 3 h5)).setCell ⟨w.heap.size,1,none⟩ (.slice a5 W5.rs.length r5)).setCell ⟨w.heap.size,2,none⟩ (.string W5.tx)).setCell ⟨w.heap.size,3,none⟩ (.int .i64 W5.rd)).setCell ⟨w.heap.size,4,none⟩ (.bool W5.en)).setCell ⟨w.heap.size,5,none⟩ (.bool W5.dn)).setCell ⟨w.heap.size,6,none⟩ (.bool W5.sn))=W6 at *
   obtain⟨p0,p1,p2,p3,p4,p5⟩:=vP6.c6
   have S7:=S6.alloc (.cells #[.int .i64 a.kd,.int .i64 a.hp,.int .i64 a.ro,.int .i64 a.pl,.int .i64 a.n,.string a.tx] 69)
   have o7:=o6.alloc (.cells #[.int .i64 a.kd,.int .i64 a.hp,.int .i64 a.ro,.int .i64 a.pl,.int .i64 a.n,.string a.tx] 69)
   have hz7:w.heap.size≤(W6.alloc (.cells #[.int .i64 a.kd,.int .i64 a.hp,.int .i64 a.ro,.int .i64 a.pl,.int .i64 a.n,.string a.tx] 69)).heap.size:=Nat.le_trans hz6 (by simp)
   have L7:actE.Lies (W6.alloc (.cells #[.int .i64 a.kd,.int .i64 a.hp,.int .i64 a.ro,.int .i64 a.pl,.int .i64 a.n,.string a.tx] 69)) (some ⟨W6.heap.size,0,none⟩) [a]:=El.lies_new rfl
   clear S6 o6 hz6
   go_wp2_with (at_builtin;refine wpList_appS tyAct (by decide) (by rfl) _ _ (by rfl) w.heap.size g cap L.length L [a] rfl (by rfl) o7 hz7 (some ⟨W6.heap.size,0,none⟩) 1 1 rfl (by rfl) L7 (fun e=>by cases e) (by simp only [List.length_cons,List.length_nil];omega) ?_;intro g8 cap8 w8 o8 gr8)
   have S8:=S7.grown o7 gr8 hgl (Nat.le_refl _) hcl
   have hz8:=Nat.le_trans hz7 gr8.size
   have HL8:Hid ((L++[a]).length+21*(n-1)≤21*most∧ ∀x∈L++[a],x.tx.size≤12):=by
    refine⟨by have:=HL.out.1;simp only [List.length_append,List.length_cons,List.length_nil];omega,fun x hx=>?_⟩
    rcases List.mem_append.1 hx with hx|hx
    ·exact HL.out.2 x hx
    ·obtain rfl:x=a:=by simpa using hx
     exact ht
   have hl8:(L++[a]).length=L.length+1:=by simp
   clear L7 o7 S7 gr8 p0 p1 p2 p3 p4 p5
   go_roundw
   case rel=>exact⟨n-1,g8,cap8,_,_,by congr 1;omega,by rw [hl8],HL8,o8,hz8,S8⟩
   case measure=>simp [intOf] <;>omega
end Go.Proofs.YtfejobjgbadfjaaGreat.Wor
namespace Go.Proofs.YtfejobjgbadfjaaGreat.Wor
open Go.RowKit RowG Hop Roa Pum Lin
theorem infoAct1:(Tryz.prog.info? 69).map (·.size)=some 6:=by kernel_rfl
theorem structAct: ∃fs,Tryz.prog.underlying 69=some (.struct fs):=⟨_,Tryz.underlying69⟩
theorem actCells {w:World}{B g c j:Nat}{L:List Ac}{a:Ac}(o:actE.Own 69 w B (some ⟨g,0,none⟩) c L)(ha:L[j]? =some a): ∀q u,a.c[q]? =some u→w.cell? ⟨g,j*6+q,none⟩=some u:=by
 intro q u hu
 have:=El.Lies.cells o.lies ha q u hu
 rwa [Nat.zero_add]at this
def TieT (B:Nat)(b:Bool)(W:Wd)(v:Value)(w:World):Prop:= ∃u,v=.tuple #[u,.bool b]∧WHold w B u W
theorem TieT.later {B:Nat}{b:Bool}{W:Wd}{v:Value}{w w':World}(h:TieT B b W v w)(bl:Below w.heap.size w w'):TieT B b W v w':=by
 obtain⟨u,h1,h2⟩:=h
 exact⟨u,h1,h2.later bl⟩
theorem l16Draw (c:Nat)(w:World)(hc:Draw.Cur w c):
  Calls Tryz.prog 41 #[.pointer (some ⟨c,0,none⟩)] w fun e w'=> ∃(v:Value) (W:Wd),e=.returned v∧WHold w' w.heap.size v W∧Draw.Cur w' c∧Draw.Kept c w w':=by
 have hmix:=Roa.mix
 have hcl:=hc.lt
 have vR:Var 33 (w.alloc (.cells #[.slice none 0 0,.slice none 0 0,.string ⟨#[]⟩,.int .i64 0,.bool false,.bool false,.bool false] 33)) w.heap.size [.slice none 0 0,.slice none 0 0,.string ⟨#[]⟩,.int .i64 0,.bool false,.bool false,.bool false]:=Var.new w _
 have cu0:=hc.alloc (.cells #[.slice none 0 0,.slice none 0 0,.string ⟨#[]⟩,.int .i64 0,.bool false,.bool false,.bool false] 33)
 have K0:=(Draw.Kept.refl c w).alloc (.cells #[.slice none 0 0,.slice none 0 0,.string ⟨#[]⟩,.int .i64 0,.bool false,.bool false,.bool false] 33)
 go_enter Tryz.func41,Tryz.ntmps41
 go_wp2_with fail
 generalize w.alloc (.cells #[.slice none 0 0,.slice none 0 0,.string ⟨#[]⟩,.int .i64 0,.bool false,.bool false,.bool false] 33)=V at *
 have hzV:=K0.size
 have hzr:=vR.lt
 refine(l16New c _ cu0).mono ?_
 rintro e w1 ⟨l,n,v,hcp,rfl,hold,cu1,k1⟩
 generalize newW l n=W at *
 obtain⟨g2,h2,xs2,a2,r2,rfl,A2⟩:=hold
 replace vR:=(vR.kept k1 (by omega)).alloc (.cells #[.slice (some ⟨g2,0,none⟩) 3 h2,.slice a2 W.rs.length r2,.string W.tx,.int .i64 W.rd,.bool W.en,.bool W.dn,.bool W.sn] 33)
 replace cu1:=cu1.alloc (.cells #[.slice (some ⟨g2,0,none⟩) 3 h2,.slice a2 W.rs.length r2,.string W.tx,.int .i64 W.rd,.bool W.en,.bool W.dn,.bool W.sn] 33)
 replace K0:=(K0.trans k1).alloc (.cells #[.slice (some ⟨g2,0,none⟩) 3 h2,.slice a2 W.rs.length r2,.string W.tx,.int .i64 W.rd,.bool W.en,.bool W.dn,.bool W.sn] 33)
 replace A2:=A2.later ((Below.refl _ _).alloc (Nat.le_refl _) (.cells #[.slice (some ⟨g2,0,none⟩) 3 h2,.slice a2 W.rs.length r2,.string W.tx,.int .i64 W.rd,.bool W.en,.bool W.dn,.bool W.sn] 33))
 have vB:Var 33 (w1.alloc (.cells #[.slice (some ⟨g2,0,none⟩) 3 h2,.slice a2 W.rs.length r2,.string W.tx,.int .i64 W.rd,.bool W.en,.bool W.dn,.bool W.sn] 33)) w1.heap.size [.slice (some ⟨g2,0,none⟩) 3 h2,.slice a2 W.rs.length r2,.string W.tx,.int .i64 W.rd,.bool W.en,.bool W.dn,.bool W.sn]:=Var.new w1 _
 have hz1:=k1.size
 clear cu0 k1 hcp
 obtain⟨c0,c1,c2,c3,c4,c5,c6⟩:=vB.c7
 go_wp2_with fail
 clear c0 c1 c2 c3 c4 c5 c6
 generalize w1.alloc (.cells #[.slice (some ⟨g2,0,none⟩) 3 h2,.slice a2 W.rs.length r2,.string W.tx,.int .i64 W.rd,.bool W.en,.bool W.dn,.bool W.sn] 33)=V1 at *
 generalize w1.heap.size=k at *
 have hk:w.heap.size<k:=by omega
 have S:TH c k w.heap.size w V1 W:=⟨⟨g2,h2,xs2,a2,r2,⟨vB.win,A2.L.mono hzV,A2.hs,A2.R.mono hzV⟩⟩,A2.ok,cu1,⟨K0.os,K0.tape,K0.output,K0.size,fun i h1 _ h3=>K0.block i h1 h3⟩,fun i cs m _ h2 hi=>(K0.block i (Array.getElem?_eq_some_iff.1 hi).1 h2).trans hi,K0.size,by omega,hcl⟩
 have hDA:=l16DrawActs c V.heap.size 60 (by decide) W a2 g2 h2 r2 xs2 V1 A2 cu1
 refine hDA.mono ?_
 rintro e w2 ⟨gL,capL,L,rfl,hL1,hL2,oL,cu2,k2⟩
 replace S:=S.drawn cu2 k2
 replace vR:=vR.kept k2 (by omega)
 have hzL:w.heap.size≤V1.heap.size:=K0.size
 have oL:=oL.mono hzL
 clear hDA cu1 cu2 K0 k2 A2 vB
 have hz:w.heap.size≤w2.heap.size:=Nat.le_of_lt vR.lt
 go_wp2_with fail
 go_loopw [5] (fun jv wr=> ∃(j:Nat) (W:Wd),j≤L.length∧jv=.int .i64 j∧actE.Own 69 wr w.heap.size (some ⟨gL,0,none⟩) capL L∧Var 33 wr w.heap.size [.slice none 0 0,.slice none 0 0,.string ⟨#[]⟩,.int .i64 0,.bool false,.bool false,.bool false]∧w.heap.size≤wr.heap.size∧TH c k w.heap.size w wr W) (fun jv _=>L.length-(intOf jv).toNat)
 case atStart=>exact⟨0,W,by omega,rfl,oL,vR,hz,S⟩
 case round=>
  clear oL vR hz S
  obtain⟨j,W,hj,rfl,oL,vR,hz,S⟩:=hrel
  by_cases hjl:j<L.length
  ·have j0:(j:Int)<(L.length:Int):=by omega
   have j1:(0:Int)≤(j:Int):=by omega
   obtain⟨a,ha⟩: ∃a,L[j]? =some a:=⟨L[j],List.getElem?_eq_getElem hjl⟩
   have hat:a.tx.size≤2097152:=Nat.le_trans (hL2 a (List.mem_of_getElem? ha)) (by decide)
   obtain⟨g4,h4,xs4,a4,r4,A4⟩:=id S.lay
   have hst: ∀q∈([(5,9,TieT w.heap.size (happenW W a).2 (happenW W a).1),(6,9,TieT w.heap.size (happenW W a).2 (happenW W a).1),(7,9,fun v w'=>WHold w' w.heap.size v (happenW W a).1),(6,6,fun v _=> ∃u,v=Value.tuple #[u,.bool (happenW W a).2])]:List RegJ.Tie),∀v (w1 w2:World),Below w1.heap.size w1 w2→q.2.2 v w1→q.2.2 v w2:=by
    intro q hq v wa wb ba h
    simp only [List.mem_cons,List.not_mem_nil,or_false]at hq
    rcases hq with rfl|rfl|rfl|rfl
    ·exact TieT.later h ba
    ·exact TieT.later h ba
    ·exact WHold.later h ba
    ·exact h
   have keepW: ∀(q:Nat) (d:Nat→Bool) (w':World),(fun d w'=>actE.Own 69 w' w.heap.size (some ⟨gL,0,none⟩) capL L∧Var 33 w' w.heap.size [.slice none 0 0,.slice none 0 0,.string ⟨#[]⟩,.int .i64 0,.bool false,.bool false,.bool false]∧w.heap.size≤w'.heap.size∧(d 9=false→TH c k w.heap.size w w' W∧WAt 33 [] [] 0 w' w.heap.size k g4 h4 xs4 a4 r4 W)∧(d 9=true→TH c k w.heap.size w w' (happenW W a).1)) d w'→q≠9→(fun d w'=>actE.Own 69 w' w.heap.size (some ⟨gL,0,none⟩) capL L∧Var 33 w' w.heap.size [.slice none 0 0,.slice none 0 0,.string ⟨#[]⟩,.int .i64 0,.bool false,.bool false,.bool false]∧w.heap.size≤w'.heap.size∧(d 9=false→TH c k w.heap.size w w' W∧WAt 33 [] [] 0 w' w.heap.size k g4 h4 xs4 a4 r4 W)∧(d 9=true→TH c k w.heap.size w w' (happenW W a).1)) (fun j=>j==q||d j) w':=fun q d w' h hq=>⟨h.1,h.2.1,h.2.2.1,fun e=>h.2.2.2.1 (by rw [←or_ne (d:=d) (Ne.symm hq)];exact e),fun e=>h.2.2.2.2 (by rw [←or_ne (d:=d) (Ne.symm hq)];exact e)⟩
   go_wp2_with fail
   refine RegJ.wp_region_J (W:=(fun d w'=>actE.Own 69 w' w.heap.size (some ⟨gL,0,none⟩) capL L∧Var 33 w' w.heap.size [.slice none 0 0,.slice none 0 0,.string ⟨#[]⟩,.int .i64 0,.bool false,.bool false,.bool false]∧w.heap.size≤w'.heap.size∧(d 9=false→TH c k w.heap.size w w' W∧WAt 33 [] [] 0 w' w.heap.size k g4 h4 xs4 a4 r4 W)∧(d 9=true→TH c k w.heap.size w w' (happenW W a).1))) (RegJ.ValE [some (.agg #[.slice (some ⟨g4,0,none⟩) 3 h4,.slice a4 W.rs.length r4,.string W.tx,.int .i64 W.rd,.bool W.en,.bool W.dn,.bool W.sn]),some (.slice (some ⟨gL,0,none⟩) L.length capL),some (.int .i64 (j:Int)),some (.pointer (some ⟨gL,j*6,none⟩)),some (a.v),none,none,none,none,none] ([(5,9,TieT w.heap.size (happenW W a).2 (happenW W a).1),(6,9,TieT w.heap.size (happenW W a).2 (happenW W a).1),(7,9,fun v w'=>WHold w' w.heap.size v (happenW W a).1),(6,6,fun v _=> ∃u,v=Value.tuple #[u,.bool (happenW W a).2])])) [some 18,some 19,some 20,some 21,some 22,some 23,some 17,some 24,some 25,none] (F:=?_) (is:=[0,1,2,3,4,5,6,7,8,9]) hmix (by kernel_rfl) (by kernel_rfl) (by kernel_rfl) (by kernel_rfl) (fun x=>?_) (⟨oL.drew,vR.drew,hz,fun _=>⟨S.drew,⟨A4.v.drew,A4.L.drew,A4.hs,A4.R.drew⟩⟩,fun e=>by cases e⟩) ?_ (fun dR xR wR hWR hdR hJR=>?_)
   rotate_left 1
   focus (simp only [RegJ.lay,Act.put,Nat.reduceAdd,Nat.zero_add,Draw.lays];rfl)
   focus
    iterate 10 (refine RegJ.Steps.cons (RegJ.StepAt.mk rfl (fun d x w1 hW1 hJ1 hx1 K hK=>?_)) ?_;simp only [Draw.lays]at hK;rotate_left 1)
    exact RegJ.Steps.nil
    ·have A1:=(hW1.2.2.2.1 (hx1.out 9 (.inr (by kernel_rfl))).1).2;exact step_load_win (by rfl) _ (by rfl) (by rfl) (vs:=[.slice (some ⟨g4,0,none⟩) 3 h4,.slice a4 W.rs.length r4,.string W.tx,.int .i64 W.rd,.bool W.en,.bool W.dn,.bool W.sn]) infoWorld structWorld A1.v (hK.out _ _ (keepW 0 d _ hW1 (by decide)) RegJ.ValE.same (RegJ.ValE.free (Or.inl rfl) rfl))
    ·go_simp;exact hK.out _ _ (keepW 1 d _ hW1 (by decide)) RegJ.ValE.same (RegJ.ValE.free (Or.inl rfl) rfl)
    ·go_simp;exact hK.out _ _ (keepW 2 d _ hW1 (by decide)) RegJ.ValE.same (RegJ.ValE.free (Or.inl rfl) rfl)
    ·have j1:x 1=_:=(hJ1.out 1 (by kernel_rfl)).val rfl;rw [j1]at hK;have j2:x 2=_:=(hJ1.out 2 (by kernel_rfl)).val rfl;rw [j2]at hK;go_simp;exact hK.out _ _ (keepW 3 d _ hW1 (by decide)) RegJ.ValE.same (RegJ.ValE.free (Or.inl rfl) rfl)
    ·have j3:x 3=_:=(hJ1.out 3 (by kernel_rfl)).val rfl;exact step_load_cells (by rfl) _ (by rfl) (by exact j3) (vs:=a.c) infoAct1 structAct (actCells hW1.1 ha) (hK.out _ _ (keepW 4 d _ hW1 (by decide)) RegJ.ValE.same (RegJ.ValE.free (Or.inl rfl) rfl))
    ·have j0:x 0=_:=(hJ1.out 0 (by kernel_rfl)).val rfl;rw [j0]at hK;have j4:x 4=_:=(hJ1.out 4 (by kernel_rfl)).val rfl;rw [j4]at hK;obtain⟨q1,q2,q3,q4,q5⟩:=id hW1;obtain⟨qS,qA⟩:=q4 (hx1.out 9 (.inr (by kernel_rfl))).1;go_simp;refine(l16Happen w.heap.size W a hat a4 g4 h4 r4 xs4 _ ⟨qA.L,qA.hs,qA.R,qS.ok⟩ q3).mono ?_;rintro e wa ⟨u,rfl,hold,ba⟩;go_simp;exact hK.out _ _ ⟨q1.later ba,q2.later ba,Nat.le_trans q3 ba.size,fun _=>⟨qS.later ba,qA.later ba⟩,fun e=>absurd e (by simp [(hx1.out 9 (.inr (by kernel_rfl))).1])⟩ (RegJ.ValE.keep (fun q hq=>.inr (.inr fun v h=>hst q hq v _ _ ba h))) (RegJ.ValE.got 0 _ _ (Or.inr rfl) rfl rfl ⟨u,rfl,hold⟩)
    ·obtain⟨u,j5,hold⟩:=((hJ1.out 5 (by kernel_rfl)).tie 0 rfl (.inr (hx1.out 9 (.inr (by kernel_rfl))).1));rw [j5]at hK;go_simp;exact hK.out _ _ (keepW 6 d _ hW1 (by decide)) RegJ.ValE.same (RegJ.ValE.this (Or.inr rfl) (by intro q hq he;simp only [List.mem_cons,List.not_mem_nil,or_false]at hq;rcases hq with rfl|rfl|rfl|rfl;cases he;exact⟨u,rfl,hold⟩;cases he;exact⟨u,rfl⟩))
    ·obtain⟨u,j6,hold⟩:=((hJ1.out 6 (by kernel_rfl)).tie 1 rfl (.inr (hx1.out 9 (.inr (by kernel_rfl))).1));rw [j6]at hK;go_simp;exact hK.out _ _ (keepW 7 d _ hW1 (by decide)) RegJ.ValE.same (RegJ.ValE.got 2 _ _ (Or.inr rfl) rfl rfl hold)
    ·obtain⟨u,j6⟩:=((hJ1.out 6 (by kernel_rfl)).tie 3 rfl (.inl rfl));rw [j6]at hK;go_simp;exact hK.out _ _ (keepW 8 d _ hW1 (by decide)) RegJ.ValE.same (RegJ.ValE.free (Or.inr rfl) rfl)
    ·obtain⟨q1,q2,q3,q4,q5⟩:=id hW1;obtain⟨qS,qA⟩:=q4 (hx1.out 9 (.inl rfl)).1;obtain⟨g5,h5,xs5,a5,r5,j7,A5⟩:=((hJ1.out 7 (by kernel_rfl)).tie 2 rfl (.inr (hx1.out 9 (.inl rfl)).1));have j7:x 7=_:=j7;rw [j7]at hK;have v5:=qA.v.whole;have c0:=v5.cell (i:=0) rfl;have c1:=v5.cell (i:=1) rfl;have c2:=v5.cell (i:=2) rfl;have c3:=v5.cell (i:=3) rfl;have c4:=v5.cell (i:=4) rfl;have c5:=v5.cell (i:=5) rfl;have c6:=v5.cell (i:=6) rfl;have y0:=v5.free 0;have y1:=v5.free 1;have y2:=v5.free 2;have y3:=v5.free 3;have y4:=v5.free 4;have y5:=v5.free 5;have y6:=v5.free 6;go_simp;have ka:=kept7 w1 k (.slice (some ⟨g5,0,none⟩) 3 h5) (.slice a5 (happenW W a).1.rs.length r5) (.string (happenW W a).1.tx) (.int .i64 (happenW W a).1.rd) (.bool (happenW W a).1.en) (.bool (happenW W a).1.dn) (.bool (happenW W a).1.sn);exact hK.out undef _ ⟨q1.kept ka (own_win (by decide) q1 v5.win),q2.kept ka (by omega),Nat.le_trans q3 ka.size,fun e=>absurd e (by simp),fun _=>qS.store A5⟩ (RegJ.ValE.keep (by intro q hq;simp only [List.mem_cons,List.not_mem_nil,or_false]at hq;rcases hq with rfl|rfl|rfl|rfl;exact .inr (.inl ⟨by simp,.inl rfl⟩);exact .inr (.inl ⟨by simp,.inl rfl⟩);exact .inr (.inl ⟨by simp,.inl rfl⟩);exact .inr (.inr fun v h=>h))) (RegJ.ValE.free (Or.inr rfl) rfl)
   have oL':=hWR.1
   have vR':=hWR.2.1
   have hz':=hWR.2.2.1
   have S':=hWR.2.2.2.2 (hdR 9 (by simp))
   clear hWR hdR hJR keepW hst A4 ha hat oL vR hz S
   go_wp2_with fail
   go_roundw
   case rel=>exact⟨j+1,_,by omega,by simp,oL',vR',hz',S'⟩
   case measure=>simp [intOf] <;>omega
  ·have j0: ¬(j:Int)<(L.length:Int):=by omega
   obtain⟨g4,h4,xs4,a4,r4,A4⟩:=id S.lay
   have v4:=A4.v.whole
   obtain⟨c0,c1,c2,c3,c4,c5,c6⟩:=v4.c7
   go_wp2_with fail
   refine(l16Copy W _ a4 h4 r4 xs4 _ A4.L.ll A4.hs A4.R.lies A4.R.none_cap S.ok).mono ?_
   rintro e w5 ⟨v,rfl,⟨g5,h5,xs5,a5,r5,rfl,A5⟩,b5⟩
   replace S:=S.later b5
   replace vR:=vR.later b5
   clear c0 c1 c2 c3 c4 c5 c6 A4 v4
   obtain⟨c0,c1,c2,c3,c4,c5,c6⟩:=vR.c7
   obtain⟨y0,y1,y2,y3,y4,y5,y6⟩:=vR.f7
   go_wp2_with fail
   clear c0 c1 c2 c3 c4 c5 c6 y0 y1 y2 y3 y4 y5 y6
   obtain⟨WZ,hWZ⟩: ∃z,Hid (z=((((((w5.setCell ⟨w.heap.size,0,none⟩ (.slice (some ⟨g5,0,none⟩) 3 h5)).setCell ⟨w.heap.size,1,none⟩ (.slice a5 W.rs.length r5)).setCell ⟨w.heap.size,2,none⟩ (.string W.tx)).setCell ⟨w.heap.size,3,none⟩ (.int .i64 W.rd)).setCell ⟨w.heap.size,4,none⟩ (.bool W.en)).setCell ⟨w.heap.size,5,none⟩ (.bool W.dn)).setCell ⟨w.heap.size,6,none⟩ (.bool W.sn)):=⟨_,rfl⟩
   have ka:Draw.Kept w.heap.size w5 WZ:=by rw [hWZ.out];exact kept7 _ _ _ _ _ _ _ _ _
   have vv:Var 33 WZ w.heap.size [.slice (some ⟨g5,0,none⟩) 3 h5,.slice a5 W.rs.length r5,.string W.tx,.int .i64 W.rd,.bool W.en,.bool W.dn,.bool W.sn]:=by rw [hWZ.out];exact var7 vR _ _ _ _ _ _ _
   have A6:=A5.keptV vR (by decide) (by decide) (by decide) (by decide) ka
   have cu6:Draw.Cur WZ c:=S.cu.upto (fun i hi=>ka.block i (by have:=S.cu.lt;omega) (by omega))
   have K6:Draw.Kept c w WZ:=⟨ka.os.trans S.f.os,ka.tape.trans S.f.tape,ka.output.trans S.f.output,Nat.le_trans S.f.size ka.size,fun i hi hc=>(ka.block i (Nat.lt_of_lt_of_le hi S.f.size) (by omega)).trans (S.f.block i hi (by omega) hc)⟩
   clear ka A5 vR S
   rw [←hWZ.out]
   clear hWZ
   obtain⟨c0,c1,c2,c3,c4,c5,c6⟩:=vv.c7
   refine bodyPost_ret (v:=.agg #[.slice (some ⟨g5,0,none⟩) 3 h5,.slice a5 W.rs.length r5,.string W.tx,.int .i64 W.rd,.bool W.en,.bool W.dn,.bool W.sn]) (by rw [Hop.res_one rfl];go_simp) rfl ⟨_,W,rfl,⟨g5,h5,xs5,a5,r5,rfl,⟨A6.L.mono hz,A6.hs,A6.R.mono hz,A6.ok⟩⟩,cu6,K6⟩
end Go.Proofs.YtfejobjgbadfjaaGreat.Wor
namespace Go.Proofs.YtfejobjgbadfjaaGreat.Wor
open Go.RowKit RowG Hop Roa Pum Lin
theorem fldLine (a b e f g h i:Value)(w:World):(Instr.field 33 (.agg #[a,b,e,f,g,h,i]) 0).run Tryz.prog w=.ok (.agg #[a,b]) w:=by kernel_rfl
theorem l13Draw (c:Nat)(w:World)(hc:Draw.Cur w c):
  Calls Tryz.prog 48 #[.pointer (some ⟨c,0,none⟩)] w fun e w'=> ∃(W:Wd) (g cH:Nat) (xs:List Ha) (gR cR:Nat),e=.returned (.agg #[.slice (some ⟨g,0,none⟩) 3 cH,.slice (some ⟨gR,0,none⟩) W.rs.length cR])∧WAs w' w.heap.size g cH xs (some ⟨gR,0,none⟩) cR W∧Draw.Cur w' c∧Draw.Kept c w w':=by
 have hmix:=Roa.mix
 have hcl:=hc.lt
 have vR:Var 27 (w.alloc (.cells #[.slice none 0 0,.slice none 0 0] 27)) w.heap.size [.slice none 0 0,.slice none 0 0]:=Var.new w _
 have cu0:=hc.alloc (.cells #[.slice none 0 0,.slice none 0 0] 27)
 have K0:=(Draw.Kept.refl c w).alloc (.cells #[.slice none 0 0,.slice none 0 0] 27)
 go_enter Tryz.func48,Tryz.ntmps48
 go_wp2_with fail
 generalize w.alloc (.cells #[.slice none 0 0,.slice none 0 0] 27)=V at *
 have hzV:=K0.size
 refine(l16Draw c _ cu0).mono ?_
 rintro e w1 ⟨v,W,rfl,⟨g2,h2,xs2,a2,r2,rfl,A2⟩,cu1,k1⟩
 replace vR:=vR.kept k1 (by omega)
 replace K0:=K0.trans k1
 clear k1 cu0
 have hfl:=fldLine (.slice (some ⟨g2,0,none⟩) 3 h2) (.slice a2 W.rs.length r2) (.string W.tx) (.int .i64 W.rd) (.bool W.en) (.bool W.dn) (.bool W.sn) w1
 go_wp2_with fail
 refine(Lin.l13Copy _ a2 3 W.rs.length h2 r2 xs2 W.rs _ A2.len.symm rfl A2.L.ll A2.R.lies A2.R.none_cap (by rw [A2.len];decide) (by have:=(roads_len (hops_iff.1 (ok_parts.1 A2.ok).1).2.1).2;omega) (few_of A2.ok A2.hs)).mono ?_
 rintro e w2 ⟨a',c',ys,g',c'',rfl,La,hma,Ra,ba⟩
 obtain⟨g,rfl⟩: ∃g,a'=some ⟨g,0,none⟩:=by
  rcases La.row.form with⟨_,_,h0⟩|⟨g,rfl,_⟩
  ·rw [h0]at hma
   have:=congrArg List.length hma
   simp [A2.len]at this
  ·exact⟨g,rfl⟩
 have A3:WAs w2 w1.heap.size g c' ys (some ⟨g',0,none⟩) c'' W:=⟨La,hma.trans A2.hs,Ra,A2.ok⟩
 replace vR:=vR.later ba
 have cu2:=cu1.below ba (Nat.le_refl _)
 have K2:=K0.trans (Draw.Kept.ofBelow ba (Nat.le_refl _))
 have hz1:w.heap.size≤w1.heap.size:=K0.size
 clear hfl La Ra ba cu1 K0 A2 hma
 have e0:=vR.cell (i:=0) rfl
 have e1:=vR.cell (i:=1) rfl
 have f0:=vR.free 0
 have f1:=vR.free 1
 go_wp2_with fail
 clear e0 e1 f0 f1
 obtain⟨WZ,hWZ⟩: ∃z,Hid (z=(w2.setCell ⟨w.heap.size,0,none⟩ (.slice (some ⟨g,0,none⟩) 3 c')).setCell ⟨w.heap.size,1,none⟩ (.slice (some ⟨g',0,none⟩) W.rs.length c'')):=⟨_,rfl⟩
 have ka:Draw.Kept w.heap.size w2 WZ:=by rw [hWZ.out];exact((Draw.Kept.refl _ _).setCell (p:=⟨w.heap.size,0,none⟩) (.inl rfl) _).setCell (p:=⟨w.heap.size,1,none⟩) (.inl rfl) _
 have vv:Var 27 WZ w.heap.size [.slice (some ⟨g,0,none⟩) 3 c',.slice (some ⟨g',0,none⟩) W.rs.length c'']:=by rw [hWZ.out];exact(vR.set 0 _).set 1 _
 have A6:=A3.keptV vR (by decide) (by decide) (by decide) (by decide) ka
 have cu6:=cu2.upto (fun i hi=>ka.block i (by have:=cu2.lt;omega) (by omega))
 have K6:Draw.Kept c w WZ:=⟨ka.os.trans K2.os,ka.tape.trans K2.tape,ka.output.trans K2.output,Nat.le_trans K2.size ka.size,fun i hi hc=>(ka.block i (Nat.lt_of_lt_of_le hi K2.size) (by omega)).trans (K2.block i hi hc)⟩
 clear ka A3 vR cu2 K2
 have hWZo:=hWZ.out
 clear hWZ
 subst hWZo
 generalize (w2.setCell ⟨w.heap.size,0,none⟩ (.slice (some ⟨g,0,none⟩) 3 c')).setCell ⟨w.heap.size,1,none⟩ (.slice (some ⟨g',0,none⟩) W.rs.length c'')=WZ at *
 have e0:=vv.cell (i:=0) rfl
 have e1:=vv.cell (i:=1) rfl
 refine bodyPost_ret (v:=.agg #[.slice (some ⟨g,0,none⟩) 3 c',.slice (some ⟨g',0,none⟩) W.rs.length c'']) (by rw [Hop.res_one rfl];go_simp) rfl ⟨W,g,c',ys,g',c'',rfl,⟨A6.L.mono hz1,A6.hs,A6.R.mono hz1,A6.ok⟩,cu6,K6⟩
end Go.Proofs.YtfejobjgbadfjaaGreat.Wor
