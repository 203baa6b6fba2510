/- Contracts of this seat's functions, and their mathematics (CouG). -/
import Derived.Test.YtfejobjgbadfjaaGreatK46
import Derived.Laws.Cover1
import Derived.Deep.CutRange
set_option linter.unusedVariables false
set_option linter.unusedSimpArgs false
set_option maxRecDepth 10000
set_option maxHeartbeats 8000000
namespace Go.Proofs.YtfejobjgbadfjaaGreat.Cou
open Go.RowKit RowG
def alikeB (s:Int)(b:ByteArray)(t:Int)(c:ByteArray):Bool:=(List.range (min (s+b.size) (t+c.size)-max s t).toNat).all fun i=>byteN b (max s t+(i:Int)-s)==byteN c (max s t+(i:Int)-t)
theorem alike_no {s t:Int}{b c:ByteArray}{i:Nat}(h:max s t+(i:Int)<min (s+b.size) (t+c.size))(hne:byteN b (max s t+(i:Int)-s)≠byteN c (max s t+(i:Int)-t)):alikeB s b t c=false:=by
 unfold alikeB
 rw [List.all_eq_false]
 exact⟨i,List.mem_range.2 (by omega),by simpa using hne⟩
theorem alike_yes {s t:Int}{b c:ByteArray}(h: ∀i:Nat,max s t+(i:Int)<min (s+b.size) (t+c.size)→byteN b (max s t+(i:Int)-s)=byteN c (max s t+(i:Int)-t)):alikeB s b t c=true:=by
 unfold alikeB
 rw [List.all_eq_true]
 intro i hi
 rw [List.mem_range]at hi
 simpa using h i (by omega)
structure Pr (V:World)(k:Nat)(x y:Hd):Prop where
 v2:Var 53 V k x.c
 v3:Var 53 V (k+1) y.c
 hx:HdAt V x
 hy:HdAt V y
 fx:x.Fine
 fy:y.Fine
theorem Pr.later {V W:World}{k:Nat}{x y:Hd}(h:Pr V k x y)(b:Below V.heap.size V W):Pr W k x y:=⟨h.v2.later b,h.v3.later b,h.hx.later b,h.hy.later b,h.fx,h.fy⟩
theorem Pr.cells {V:World}{k:Nat}{x y:Hd}(h:Pr V k x y):(∀p:Draw.Later V,p.1.cell? ⟨k,0,none⟩=some (.func (.func 53) #[] #[.pointer (some ⟨x.k1,0,none⟩)]))∧(∀p:Draw.Later V,p.1.cell? ⟨k,1,none⟩=some (.func (.func 54) #[] #[.pointer (some ⟨x.k1,0,none⟩),.pointer (some ⟨x.k2,0,none⟩)]))∧(∀p:Draw.Later V,p.1.cell? ⟨k,2,none⟩=some (.func (.func 55) #[] #[.pointer (some ⟨x.k2,0,none⟩),.pointer (some ⟨x.k1,0,none⟩)]))∧(∀p:Draw.Later V,p.1.cell? ⟨k+1,0,none⟩=some (.func (.func 53) #[] #[.pointer (some ⟨y.k1,0,none⟩)]))∧(∀p:Draw.Later V,p.1.cell? ⟨k+1,1,none⟩=some (.func (.func 54) #[] #[.pointer (some ⟨y.k1,0,none⟩),.pointer (some ⟨y.k2,0,none⟩)]))∧(∀p:Draw.Later V,p.1.cell? ⟨k+1,2,none⟩=some (.func (.func 55) #[] #[.pointer (some ⟨y.k2,0,none⟩),.pointer (some ⟨y.k1,0,none⟩)])):=
 ⟨Draw.Later.cell (h.v2.cell (i:=0) rfl),Draw.Later.cell (h.v2.cell (i:=1) rfl),Draw.Later.cell (h.v2.cell (i:=2) rfl),Draw.Later.cell (h.v3.cell (i:=0) rfl),Draw.Later.cell (h.v3.cell (i:=1) rfl),Draw.Later.cell (h.v3.cell (i:=2) rfl)⟩
theorem Pr.x1 {V:World}{k:Nat}{x y:Hd}(h:Pr V k x y)(p:Draw.Later V):Calls Tryz.prog 53 #[.pointer (some ⟨x.k1,0,none⟩)] p.1 fun e w'=>e=.returned (.int .i64 x.st)∧Below p.1.heap.size p.1 w':=(held1 x p.1 (h.hx.later p.2)).mono (by rintro e w' ⟨rfl,rfl⟩;exact⟨rfl,Below.refl _ _⟩)
theorem Pr.x2 {V:World}{k:Nat}{x y:Hd}(h:Pr V k x y)(p:Draw.Later V):Calls Tryz.prog 54 #[.pointer (some ⟨x.k1,0,none⟩),.pointer (some ⟨x.k2,0,none⟩)] p.1 fun e w'=>e=.returned (.int .i64 x.en)∧Below p.1.heap.size p.1 w':=(held2 x p.1 (h.hx.later p.2) h.fx).mono (by rintro e w' ⟨rfl,rfl⟩;exact⟨rfl,Below.refl _ _⟩)
theorem Pr.x3 {V:World}{k:Nat}{x y:Hd}(h:Pr V k x y)(p:Draw.Later V){q:Int}(h0:x.st≤q)(h1:q<x.en):Calls Tryz.prog 55 #[.int .i64 q,.pointer (some ⟨x.k2,0,none⟩),.pointer (some ⟨x.k1,0,none⟩)] p.1 fun e w'=>e=.returned (.int .u8 (byteN x.bs (q-x.st)))∧Below p.1.heap.size p.1 w':=(held3 x q p.1 (h.hx.later p.2) h.fx h0 h1).mono (by rintro e w' ⟨rfl,rfl⟩;exact⟨rfl,Below.refl _ _⟩)
theorem Pr.y1 {V:World}{k:Nat}{x y:Hd}(h:Pr V k x y)(p:Draw.Later V):Calls Tryz.prog 53 #[.pointer (some ⟨y.k1,0,none⟩)] p.1 fun e w'=>e=.returned (.int .i64 y.st)∧Below p.1.heap.size p.1 w':=(held1 y p.1 (h.hy.later p.2)).mono (by rintro e w' ⟨rfl,rfl⟩;exact⟨rfl,Below.refl _ _⟩)
theorem Pr.y2 {V:World}{k:Nat}{x y:Hd}(h:Pr V k x y)(p:Draw.Later V):Calls Tryz.prog 54 #[.pointer (some ⟨y.k1,0,none⟩),.pointer (some ⟨y.k2,0,none⟩)] p.1 fun e w'=>e=.returned (.int .i64 y.en)∧Below p.1.heap.size p.1 w':=(held2 y p.1 (h.hy.later p.2) h.fy).mono (by rintro e w' ⟨rfl,rfl⟩;exact⟨rfl,Below.refl _ _⟩)
theorem Pr.y3 {V:World}{k:Nat}{x y:Hd}(h:Pr V k x y)(p:Draw.Later V){q:Int}(h0:y.st≤q)(h1:q<y.en):Calls Tryz.prog 55 #[.int .i64 q,.pointer (some ⟨y.k2,0,none⟩),.pointer (some ⟨y.k1,0,none⟩)] p.1 fun e w'=>e=.returned (.int .u8 (byteN y.bs (q-y.st)))∧Below p.1.heap.size p.1 w':=(held3 y q p.1 (h.hy.later p.2) h.fy h0 h1).mono (by rintro e w' ⟨rfl,rfl⟩;exact⟨rfl,Below.refl _ _⟩)
theorem porterLinks (x y:Hd)(w:World)(hx:HdAt w x)(hy:HdAt w y)(fx:x.Fine)(fy:y.Fine):
  Calls Tryz.prog 14 #[.agg x.c.toArray,.agg y.c.toArray] w fun e w'=>e=.returned (.bool (x.st==y.en))∧Below w.heap.size w w':=by
 have hmix:=Roa.mix
 have v3:Var 53 ((w.alloc (.cells x.c.toArray 53)).alloc (.cells y.c.toArray 53)) (w.heap.size+1) y.c:=by
  have q:=Var.new (T:=53) (w.alloc (.cells x.c.toArray 53)) y.c
  simpa using q
 have b0:Below w.heap.size w ((w.alloc (.cells x.c.toArray 53)).alloc (.cells y.c.toArray 53)):=((Below.refl _ _).alloc (Nat.le_refl _) _).alloc (by simp) _
 have P:Pr ((w.alloc (.cells x.c.toArray 53)).alloc (.cells y.c.toArray 53)) w.heap.size x y:=⟨(Var.new w _).alloc _,v3,hx.later b0,hy.later b0,fx,fy⟩
 clear v3 hx hy fx fy
 go_enter Tryz.func14,Tryz.ntmps14
 go_upto_region 1 with(fail)
 generalize ((w.alloc (.cells x.c.toArray 53)).alloc (.cells y.c.toArray 53))=V at *
 obtain⟨e0,e1,e2,f0,f1,f2⟩:=P.cells
 refine Draw.wp_region_later hmix (by kernel_rfl) ?_
 repeat (go_big_quiet_step (first|(go_at_call 54;first|exact Draw.later_of (P.x2 _)|exact Draw.later_of (P.y2 _))|(go_at_call 53;first|exact Draw.later_of (P.x1 _)|exact Draw.later_of (P.y1 _))|fail))
 refine wpQuiet_nil ?_
 intro _ hw'
 obtain⟨⟨wq,hq⟩,hw''⟩:=hw'
 subst hw''
 go_wp2_with fail
 go_ret
 exact⟨rfl,b0.trans (hq.mono b0.size)⟩
theorem areAlike (x y:Hd)(w:World)(hx:HdAt w x)(hy:HdAt w y)(fx:x.Fine)(fy:y.Fine):
  Calls Tryz.prog 33 #[.agg x.c.toArray,.agg y.c.toArray] w fun e w'=>e=.returned (.bool (alikeB x.st x.bs y.st y.bs))∧Below w.heap.size w w':=by
 have hmix:=Roa.mix
 have v3:Var 53 ((w.alloc (.cells x.c.toArray 53)).alloc (.cells y.c.toArray 53)) (w.heap.size+1) y.c:=by
  have q:=Var.new (T:=53) (w.alloc (.cells x.c.toArray 53)) y.c
  simpa using q
 have b0:Below w.heap.size w ((w.alloc (.cells x.c.toArray 53)).alloc (.cells y.c.toArray 53)):=((Below.refl _ _).alloc (Nat.le_refl _) _).alloc (by simp) _
 have P:Pr ((w.alloc (.cells x.c.toArray 53)).alloc (.cells y.c.toArray 53)) w.heap.size x y:=⟨(Var.new w _).alloc _,v3,hx.later b0,hy.later b0,fx,fy⟩
 clear v3 hx hy fx fy
 go_enter Tryz.func33,Tryz.ntmps33
 go_upto_region 1 with(fail)
 generalize ((w.alloc (.cells x.c.toArray 53)).alloc (.cells y.c.toArray 53))=V at *
 go_cut [5]from 7 to 13 (fun v wr=>v=.int .i64 (min x.en y.en)∧Below V.heap.size V wr)
 case first=>
  obtain⟨e0,e1,e2,f0,f1,f2⟩:=P.cells
  by_cases hlt:y.en<x.en
  all_goals
   refine Draw.wp_region_later hmix (by kernel_rfl) ?_
   repeat (go_big_quiet_step (first|(go_at_call 54;first|exact Draw.later_of (P.x2 _)|exact Draw.later_of (P.y2 _))|(go_at_call 53;first|exact Draw.later_of (P.x1 _)|exact Draw.later_of (P.y1 _))|fail))
   refine wpQuiet_nil ?_
   intro _ hw'
   obtain⟨⟨wq,hq⟩,hw''⟩:=hw'
   subst hw''
   go_wp2_with fail
   go_meet
   exact⟨by congr 1;omega,hq⟩
 case rest=>
 obtain⟨rfl,b1⟩:=hcut
 replace P:=P.later b1
 replace b0:=b0.trans (b1.mono b0.size)
 clear b1
 obtain⟨V1,hV1⟩: ∃z,z=wc:=⟨_,rfl⟩
 subst hV1
 go_upto_region 2 with(fail)
 go_cut [6]from 14 to 20 (fun v wr=>v=.int .i64 (max x.st y.st)∧Below V1.heap.size V1 wr)
 case first=>
  obtain⟨e0,e1,e2,f0,f1,f2⟩:=P.cells
  by_cases hlt:x.st<y.st
  all_goals
   refine Draw.wp_region_later hmix (by kernel_rfl) ?_
   repeat (go_big_quiet_step (first|(go_at_call 54;first|exact Draw.later_of (P.x2 _)|exact Draw.later_of (P.y2 _))|(go_at_call 53;first|exact Draw.later_of (P.x1 _)|exact Draw.later_of (P.y1 _))|fail))
   refine wpQuiet_nil ?_
   intro _ hw'
   obtain⟨⟨wq,hq⟩,hw''⟩:=hw'
   subst hw''
   go_wp2_with fail
   go_meet
   exact⟨by congr 1;omega,hq⟩
 case rest=>
 obtain⟨rfl,b1⟩:=hcut
 replace P:=P.later b1
 replace b0:=b0.trans (b1.mono b0.size)
 clear b1
 obtain⟨V2,hV2⟩: ∃z,z=wc:=⟨_,rfl⟩
 subst hV2
 have hf:0≤x.st∧0≤y.st∧x.en≤1000000000∧y.en≤1000000000:=⟨P.fx.1,P.fy.1,P.fx.2,P.fy.2⟩
 have HX:Hid (x.en=x.st+x.bs.size∧y.en=y.st+y.bs.size):=⟨rfl,rfl⟩
 have HP:Hid (Pr V2 w.heap.size x y):=P
 clear P
 go_wp2_with fail
 go_loopw [6] (fun pv wr=> ∃i:Nat,pv=.int .i64 (max x.st y.st+(i:Int))∧Hid (∀j,j<i→byteN x.bs (max x.st y.st+(j:Int)-x.st)=byteN y.bs (max x.st y.st+(j:Int)-y.st))∧Below V2.heap.size V2 wr) (fun pv _=>(min x.en y.en-intOf pv).toNat)
 case atStart=>exact⟨0,by simp,fun j hj=>by omega,Below.refl _ _⟩
 case round=>
  obtain⟨i,rfl,HA,b1⟩:=hrel
  have B1:=b0.trans (b1.mono b0.size)
  by_cases hlt:(max x.st y.st+(i:Int))<min x.en y.en
  case neg=>
   have HN:Hid (¬(max x.st y.st+(i:Int))<min x.en y.en):=hlt
   go_wp2_with fail
   go_ret
   refine⟨?_,B1⟩
   rw [alike_yes (fun j hj=>HA.out j (by have:=HN.out;have:=HX.out;omega))]
   rfl
  case pos=>
   have P:=HP.out.later b1
   have X3:=fun p=>P.x3 p (q:=(max x.st y.st+(i:Int))) (by omega) (by omega)
   have Y3:=fun p=>P.y3 p (q:=(max x.st y.st+(i:Int))) (by omega) (by omega)
   have HI:Hid (byteN x.bs ((max x.st y.st+(i:Int))-x.st)≠byteN y.bs ((max x.st y.st+(i:Int))-y.st)→alikeB x.st x.bs y.st y.bs=false):=fun hne=>alike_no (by have:=HX.out;omega) hne
   have HE:Hid (byteN x.bs ((max x.st y.st+(i:Int))-x.st)=byteN y.bs ((max x.st y.st+(i:Int))-y.st)→ ∀j,j<i+1→byteN x.bs (max x.st y.st+(j:Int)-x.st)=byteN y.bs (max x.st y.st+(j:Int)-y.st)):=fun he j hj=>by
    by_cases e:j=i
    ·subst e;exact he
    ·exact HA.out j (by omega)
   generalize byteN x.bs ((max x.st y.st+(i:Int))-x.st)=u at *
   generalize byteN y.bs ((max x.st y.st+(i:Int))-y.st)=v at *
   have HX3:Hid _:=X3
   have HY3:Hid _:=Y3
   clear X3 Y3 HA
   obtain⟨e0,e1,e2,f0,f1,f2⟩:=P.cells
   have z: -9223372036854775808≤(max x.st y.st+(i:Int))+1∧(max x.st y.st+(i:Int))+1≤9223372036854775807:=by omega
   by_cases he:u=v
   case pos=>
    subst he
    have HEE:Hid _:=HE.out rfl
    clear HE HI
    go_wp2_with fail
    refine Draw.wp_region_later hmix (by kernel_rfl) ?_
    repeat (go_big_quiet_step (first|(go_at_call 54;first|exact Draw.later_of (P.x2 _)|exact Draw.later_of (P.y2 _))|(go_at_call 53;first|exact Draw.later_of (P.x1 _)|exact Draw.later_of (P.y1 _))|(go_at_call 55;first|exact Draw.later_of (HX3.out _)|exact Draw.later_of (HY3.out _))|fail))
    refine wpQuiet_nil ?_
    intro _ hw'
    obtain⟨⟨wq,hq⟩,hw''⟩:=hw'
    subst hw''
    go_wp2_with fail
    go_roundw
    case rel=>exact⟨i+1,by go_num,HEE.out,b1.trans (hq.mono b1.size)⟩
    case measure=>simp [intOf];omega
   case neg=>
    have hne:(u==v)=false:=by simpa using he
    have hne2:(u !=v)=true:=by simpa using he
    have HI2:Hid (alikeB x.st x.bs y.st y.bs=false):=HI.out he
    clear HE HI
    go_wp2_with fail
    refine Draw.wp_region_later hmix (by kernel_rfl) ?_
    repeat (go_big_quiet_step (first|(go_at_call 54;first|exact Draw.later_of (P.x2 _)|exact Draw.later_of (P.y2 _))|(go_at_call 53;first|exact Draw.later_of (P.x1 _)|exact Draw.later_of (P.y1 _))|(go_at_call 55;first|exact Draw.later_of (HX3.out _)|exact Draw.later_of (HY3.out _))|fail))
    refine wpQuiet_nil ?_
    intro _ hw'
    obtain⟨⟨wq,hq⟩,hw''⟩:=hw'
    subst hw''
    go_wp2_with fail
    go_ret
    exact⟨by rw [HI2.out];rfl,B1.trans (hq.mono B1.size)⟩
def roadB (s:Int)(b:ByteArray)(t:Int)(c:ByteArray):Bool:=decide (s≤t+c.size)&&(decide (t+c.size≤s+b.size)&&alikeB s b t c)
theorem roadLinks (x y:Hd)(w:World)(hx:HdAt w x)(hy:HdAt w y)(fx:x.Fine)(fy:y.Fine):
  Calls Tryz.prog 15 #[.agg x.c.toArray,.agg y.c.toArray] w fun e w'=>e=.returned (.bool (roadB x.st x.bs y.st y.bs))∧Below w.heap.size w w':=by
 have hmix:=Roa.mix
 have v3:Var 53 ((w.alloc (.cells x.c.toArray 53)).alloc (.cells y.c.toArray 53)) (w.heap.size+1) y.c:=by
  have q:=Var.new (T:=53) (w.alloc (.cells x.c.toArray 53)) y.c
  simpa using q
 have b0:Below w.heap.size w ((w.alloc (.cells x.c.toArray 53)).alloc (.cells y.c.toArray 53)):=((Below.refl _ _).alloc (Nat.le_refl _) _).alloc (by simp) _
 have P:Pr ((w.alloc (.cells x.c.toArray 53)).alloc (.cells y.c.toArray 53)) w.heap.size x y:=⟨(Var.new w _).alloc _,v3,hx.later b0,hy.later b0,fx,fy⟩
 clear v3 hx hy fx fy
 go_enter Tryz.func15,Tryz.ntmps15
 go_upto_region 1 with(fail)
 generalize ((w.alloc (.cells x.c.toArray 53)).alloc (.cells y.c.toArray 53))=V at *
 have c0:=P.v2.cell (i:=0) rfl
 have c1:=P.v2.cell (i:=1) rfl
 have c2:=P.v2.cell (i:=2) rfl
 have d0:=P.v3.cell (i:=0) rfl
 have d1:=P.v3.cell (i:=1) rfl
 have d2:=P.v3.cell (i:=2) rfl
 have hA:=fun _:Unit=>areAlike x y V P.hx P.hy P.fx P.fy
 have H2:Hid (∀d:Hd,HdAt V d→d.Fine→Calls Tryz.prog 54 #[.pointer (some ⟨d.k1,0,none⟩),.pointer (some ⟨d.k2,0,none⟩)] V fun e w'=>e=.returned (.int .i64 d.en)∧w'=V):=fun d h f=>held2 d V h f
 have H1:=fun _:Unit=>held1 x V P.hx
 have HH1:Hid _:=H1
 have HHA:Hid _:=hA
 clear H1 hA
 have HR:Hid (roadB x.st x.bs y.st y.bs=(decide (x.st≤y.en)&&(decide (y.en≤x.en)&&alikeB x.st x.bs y.st y.bs))):=rfl
 go_wp2_with fail
 refine(H2.out y P.hy P.fy).mono ?_
 rintro e w1 ⟨rfl,rfl⟩
 go_wp2_with fail
 refine(HH1.out ()).mono ?_
 rintro e w2 ⟨rfl,rfl⟩
 by_cases q1:x.st≤y.en
 case neg=>
  have Q1:Hid (decide (x.st≤y.en)=false):=decide_eq_false q1
  go_wp2_with fail
  go_ret
  exact⟨by rw [HR.out,Q1.out];rfl,b0⟩
 have Q1:Hid (decide (x.st≤y.en)=true):=decide_eq_true q1
 go_wp2_with fail
 refine(H2.out x P.hx P.fx).mono ?_
 rintro e w3 ⟨rfl,rfl⟩
 by_cases q2:y.en≤x.en
 case neg=>
  have Q2:Hid (decide (y.en≤x.en)=false):=decide_eq_false q2
  go_wp2_with fail
  go_ret
  exact⟨by rw [HR.out,Q1.out,Q2.out];rfl,b0⟩
 have Q2:Hid (decide (y.en≤x.en)=true):=decide_eq_true q2
 go_wp2_with fail
 refine(HHA.out ()).mono ?_
 rintro e w4 ⟨rfl,b4⟩
 go_wp2_with fail
 go_ret
 exact⟨by rw [HR.out,Q1.out,Q2.out];simp,b0.trans (b4.mono b0.size)⟩
end Go.Proofs.YtfejobjgbadfjaaGreat.Cou
