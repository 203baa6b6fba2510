/- Contracts of this seat's functions, and their mathematics (HopP). -/
import Derived.Test.YtfejobjgbadfjaaGreatK7
import Derived.Test.YtfejobjgbadfjaaGreatK15
import Derived.Test.YtfejobjgbadfjaaGreatK8
set_option linter.unusedVariables false
set_option linter.unusedSimpArgs false
set_option maxRecDepth 10000
set_option maxHeartbeats 8000000
namespace Go.Proofs.YtfejobjgbadfjaaGreat.Hop
open Go.RowKit RowG
theorem isRoad (n:Int)(w:World):Calls Tryz.prog 114 #[.int .i64 n] w fun e w'=>e=.returned (.bool (decide (0≤n∧n≤3)))∧w=w':=by
 by_cases h0:0≤n
 ·by_cases h1:n≤3
  ·go_enter Tryz.func114,Tryz.ntmps114
   go_wp2_with fail
   go_ret
   exact⟨Num.ret_bool (by simp [h0,h1]),rfl⟩
  ·go_enter Tryz.func114,Tryz.ntmps114
   go_wp2_with fail
   go_ret
   exact⟨Num.ret_bool (by simp [h0,h1]),rfl⟩
 ·go_enter Tryz.func114,Tryz.ntmps114
  go_wp2_with fail
  go_ret
  exact⟨Num.ret_bool (by simp;omega),rfl⟩
theorem shapeBack (x:Lt)(hb:x.bk=true)(w:World):Calls Tryz.prog 113 #[x.v] w fun e w'=>e=.returned (.iface 164 (.agg #[.int .i64 x.pl,.int .i64 x.lm,.bool x.dn]))∧Below w.heap.size w w':=by
 obtain⟨bk,rd,pl,bs,en,lm,dn⟩:=x
 dsimp only at hb
 subst hb
 dsimp only [Lt.v]
 go_enter Tryz.func113,Tryz.ntmps113
 go_wp2_with fail
 go_ret
 exact⟨rfl,(Below.refl _ _).alloc (Nat.le_refl _) _⟩
theorem shapeForth (x:Lt)(hb:x.bk=false)(w:World):Calls Tryz.prog 113 #[x.v] w fun e w'=>e=.returned (.iface 166 (.agg #[.int .i64 x.pl,.string x.bs,.bool x.en]))∧Below w.heap.size w w':=by
 obtain⟨bk,rd,pl,bs,en,lm,dn⟩:=x
 dsimp only at hb
 subst hb
 dsimp only [Lt.v]
 go_enter Tryz.func113,Tryz.ntmps113
 go_wp2_with fail
 go_ret
 exact⟨rfl,(Below.refl _ _).alloc (Nat.le_refl _) _⟩
theorem fitsBack (p l:Int)(d:Bool)(w:World):Calls Tryz.prog 141 #[.agg #[.int .i64 p,.int .i64 l,.bool d]] w fun e w'=>e=.returned (.bool (Num.plB p&&Num.plB l))∧Below w.heap.size w w':=by
 have B0:Below w.heap.size w (w.alloc (.cells #[.int .i64 p,.int .i64 l,.bool d] 164)):=(Below.refl _ _).alloc (Nat.le_refl _) _
 go_enter Tryz.func141,Tryz.ntmps141
 go_wp2_with fail
 refine(Num.isPlace p _).mono ?_
 rintro e w1 ⟨rfl,rfl⟩
 cases hp:Num.plB p
 ·go_wp2_with fail
  go_ret
  exact⟨Num.ret_bool (by simp [hp]),B0⟩
 ·go_wp2_with fail
  refine(Num.isPlace l _).mono ?_
  rintro e w1 ⟨rfl,rfl⟩
  go_wp2_with fail
  go_ret
  exact⟨Num.ret_bool (by simp [hp]),B0⟩
theorem isPartNo (p:Int)(b:ByteArray)(w:World)(hb:b.size≤2097152)(hp:Num.plB p=false):Calls Tryz.prog 119 #[.agg #[.int .i64 p,.string b]] w fun e w'=>e=.returned (.bool false)∧Below w.heap.size w w':=by
 have B0:Below w.heap.size w (w.alloc (.cells #[.int .i64 p,.string b] 123)):=(Below.refl _ _).alloc (Nat.le_refl _) _
 have hse:=Giv.isEmpty_eq b
 by_cases hz:b.size=0
 ·have hnn:b.toList=[]:=(Giv.nil_iff b).2 hz
  rw [decide_eq_true hz]at hse
  go_enter Tryz.func119,Tryz.ntmps119
  go_wp2_with fail
  go_ret
  exact⟨rfl,B0⟩
 have hnn: ¬b.toList=[]:=fun q=>hz ((Giv.nil_iff b).1 q)
 rw [decide_eq_false hz]at hse
 by_cases h4:(b.size:Int)≤40
 ·go_enter Tryz.func119,Tryz.ntmps119
  go_wp2_with fail
  refine(Tak.isPlaceEq hp _).mono ?_
  rintro e w1 ⟨rfl,rfl⟩
  go_wp2_with fail
  go_ret
  exact⟨rfl,B0⟩
 ·go_enter Tryz.func119,Tryz.ntmps119
  go_wp2_with fail
  go_ret
  exact⟨rfl,B0⟩
def partA (p:Int)(b:ByteArray):Bool:=Num.plB p&&Tak.partB (p,b)
theorem isPartA (p:Int)(b:ByteArray)(w:World)(hb:b.size≤2097152):Calls Tryz.prog 119 #[.agg #[.int .i64 p,.string b]] w fun e w'=>e=.returned (.bool (partA p b))∧Below w.heap.size w w':=by
 unfold partA
 cases hp:Num.plB p
 ·exact isPartNo p b w hb hp
 ·have hpl:0≤p∧p≤1000000000:=by simpa [Num.plB]using hp
  exact Tak.isPart p b w (by unfold Tak.bdP;dsimp only;omega)
theorem fitsForth (p:Int)(b:ByteArray)(en:Bool)(w:World)(hb:b.size≤2097152):Calls Tryz.prog 143 #[.agg #[.int .i64 p,.string b,.bool en]] w fun e w'=>e=.returned (.bool (partA p b||(en&&(decide (b.size=0)&&Num.plB p))))∧Below w.heap.size w w':=by
 have v0:Var 166 (w.alloc (.cells #[.int .i64 p,.string b,.bool en] 166)) w.heap.size [.int .i64 p,.string b,.bool en]:=Var.new w _
 have B0:Below w.heap.size w (w.alloc (.cells #[.int .i64 p,.string b,.bool en] 166)):=(Below.refl _ _).alloc (Nat.le_refl _) _
 have hse:=Giv.isEmpty_eq b
 have HSE:Hid _:=hse
 clear hse
 go_enter Tryz.func143,Tryz.ntmps143
 go_upto_region 1 with(fail)
 generalize w.alloc (.cells #[.int .i64 p,.string b,.bool en] 166)=W at *
 have e0:=v0.cell (i:=0) rfl
 have e1:=v0.cell (i:=1) rfl
 have e2:=v0.cell (i:=2) rfl
 go_wp2_with fail
 refine(isPartA p b _ hb).mono ?_
 rintro e w1 ⟨rfl,b1⟩
 replace v0:=v0.later b1
 have B1:=B0.trans (b1.mono B0.size)
 clear e0 e1 e2 b1 B0
 have e0:=v0.cell (i:=0) rfl
 have e1:=v0.cell (i:=1) rfl
 have e2:=v0.cell (i:=2) rfl
 cases hpa:partA p b
 case true=>
  go_wp2_with fail
  go_ret
  exact⟨Num.ret_bool (by rw [hpa];rfl),B1⟩
 cases en
 case false=>
  go_wp2_with fail
  go_ret
  exact⟨Num.ret_bool (by rw [hpa];rfl),B1⟩
 cases hz:decide (b.size=0)
 case false=>
  have hse:b.toList.isEmpty=false:=by rw [HSE.out,hz]
  have hnn: ¬b.toList=[]:=fun q=>of_decide_eq_false hz ((Giv.nil_iff b).1 q)
  go_wp2_with fail
  go_ret
  exact⟨Num.ret_bool (by rw [hpa,hz];rfl),B1⟩
 have hse:b.toList.isEmpty=true:=by rw [HSE.out,hz]
 have hnn:b.toList=[]:=(Giv.nil_iff b).2 (of_decide_eq_true hz)
 go_wp2_with fail
 refine(Num.isPlace p _).mono ?_
 rintro e w2 ⟨rfl,rfl⟩
 go_wp2_with fail
 go_ret
 exact⟨Num.ret_bool (by rw [hpa,hz];simp),B1⟩
theorem res_one' {fn:Func}{p:Tmp}{ty:TypeId}(h:fn.results= #[.cell p ty])(tmps:Array Value)(P:Program)(w:World):
  (results fn tmps).run P w=((asAddr (tmps.getD p undef)).run P w).andThen fun a w₁=>(loadVar ty a).run P w₁:=by
 simp only [results,h]
 simp [Sem.run_bind,Result.andThen]
theorem onForth (p:Int)(b:ByteArray)(en:Bool)(road:Int)(w:World):Calls Tryz.prog 144 #[.agg #[.int .i64 p,.string b,.bool en],.int .i64 road] w fun e w'=>e=.returned (.agg #[.bool false,.int .i64 road,.int .i64 p,.string b,.bool en,.int .i64 0,.bool false])∧Below w.heap.size w w':=by
 go_enter Tryz.func144,Tryz.ntmps144
 go_wp2_with fail
 refine bodyPost_ret (v:=.agg #[.bool false,.int .i64 road,.int .i64 p,.string b,.bool en,.int .i64 0,.bool false]) (by rw [res_one' rfl];go_simp;done) rfl ⟨rfl,?_⟩
 exact((Below.refl _ _).alloc (Nat.le_refl _) _).alloc (by simp) _
theorem onBack (p l:Int)(d:Bool)(road:Int)(w:World):Calls Tryz.prog 142 #[.agg #[.int .i64 p,.int .i64 l,.bool d],.int .i64 road] w fun e w'=>e=.returned (.agg #[.bool true,.int .i64 road,.int .i64 p,.string ⟨#[]⟩,.bool false,.int .i64 l,.bool d])∧Below w.heap.size w w':=by
 go_enter Tryz.func142,Tryz.ntmps142
 go_wp2_with fail
 refine bodyPost_ret (v:=.agg #[.bool true,.int .i64 road,.int .i64 p,.string ⟨#[]⟩,.bool false,.int .i64 l,.bool d]) (by rw [res_one' rfl];go_simp;done) rfl ⟨rfl,?_⟩
 exact((Below.refl _ _).alloc (Nat.le_refl _) _).alloc (by simp) _
theorem mRow {T:TypeId}{nm:String}{F:FuncId}{fs:Array Field}(hr:(Tryz.prog.info? T).map (fun i=>(i.methods.find? (·.name==nm)).map (fun m=>(m.path,m.func)))=some (some (#[],some (F,false))))(hu:Tryz.prog.underlying T=some (.struct fs))(n:Nat)(v:Value)(w:World):(method (n+1) T v nm).run Tryz.prog w=.ok (F,v) w:=by
 cases hi:Tryz.prog.info? T with
 | none=>rw [hi]at hr;simp at hr
 | some i=>
  rw [hi]at hr
  simp only [Option.map_some,Option.some.injEq]at hr
  cases hm:i.methods.find? (·.name==nm)with
  | none=>rw [hm]at hr;simp at hr
  | some m=>
   rw [hm]at hr
   simp only [Option.map_some,Option.some.injEq,Prod.mk.injEq]at hr
   unfold method
   simp [typeInfo,hi,hm,hr.1,hr.2,follow,receiverAt,run_underlying hu,Place.get]
theorem mFitsB (v : Value) (w : World) : (method 285 164 v "loop.example/g00450/impl.fits").run Tryz.prog w = .ok (141, v) w := mRow (by kernel_rfl) Tryz.underlying164 _ v w
theorem mFitsF (v : Value) (w : World) : (method 285 166 v "loop.example/g00450/impl.fits").run Tryz.prog w = .ok (143, v) w := mRow (by kernel_rfl) Tryz.underlying166 _ v w
theorem mOnB (v : Value) (w : World) : (method 285 164 v "loop.example/g00450/impl.on").run Tryz.prog w = .ok (142, v) w := mRow (by kernel_rfl) Tryz.underlying164 _ v w
theorem mOnF (v : Value) (w : World) : (method 285 166 v "loop.example/g00450/impl.on").run Tryz.prog w = .ok (144, v) w := mRow (by kernel_rfl) Tryz.underlying166 _ v w
theorem letB_back {rd pl lm:Int}{bs:ByteArray}{en dn:Bool}:letB ⟨true,rd,pl,bs,en,lm,dn⟩=(decide (0≤rd∧rd≤3)&&((Num.plB pl&&Num.plB lm)&&(decide (bs.size=0)&& !en))):=by
 unfold letB
 dsimp only
 cases decide (0≤rd∧rd≤3) <;>cases Num.plB pl <;>cases Num.plB lm <;>cases decide (bs.size=0) <;>cases en <;>rfl
theorem letB_forth {rd pl lm:Int}{bs:ByteArray}{en dn:Bool}:letB ⟨false,rd,pl,bs,en,lm,dn⟩=(decide (0≤rd∧rd≤3)&&((partA pl bs||(en&&(decide (bs.size=0)&&Num.plB pl)))&&(decide (lm=0)&& !dn))):=by
 unfold letB partA Tak.partB
 dsimp only
 rw [Giv.isEmpty_eq]
 by_cases hz:bs.size=0
 ·have h1:decide (bs.size≤40)=true:=decide_eq_true (by omega)
  have h2:pl+(bs.size:Int)=pl:=by omega
  rw [h1,h2,decide_eq_true hz]
  cases decide (0≤rd∧rd≤3) <;>cases Num.plB pl <;>cases decide (lm=0) <;>cases en <;>cases dn <;>rfl
 ·rw [decide_eq_false hz]
  have h3:Tak.endP (pl,bs)=pl+bs.size:=rfl
  rw [h3]
  cases decide (0≤rd∧rd≤3) <;>cases Num.plB pl <;>cases decide (lm=0) <;>cases en <;>cases dn <;>cases decide (bs.size≤40) <;>cases Num.plB (pl+bs.size) <;>rfl
theorem isLetter (x:Lt)(w:World)(hs:x.bs.size≤2097152):Calls Tryz.prog 103 #[x.v] w fun e w'=>e=.returned (.bool (letB x))∧Below w.heap.size w w':=by
 have hmix:=mix
 obtain⟨bk,rd,pl,bs,en,lm,dn⟩:=x
 dsimp only [Lt.v]at *
 have v0:Var 75 (w.alloc (.cells #[.bool bk,.int .i64 rd,.int .i64 pl,.string bs,.bool en,.int .i64 lm,.bool dn] 75)) w.heap.size [.bool bk,.int .i64 rd,.int .i64 pl,.string bs,.bool en,.int .i64 lm,.bool dn]:=Var.new w _
 have B0:Below w.heap.size w (w.alloc (.cells #[.bool bk,.int .i64 rd,.int .i64 pl,.string bs,.bool en,.int .i64 lm,.bool dn] 75)):=(Below.refl _ _).alloc (Nat.le_refl _) _
 cases bk
 case true=>
  have hSh:=fun w'=>shapeBack ⟨true,rd,pl,bs,en,lm,dn⟩ rfl w'
  dsimp only [Lt.v]at hSh
  have HLB:Hid _:=letB_back (rd:=rd) (pl:=pl) (lm:=lm) (bs:=bs) (en:=en) (dn:=dn)
  generalize letB ⟨true,rd,pl,bs,en,lm,dn⟩=R at *
  go_enter Tryz.func103,Tryz.ntmps103
  go_upto_region 1 with(fail)
  generalize w.alloc (.cells #[.bool true,.int .i64 rd,.int .i64 pl,.string bs,.bool en,.int .i64 lm,.bool dn] 75)=W at *
  obtain⟨e0,e1,e2,e3,e4,e5,e6⟩:=v0.c7
  go_wp2_with fail
  refine(hSh _).mono ?_
  rintro e w1 ⟨rfl,b1⟩
  replace v0:=v0.later b1
  have B1:=B0.trans (b1.mono B0.size)
  clear B0 b1 hSh e0 e1 e2 e3 e4 e5 e6
  have hJ1:=mFitsB
  have hJ2:=mOnB
  have hRo:=fun w'=>isRoad rd w'
  have hFi:=fun w'=>fitsBack pl lm dn w'
  have hOn:=fun w'=>onBack pl lm dn rd w'
  go_upto_region 2 with(fail)
  have l0:=Draw.Later.cell (v0.cell (i:=0) rfl)
  have l1:=Draw.Later.cell (v0.cell (i:=1) rfl)
  have l2:=Draw.Later.cell (v0.cell (i:=2) rfl)
  have l3:=Draw.Later.cell (v0.cell (i:=3) rfl)
  have l4:=Draw.Later.cell (v0.cell (i:=4) rfl)
  have l5:=Draw.Later.cell (v0.cell (i:=5) rfl)
  have l6:=Draw.Later.cell (v0.cell (i:=6) rfl)
  clear v0
  cases hr:decide (0≤rd∧rd≤3)
  case false=>
   rw [hr]at hRo
   refine Draw.wp_region_later hmix (by kernel_rfl) ?_
   repeat (go_big_quiet_step (first|(go_at_call 114;exact Draw.later_same (hRo _))|(go_at_call 141;exact Draw.later_of (hFi _))|(go_at_call 142;exact Draw.later_of (hOn _))))
   refine wpQuiet_nil ?_
   intro _ hw'
   obtain⟨⟨wq,hBq⟩,hw''⟩:=hw'
   subst hw''
   go_wp2_with fail
   go_ret
   exact⟨Num.ret_bool (by rw [HLB.out];rw [hr];rfl),B1.trans (hBq.mono B1.size)⟩
  rw [hr]at hRo
  cases hf:(Num.plB pl&&Num.plB lm)
  case false=>
   rw [hf]at hFi
   refine Draw.wp_region_later hmix (by kernel_rfl) ?_
   repeat (go_big_quiet_step (first|(go_at_call 114;exact Draw.later_same (hRo _))|(go_at_call 141;exact Draw.later_of (hFi _))|(go_at_call 142;exact Draw.later_of (hOn _))))
   refine wpQuiet_nil ?_
   intro _ hw'
   obtain⟨⟨wq,hBq⟩,hw''⟩:=hw'
   subst hw''
   go_wp2_with fail
   go_ret
   exact⟨Num.ret_bool (by rw [HLB.out];rw [hr,hf];rfl),B1.trans (hBq.mono B1.size)⟩
  rw [hf]at hFi
  cases hz:decide (bs.size=0)
  case false=>
   have hse:bs.toList.isEmpty=false:=by rw [Giv.isEmpty_eq,hz]
   have hnn: ¬bs.toList=[]:=fun q=>of_decide_eq_false hz ((Giv.nil_iff bs).1 q)
   have hnm: ¬ []=bs.toList:=fun q=>hnn q.symm
   refine Draw.wp_region_later hmix (by kernel_rfl) ?_
   repeat (go_big_quiet_step (first|(go_at_call 114;exact Draw.later_same (hRo _))|(go_at_call 141;exact Draw.later_of (hFi _))|(go_at_call 142;exact Draw.later_of (hOn _))))
   refine wpQuiet_nil ?_
   intro _ hw'
   obtain⟨⟨wq,hBq⟩,hw''⟩:=hw'
   subst hw''
   go_wp2_with fail
   go_ret
   exact⟨Num.ret_bool (by rw [HLB.out];rw [hr,hf,hz];rfl),B1.trans (hBq.mono B1.size)⟩
  have hse:bs.toList.isEmpty=true:=by rw [Giv.isEmpty_eq,hz]
  have hnn:bs.toList=[]:=(Giv.nil_iff bs).2 (of_decide_eq_true hz)
  cases en
  focus
   refine Draw.wp_region_later hmix (by kernel_rfl) ?_
   repeat (go_big_quiet_step (first|(go_at_call 114;exact Draw.later_same (hRo _))|(go_at_call 141;exact Draw.later_of (hFi _))|(go_at_call 142;exact Draw.later_of (hOn _))))
   refine wpQuiet_nil ?_
   intro _ hw'
   obtain⟨⟨wq,hBq⟩,hw''⟩:=hw'
   subst hw''
   go_wp2_with fail
   go_ret
   exact⟨Num.ret_bool (by rw [HLB.out];rw [hr,hf,hz];rfl),B1.trans (hBq.mono B1.size)⟩
  focus
   refine Draw.wp_region_later hmix (by kernel_rfl) ?_
   repeat (go_big_quiet_step (first|(go_at_call 114;exact Draw.later_same (hRo _))|(go_at_call 141;exact Draw.later_of (hFi _))|(go_at_call 142;exact Draw.later_of (hOn _))))
   refine wpQuiet_nil ?_
   intro _ hw'
   obtain⟨⟨wq,hBq⟩,hw''⟩:=hw'
   subst hw''
   go_wp2_with fail
   go_ret
   exact⟨Num.ret_bool (by rw [HLB.out];rw [hr,hf,hz];rfl),B1.trans (hBq.mono B1.size)⟩
 case false=>
  have hSh:=fun w'=>shapeForth ⟨false,rd,pl,bs,en,lm,dn⟩ rfl w'
  dsimp only [Lt.v]at hSh
  have HLB:Hid _:=letB_forth (rd:=rd) (pl:=pl) (lm:=lm) (bs:=bs) (en:=en) (dn:=dn)
  generalize letB ⟨false,rd,pl,bs,en,lm,dn⟩=R at *
  go_enter Tryz.func103,Tryz.ntmps103
  go_upto_region 1 with(fail)
  generalize w.alloc (.cells #[.bool false,.int .i64 rd,.int .i64 pl,.string bs,.bool en,.int .i64 lm,.bool dn] 75)=W at *
  obtain⟨e0,e1,e2,e3,e4,e5,e6⟩:=v0.c7
  go_wp2_with fail
  refine(hSh _).mono ?_
  rintro e w1 ⟨rfl,b1⟩
  replace v0:=v0.later b1
  have B1:=B0.trans (b1.mono B0.size)
  clear B0 b1 hSh e0 e1 e2 e3 e4 e5 e6
  have hJ1:=mFitsF
  have hJ2:=mOnF
  have hRo:=fun w'=>isRoad rd w'
  have hFi:=fun w'=>fitsForth pl bs en w' hs
  have hOn:=fun w'=>onForth pl bs en rd w'
  go_upto_region 2 with(fail)
  have l0:=Draw.Later.cell (v0.cell (i:=0) rfl)
  have l1:=Draw.Later.cell (v0.cell (i:=1) rfl)
  have l2:=Draw.Later.cell (v0.cell (i:=2) rfl)
  have l3:=Draw.Later.cell (v0.cell (i:=3) rfl)
  have l4:=Draw.Later.cell (v0.cell (i:=4) rfl)
  have l5:=Draw.Later.cell (v0.cell (i:=5) rfl)
  have l6:=Draw.Later.cell (v0.cell (i:=6) rfl)
  clear v0
  cases hr:decide (0≤rd∧rd≤3)
  case false=>
   rw [hr]at hRo
   refine Draw.wp_region_later hmix (by kernel_rfl) ?_
   repeat (go_big_quiet_step (first|(go_at_call 114;exact Draw.later_same (hRo _))|(go_at_call 143;exact Draw.later_of (hFi _))|(go_at_call 144;exact Draw.later_of (hOn _))))
   refine wpQuiet_nil ?_
   intro _ hw'
   obtain⟨⟨wq,hBq⟩,hw''⟩:=hw'
   subst hw''
   go_wp2_with fail
   go_ret
   exact⟨Num.ret_bool (by rw [HLB.out];rw [hr];rfl),B1.trans (hBq.mono B1.size)⟩
  rw [hr]at hRo
  cases hf:(partA pl bs||(en&&(decide (bs.size=0)&&Num.plB pl)))
  case false=>
   rw [hf]at hFi
   refine Draw.wp_region_later hmix (by kernel_rfl) ?_
   repeat (go_big_quiet_step (first|(go_at_call 114;exact Draw.later_same (hRo _))|(go_at_call 143;exact Draw.later_of (hFi _))|(go_at_call 144;exact Draw.later_of (hOn _))))
   refine wpQuiet_nil ?_
   intro _ hw'
   obtain⟨⟨wq,hBq⟩,hw''⟩:=hw'
   subst hw''
   go_wp2_with fail
   go_ret
   exact⟨Num.ret_bool (by rw [HLB.out];rw [hr,hf];rfl),B1.trans (hBq.mono B1.size)⟩
  rw [hf]at hFi
  cases hz:decide (lm=0)
  case false=>
   have hzn: ¬lm=0:=of_decide_eq_false hz
   have hzm: ¬0=lm:=fun q=>hzn q.symm
   refine Draw.wp_region_later hmix (by kernel_rfl) ?_
   repeat (go_big_quiet_step (first|(go_at_call 114;exact Draw.later_same (hRo _))|(go_at_call 143;exact Draw.later_of (hFi _))|(go_at_call 144;exact Draw.later_of (hOn _))))
   refine wpQuiet_nil ?_
   intro _ hw'
   obtain⟨⟨wq,hBq⟩,hw''⟩:=hw'
   subst hw''
   go_wp2_with fail
   go_ret
   exact⟨Num.ret_bool (by rw [HLB.out];rw [hr,hf,hz];rfl),B1.trans (hBq.mono B1.size)⟩
  have hzn:lm=0:=of_decide_eq_true hz
  subst hzn
  cases dn
  focus
   refine Draw.wp_region_later hmix (by kernel_rfl) ?_
   repeat (go_big_quiet_step (first|(go_at_call 114;exact Draw.later_same (hRo _))|(go_at_call 143;exact Draw.later_of (hFi _))|(go_at_call 144;exact Draw.later_of (hOn _))))
   refine wpQuiet_nil ?_
   intro _ hw'
   obtain⟨⟨wq,hBq⟩,hw''⟩:=hw'
   subst hw''
   go_wp2_with fail
   go_ret
   exact⟨Num.ret_bool (by rw [HLB.out];rw [hr,hf,hz];rfl),B1.trans (hBq.mono B1.size)⟩
  focus
   refine Draw.wp_region_later hmix (by kernel_rfl) ?_
   repeat (go_big_quiet_step (first|(go_at_call 114;exact Draw.later_same (hRo _))|(go_at_call 143;exact Draw.later_of (hFi _))|(go_at_call 144;exact Draw.later_of (hOn _))))
   refine wpQuiet_nil ?_
   intro _ hw'
   obtain⟨⟨wq,hBq⟩,hw''⟩:=hw'
   subst hw''
   go_wp2_with fail
   go_ret
   exact⟨Num.ret_bool (by rw [HLB.out];rw [hr,hf,hz];rfl),B1.trans (hBq.mono B1.size)⟩
end Go.Proofs.YtfejobjgbadfjaaGreat.Hop
