/- For every code of bytes FnUnderWay returns true: the program's UnderWay, EndsOf and StartsOf answer as the specification's at what is drawn; and of a new world, whatever is played, no more is under way than there is room for, each end is no further than the one ahead, each start no further than its end, the first end is all that was written and the last start all that was read; no condition. (Its frame is the guide's shell; the walk is mine.) -/
import Derived.Test.YtfmcahjdhoabcaaGreatRows
import Derived.Test.YtfmcahjdhoabcaaGreatU54
import Derived.Test.YtfmcahjdhoabcaaGreatU55
import Derived.Test.YtfmcahjdhoabcaaGreatU53
import Derived.Deep.CutRange
import Derived.WalkKit
import Derived.ProofKit
import Derived.OpenShut
import Derived.ShutString
import Derived.ChangeOld
import Derived.Below
namespace Go.Proofs.YtfmcahjdhoabcaaGreat.fnUnderWay
open Go.ChangeShapes Go.WideShapes Go.ChangeAt Go.RowKit
open Go.ChangeMaps (open_string shut_string)
set_option linter.unusedVariables false

theorem own:ownKnob Tryz.prog.godebug=none:=by kernel_rfl
theorem laidOut:laidOutB Tryz.prog=true:=by kernel_rfl

def IsRow (k:IntKind)(w:World)(a:Option Addr)(len cap:Nat)(zs:List Int):Prop:=
 (a=none∧len=0∧cap=0∧zs=[])∨
 ∃x,a=some x∧len≤cap∧cap≤maxLen∧zs.length=cap∧(∀i,i<zs.length→w.cell? (x.add i)=some (.int k (zs.getD i 0)))∧ ∀n∈zs,(Lit.int k n).wf=true

/-! ### STEP 1: THE WALK: the Go text returns true, AND WRITES NOTHING THAT WAS THERE: 'Below w.heap.size w w'' (Derived/Below.lean: '.refl', '.alloc', '.drew', '.setCell' at a new block, '.trans'). Open each 'IsRow' by 'rcases' AHEAD of 'go_enter'; part every test ahead of the walk. -/
set_option linter.unusedSimpArgs false in
set_option maxRecDepth 20000 in
set_option maxHeartbeats 40000000 in
theorem walk (a0:Option Addr)(len0 cap0:Nat)(z0:List Int)(w:World)(w0:IsRow .u8 w a0 len0 cap0 z0):
  Calls Tryz.prog 3 #[.slice a0 len0 cap0] w fun e w'=>e=.returned (.bool true)∧Below w.heap.size w w':=by
 obtain⟨hb,hm⟩:=Draw.bytes_of_row w0
 clear w0
 by_cases hl:len0≤4096
 case neg=>
  have hd:decide (4096<(len0:Int))=true:=by simp;omega
  go_enter Tryz.func3,Tryz.ntmps3
  go_wp2_with fail
  refine(Draw.big _ _ _ _ hm).mono ?_
  rintro e w1 ⟨rfl,rfl⟩
  go_wp2_with fail
  go_ret
  exact⟨rfl,Below.refl _ _⟩
 have hd:decide (4096<(len0:Int))=false:=by simp;omega
 have hmix:=Roa.mix
 go_enter Tryz.func3,Tryz.ntmps3
 go_wp2_with fail
 refine(Draw.big _ _ _ _ hm).mono ?_
 rintro e w1 ⟨rfl,rfl⟩
 clear hd
 go_wp2_with fail
 refine(Wor.drawUnderWay _ _ _ _ hb hl).mono ?_
 rintro e w1 ⟨qH,qR,cqH,cqR,qs,qr,qt,rfl,D,hz,B1⟩
 have v3:RowG.Var 31 (w1.alloc (.cells (Wor.A7 qH qs.length cqH qR qr.length cqR qt).toArray 31)) w1.heap.size (Wor.A7 qH qs.length cqH qR qr.length cqR qt):=RowG.Var.new w1 _
 have b1:=(Below.refl w1.heap.size w1).alloc (Nat.le_refl _) (.cells (Wor.A7 qH qs.length cqH qR qr.length cqR qt).toArray 31)
 replace D:=D.later b1
 replace B1:=B1.trans (b1.mono B1.size)
 clear b1
 have hb1:=Draw.Bytes.below hb B1 (Nat.le_refl _)
 go_upto_region 4 with(fail)
 generalize w1.alloc (.cells _ 31)=V1 at *
 generalize w1.heap.size=k3 at *
 go_wp2_with fail
 refine(Wor.drawEndsOf _ _ _ _ hb1 hl).mono ?_
 rintro e w2 ⟨fH,fR,cfH,cfR,fs,fr,rfl,Df,b2⟩
 have vf:RowG.Var 27 (w2.alloc (.cells #[.slice fH fs.length cfH,.slice fR fr.length cfR] 27)) w2.heap.size [.slice fH fs.length cfH,.slice fR fr.length cfR]:=RowG.Var.new w2 _
 replace b2:=b2.alloc b2.size (.cells #[.slice fH fs.length cfH,.slice fR fr.length cfR] 27)
 replace Df:=Df.later ((Below.refl w2.heap.size w2).alloc (Nat.le_refl _) (.cells #[.slice fH fs.length cfH,.slice fR fr.length cfR] 27))
 replace D:=D.later b2
 replace v3:=v3.later b2
 replace B1:=B1.trans (b2.mono B1.size)
 replace hb1:=Draw.Bytes.below hb1 b2 (Nat.le_refl _)
 clear b2
 go_upto_region 5 with(fail)
 generalize w2.alloc (.cells #[.slice fH fs.length cfH,.slice fR fr.length cfR] 27)=V4 at *
 generalize w2.heap.size=k4 at *
 go_wp2_with fail
 refine(Wor.drawStartsOf _ _ _ _ hb1 hl).mono ?_
 rintro e w3 ⟨bH,bR,cbH,cbR,bs,br,rfl,Db,b2⟩
 have vb:RowG.Var 27 (w3.alloc (.cells #[.slice bH bs.length cbH,.slice bR br.length cbR] 27)) w3.heap.size [.slice bH bs.length cbH,.slice bR br.length cbR]:=RowG.Var.new w3 _
 replace b2:=b2.alloc b2.size (.cells #[.slice bH bs.length cbH,.slice bR br.length cbR] 27)
 replace Db:=Db.later ((Below.refl w3.heap.size w3).alloc (Nat.le_refl _) (.cells #[.slice bH bs.length cbH,.slice bR br.length cbR] 27))
 replace D:=D.later b2
 replace v3:=v3.later b2
 replace Df:=Df.later b2
 replace vf:=vf.later b2
 replace B1:=B1.trans (b2.mono B1.size)
 replace hb1:=Draw.Bytes.below hb1 b2 (Nat.le_refl _)
 clear b2
 go_upto_region 6 with(fail)
 generalize w3.alloc (.cells #[.slice bH bs.length cbH,.slice bR br.length cbR] 27)=V5 at *
 generalize w3.heap.size=k5 at *
 have S0:Cou.UW V5 k3 k4 k5 (Wor.A7 qH qs.length cqH qR qr.length cqR qt) [.slice fH fs.length cfH,.slice fR fr.length cfR] [.slice bH bs.length cbH,.slice bR br.length cbR] V5:=⟨v3,vf,vb,Below.refl _ _⟩
 have hB1:=B1.size
 have HU1:Hid (∀w',Below V5.heap.size V5 w'→Calls Tryz.prog 9 #[.agg (Wor.A7 qH qs.length cqH qR qr.length cqR qt).toArray] w' fun x w''=>x=.returned (.int .i64 (Wor.unW (qs.map (·.h)) qr qt))∧Below w'.heap.size w' w''):=fun w' b=>Wor.implUnderWay qH qR qs.length qr.length cqH cqR qs qr qt w' rfl rfl (D.later b).L (D.later b).R (by have:=D.nx;omega) (by have:=D.nr;omega) D.sm (by omega)
 have HU2:Hid (∀w',Below V5.heap.size V5 w'→Calls Tryz.prog 10 #[.agg (Wor.A7 qH qs.length cqH qR qr.length cqR qt).toArray] w' fun x w''=>x=.returned (.int .i64 (Wor.unW (qs.map (·.h)) qr qt))∧Below w'.heap.size w' w''):=fun w' b=>Wor.specUnderWay qH qR qs.length qr.length cqH cqR qs qr qt w' rfl rfl (D.later b).L (D.later b).R (by have:=D.nx;omega) (by have:=D.nr;omega) D.sm (by omega)
 have HE1:Hid (∀w',Below V5.heap.size V5 w'→Calls Tryz.prog 12 #[.agg #[.slice fH fs.length cfH,.slice fR fr.length cfR]] w' fun x w''=>(∃a c,x=.returned (.slice a (Cou.endsL (fs.map (·.h)) fr).length c)∧Roa.EI.Lies w'' a (Cou.endsL (fs.map (·.h)) fr))∧Below w'.heap.size w' w''):=fun w' b=>(Cou.implEndsOf fH fR fs.length fr.length cfH cfR fs fr w' rfl rfl (Df.later b).L (Df.later b).R (by have:=Df.nr;omega) Df.sm).mono (by
  rintro x w'' ⟨a,c,rfl,o,bb⟩
  exact⟨⟨_,c,rfl,o.lies⟩,bb⟩)
 have HE2:Hid (∀w',Below V5.heap.size V5 w'→Calls Tryz.prog 13 #[.agg #[.slice fH fs.length cfH,.slice fR fr.length cfR]] w' fun x w''=>(∃a c,x=.returned (.slice a (Cou.endsL (fs.map (·.h)) fr).length c)∧Roa.EI.Lies w'' a (Cou.endsL (fs.map (·.h)) fr))∧Below w'.heap.size w' w''):=fun w' b=>(Cou.specEndsOf fH fR fs.length fr.length cfH cfR fs fr w' rfl rfl (Df.later b).L (Df.later b).R (by have:=Df.nx;omega) (by have:=Df.nr;omega) Df.sm).mono (by
  rintro x w'' ⟨a,c,rfl,o,bb⟩
  exact⟨⟨_,c,rfl,o.lies⟩,bb⟩)
 have HS1:Hid (∀w',Below V5.heap.size V5 w'→Calls Tryz.prog 14 #[.agg #[.slice bH bs.length cbH,.slice bR br.length cbR]] w' fun x w''=>(∃a c,x=.returned (.slice a (Cou.startsL (bs.map (·.h)) br).length c)∧Roa.EI.Lies w'' a (Cou.startsL (bs.map (·.h)) br))∧Below w'.heap.size w' w''):=fun w' b=>(Cou.implStartsOf bH bR bs.length br.length cbH cbR bs br w' rfl rfl (Db.later b).L (Db.later b).R (by have:=Db.nr;omega) Db.sm).mono (by
  rintro x w'' ⟨a,c,rfl,o,bb⟩
  exact⟨⟨_,c,rfl,o.lies⟩,bb⟩)
 have HS2:Hid (∀w',Below V5.heap.size V5 w'→Calls Tryz.prog 15 #[.agg #[.slice bH bs.length cbH,.slice bR br.length cbR]] w' fun x w''=>(∃a c,x=.returned (.slice a (Cou.startsL (bs.map (·.h)) br).length c)∧Roa.EI.Lies w'' a (Cou.startsL (bs.map (·.h)) br))∧Below w'.heap.size w' w''):=fun w' b=>(Cou.specStartsOf bH bR bs.length br.length cbH cbR bs br w' rfl rfl (Db.later b).L (Db.later b).R (by have:=Db.nx;omega) (by have:=Db.nr;omega) Db.sm).mono (by
  rintro x w'' ⟨a,c,rfl,o,bb⟩
  exact⟨⟨_,c,rfl,o.lies⟩,bb⟩)
 have HLN:Hid (∀(a a':Option Addr) (c c':Nat) (l:List Int) (w':World),Roa.EI.Lies w' a l→Roa.EI.Lies w' a' l→l.length≤100→Calls Tryz.prog 11 #[.slice a l.length c,.slice a' l.length c'] w' fun x w''=>x=.returned (.bool true)∧Below w'.heap.size w' w''):=fun a a' c c' l w' h h' hl=>Cou.likeInts a a' c c' _ _ l w' rfl rfl h h' (by omega)
 have HNE:Hid ((Cou.endsL (fs.map (·.h)) fr).length≤100):=Cou.ends_len _ _
 have HNS:Hid ((Cou.startsL (bs.map (·.h)) br).length≤100):=Cou.starts_len _ _
 clear D Df Db v3 vf vb
 generalize (Wor.unW (qs.map (·.h)) qr qt)=u at *
 generalize (Cou.endsL (fs.map (·.h)) fr)=EL at *
 generalize (Cou.startsL (bs.map (·.h)) br)=SL at *
 have hst: ∀q∈([(7,7,(fun v w'=> ∃a c,v=Value.slice a EL.length c∧Roa.EI.Lies w' a EL)),(9,9,(fun v w'=> ∃a c,v=Value.slice a EL.length c∧Roa.EI.Lies w' a EL)),(15,15,(fun v w'=> ∃a c,v=Value.slice a SL.length c∧Roa.EI.Lies w' a SL)),(17,17,(fun v w'=> ∃a c,v=Value.slice a SL.length c∧Roa.EI.Lies w' a SL))]:List RegJ.Tie),∀v (w1 w2:World),Below w1.heap.size w1 w2→q.2.2 v w1→q.2.2 v w2:=by
  intro q hq v wa wb ba h
  simp only [List.mem_cons,List.not_mem_nil,or_false]at hq
  rcases hq with rfl|rfl|rfl|rfl <;>(obtain⟨a,c,h1,h2⟩:=h;exact⟨a,c,h1,h2.later ba⟩)
 have keepW: ∀(q:Nat) (d:Nat→Bool) (w':World),(fun(d:Nat→Bool) (w':World)=>Cou.UW V5 k3 k4 k5 (Wor.A7 qH qs.length cqH qR qr.length cqR qt) [.slice fH fs.length cfH,.slice fR fr.length cfR] [.slice bH bs.length cbH,.slice bR br.length cbR] w') d w'→q≠100→(fun(d:Nat→Bool) (w':World)=>Cou.UW V5 k3 k4 k5 (Wor.A7 qH qs.length cqH qR qr.length cqR qt) [.slice fH fs.length cfH,.slice fR fr.length cfR] [.slice bH bs.length cbH,.slice bR br.length cbR] w') (fun j=>j==q||d j) w':=fun q d w' h _=>h
 refine RegJ.wp_region_J (W:=(fun(d:Nat→Bool) (w':World)=>Cou.UW V5 k3 k4 k5 (Wor.A7 qH qs.length cqH qR qr.length cqR qt) [.slice fH fs.length cfH,.slice fR fr.length cfR] [.slice bH bs.length cbH,.slice bR br.length cbR] w')) (RegJ.ValE [some (.agg (Wor.A7 qH qs.length cqH qR qr.length cqR qt).toArray),some (.int .i64 u),some (.agg (Wor.A7 qH qs.length cqH qR qr.length cqR qt).toArray),some (.int .i64 u),some (.bool false),some (.bool false),some (.agg #[.slice fH fs.length cfH,.slice fR fr.length cfR]),none,some (.agg #[.slice fH fs.length cfH,.slice fR fr.length cfR]),none,some (.bool true),some (.bool false),some (.bool false),some (.bool false),some (.agg #[.slice bH bs.length cbH,.slice bR br.length cbR]),none,some (.agg #[.slice bH bs.length cbH,.slice bR br.length cbR]),none,some (.bool true),some (.bool false),some (.bool false)] ([(7,7,(fun v w'=> ∃a c,v=Value.slice a EL.length c∧Roa.EI.Lies w' a EL)),(9,9,(fun v w'=> ∃a c,v=Value.slice a EL.length c∧Roa.EI.Lies w' a EL)),(15,15,(fun v w'=> ∃a c,v=Value.slice a SL.length c∧Roa.EI.Lies w' a SL)),(17,17,(fun v w'=> ∃a c,v=Value.slice a SL.length c∧Roa.EI.Lies w' a SL))])) [some 22,some 23,some 24,some 25,some 26,some 27,some 28,some 29,some 30,some 31,some 32,some 33,some 34,some 35,some 36,some 37,some 38,some 39,some 40,some 41,some 42] (F:=?_) (is:=[0,1,2,3,4,5,6,7,8,9,10,11,12,13,14,15,16,17,18,19,20]) hmix (by kernel_rfl) (by kernel_rfl) (by kernel_rfl) (by kernel_rfl) (fun x=>?_) (S0.drew) ?_ (fun dR xR wR hWR hdR hJR=>?_)
 rotate_left 1
 focus (simp only [RegJ.lay,Act.put,Nat.reduceAdd,Nat.zero_add,Draw.lays];rfl)
 focus
  iterate 21 (refine RegJ.Steps.cons (RegJ.StepAt.mk rfl (fun d x w1 hW1 hJ1 hx1 K hK=>?_)) ?_;simp only [Draw.lays]at hK;rotate_left 1)
  exact RegJ.Steps.nil
  ·have e0:=hW1.q.cell (i:=0) rfl;have e1:=hW1.q.cell (i:=1) rfl;have e2:=hW1.q.cell (i:=2) rfl;have e3:=hW1.q.cell (i:=3) rfl;have e4:=hW1.q.cell (i:=4) rfl;have e5:=hW1.q.cell (i:=5) rfl;have e6:=hW1.q.cell (i:=6) rfl;go_simp;exact hK.out _ _ (keepW 0 d _ hW1 (by decide)) RegJ.ValE.same (RegJ.ValE.free (Or.inl rfl) rfl)
  ·have j0:x 0=_:=(hJ1.out 0 (by kernel_rfl)).val rfl;rw [j0]at hK;go_simp;refine(HU1.out _ hW1.b).mono ?_;rintro e wa ⟨rfl,ba⟩;go_simp;exact hK.out _ _ (hW1.later ba) (RegJ.ValE.keep (fun q hq=>.inr (.inr (fun v h=>hst q hq v _ _ ba h)))) (RegJ.ValE.free (Or.inl rfl) rfl)
  ·have e0:=hW1.q.cell (i:=0) rfl;have e1:=hW1.q.cell (i:=1) rfl;have e2:=hW1.q.cell (i:=2) rfl;have e3:=hW1.q.cell (i:=3) rfl;have e4:=hW1.q.cell (i:=4) rfl;have e5:=hW1.q.cell (i:=5) rfl;have e6:=hW1.q.cell (i:=6) rfl;go_simp;exact hK.out _ _ (keepW 2 d _ hW1 (by decide)) RegJ.ValE.same (RegJ.ValE.free (Or.inl rfl) rfl)
  ·have j2:x 2=_:=(hJ1.out 2 (by kernel_rfl)).val rfl;rw [j2]at hK;go_simp;refine(HU2.out _ hW1.b).mono ?_;rintro e wa ⟨rfl,ba⟩;go_simp;exact hK.out _ _ (hW1.later ba) (RegJ.ValE.keep (fun q hq=>.inr (.inr (fun v h=>hst q hq v _ _ ba h)))) (RegJ.ValE.free (Or.inl rfl) rfl)
  ·have j1:x 1=_:=(hJ1.out 1 (by kernel_rfl)).val rfl;rw [j1]at hK;have j3:x 3=_:=(hJ1.out 3 (by kernel_rfl)).val rfl;rw [j3]at hK;go_simp;exact hK.out _ _ (keepW 4 d _ hW1 (by decide)) RegJ.ValE.same (RegJ.ValE.free (Or.inl rfl) rfl)
  ·have j4:x 4=_:=(hJ1.out 4 (by kernel_rfl)).val rfl;rw [j4]at hK;go_simp;exact hK.out _ _ (keepW 5 d _ hW1 (by decide)) RegJ.ValE.same (RegJ.ValE.free (Or.inl rfl) rfl)
  ·have j5:x 5=_:=(hJ1.out 5 (by kernel_rfl)).val rfl;rw [j5]at hK;have e0:=hW1.a.cell (i:=0) rfl;have e1:=hW1.a.cell (i:=1) rfl;go_simp;exact hK.out _ _ (keepW 6 d _ hW1 (by decide)) RegJ.ValE.same (RegJ.ValE.free (Or.inl rfl) rfl)
  ·have j5:x 5=_:=(hJ1.out 5 (by kernel_rfl)).val rfl;rw [j5]at hK;have j6:x 6=_:=(hJ1.out 6 (by kernel_rfl)).val rfl;rw [j6]at hK;go_simp;refine(HE1.out _ hW1.b).mono ?_;rintro e wa ⟨⟨a,c,rfl,oA⟩,ba⟩;go_simp;exact hK.out _ _ (hW1.later ba) (RegJ.ValE.keep (fun q hq=>.inr (.inr (fun v h=>hst q hq v _ _ ba h)))) (RegJ.ValE.got 0 _ _ (Or.inr rfl) rfl rfl ⟨a,c,rfl,oA⟩)
  ·have j5:x 5=_:=(hJ1.out 5 (by kernel_rfl)).val rfl;rw [j5]at hK;have e0:=hW1.a.cell (i:=0) rfl;have e1:=hW1.a.cell (i:=1) rfl;go_simp;exact hK.out _ _ (keepW 8 d _ hW1 (by decide)) RegJ.ValE.same (RegJ.ValE.free (Or.inl rfl) rfl)
  ·have j5:x 5=_:=(hJ1.out 5 (by kernel_rfl)).val rfl;rw [j5]at hK;have j8:x 8=_:=(hJ1.out 8 (by kernel_rfl)).val rfl;rw [j8]at hK;go_simp;refine(HE2.out _ hW1.b).mono ?_;rintro e wa ⟨⟨a,c,rfl,oA⟩,ba⟩;go_simp;exact hK.out _ _ (hW1.later ba) (RegJ.ValE.keep (fun q hq=>.inr (.inr (fun v h=>hst q hq v _ _ ba h)))) (RegJ.ValE.got 1 _ _ (Or.inr rfl) rfl rfl ⟨a,c,rfl,oA⟩)
  ·have j5:x 5=_:=(hJ1.out 5 (by kernel_rfl)).val rfl;rw [j5]at hK;obtain⟨a,c,j7,oA⟩:=((hJ1.out 7 (by kernel_rfl)).tie 0 rfl (.inl rfl));obtain⟨a',c',j9,oB⟩:=((hJ1.out 9 (by kernel_rfl)).tie 1 rfl (.inl rfl));have j7:x 7=_:=j7;have j9:x 9=_:=j9;rw [j7,j9]at hK;go_simp;refine(HLN.out a a' c c' _ _ oA oB HNE.out).mono ?_;rintro e wa ⟨rfl,ba⟩;go_simp;exact hK.out _ _ (hW1.later ba) (RegJ.ValE.keep (fun q hq=>.inr (.inr (fun v h=>hst q hq v _ _ ba h)))) (RegJ.ValE.free (Or.inl rfl) rfl)
  ·have j5:x 5=_:=(hJ1.out 5 (by kernel_rfl)).val rfl;rw [j5]at hK;have j10:x 10=_:=(hJ1.out 10 (by kernel_rfl)).val rfl;rw [j10]at hK;go_simp;exact hK.out _ _ (keepW 11 d _ hW1 (by decide)) RegJ.ValE.same (RegJ.ValE.free (Or.inl rfl) rfl)
  ·have j5:x 5=_:=(hJ1.out 5 (by kernel_rfl)).val rfl;rw [j5]at hK;have j11:x 11=_:=(hJ1.out 11 (by kernel_rfl)).val rfl;rw [j11]at hK;go_simp;exact hK.out _ _ (keepW 12 d _ hW1 (by decide)) RegJ.ValE.same (RegJ.ValE.free (Or.inl rfl) rfl)
  ·have j12:x 12=_:=(hJ1.out 12 (by kernel_rfl)).val rfl;rw [j12]at hK;go_simp;exact hK.out _ _ (keepW 13 d _ hW1 (by decide)) RegJ.ValE.same (RegJ.ValE.free (Or.inl rfl) rfl)
  ·have j13:x 13=_:=(hJ1.out 13 (by kernel_rfl)).val rfl;rw [j13]at hK;have e0:=hW1.b'.cell (i:=0) rfl;have e1:=hW1.b'.cell (i:=1) rfl;go_simp;exact hK.out _ _ (keepW 14 d _ hW1 (by decide)) RegJ.ValE.same (RegJ.ValE.free (Or.inl rfl) rfl)
  ·have j13:x 13=_:=(hJ1.out 13 (by kernel_rfl)).val rfl;rw [j13]at hK;have j14:x 14=_:=(hJ1.out 14 (by kernel_rfl)).val rfl;rw [j14]at hK;go_simp;refine(HS1.out _ hW1.b).mono ?_;rintro e wa ⟨⟨a,c,rfl,oA⟩,ba⟩;go_simp;exact hK.out _ _ (hW1.later ba) (RegJ.ValE.keep (fun q hq=>.inr (.inr (fun v h=>hst q hq v _ _ ba h)))) (RegJ.ValE.got 2 _ _ (Or.inr rfl) rfl rfl ⟨a,c,rfl,oA⟩)
  ·have j13:x 13=_:=(hJ1.out 13 (by kernel_rfl)).val rfl;rw [j13]at hK;have e0:=hW1.b'.cell (i:=0) rfl;have e1:=hW1.b'.cell (i:=1) rfl;go_simp;exact hK.out _ _ (keepW 16 d _ hW1 (by decide)) RegJ.ValE.same (RegJ.ValE.free (Or.inl rfl) rfl)
  ·have j13:x 13=_:=(hJ1.out 13 (by kernel_rfl)).val rfl;rw [j13]at hK;have j16:x 16=_:=(hJ1.out 16 (by kernel_rfl)).val rfl;rw [j16]at hK;go_simp;refine(HS2.out _ hW1.b).mono ?_;rintro e wa ⟨⟨a,c,rfl,oA⟩,ba⟩;go_simp;exact hK.out _ _ (hW1.later ba) (RegJ.ValE.keep (fun q hq=>.inr (.inr (fun v h=>hst q hq v _ _ ba h)))) (RegJ.ValE.got 3 _ _ (Or.inr rfl) rfl rfl ⟨a,c,rfl,oA⟩)
  ·have j13:x 13=_:=(hJ1.out 13 (by kernel_rfl)).val rfl;rw [j13]at hK;obtain⟨a,c,j15,oA⟩:=((hJ1.out 15 (by kernel_rfl)).tie 2 rfl (.inl rfl));obtain⟨a',c',j17,oB⟩:=((hJ1.out 17 (by kernel_rfl)).tie 3 rfl (.inl rfl));have j15:x 15=_:=j15;have j17:x 17=_:=j17;rw [j15,j17]at hK;go_simp;refine(HLN.out a a' c c' _ _ oA oB HNS.out).mono ?_;rintro e wa ⟨rfl,ba⟩;go_simp;exact hK.out _ _ (hW1.later ba) (RegJ.ValE.keep (fun q hq=>.inr (.inr (fun v h=>hst q hq v _ _ ba h)))) (RegJ.ValE.free (Or.inl rfl) rfl)
  ·have j13:x 13=_:=(hJ1.out 13 (by kernel_rfl)).val rfl;rw [j13]at hK;have j18:x 18=_:=(hJ1.out 18 (by kernel_rfl)).val rfl;rw [j18]at hK;go_simp;exact hK.out _ _ (keepW 19 d _ hW1 (by decide)) RegJ.ValE.same (RegJ.ValE.free (Or.inl rfl) rfl)
  ·have j13:x 13=_:=(hJ1.out 13 (by kernel_rfl)).val rfl;rw [j13]at hK;have j19:x 19=_:=(hJ1.out 19 (by kernel_rfl)).val rfl;rw [j19]at hK;go_simp;exact hK.out _ _ (keepW 20 d _ hW1 (by decide)) RegJ.ValE.same (RegJ.ValE.free (Or.inl rfl) rfl)
 have j20:xR 20=.bool false:=(hJR 20 (by simp)).val rfl
 rw [j20]
 have b2:=hWR.b
 clear hWR hJR hdR hst keepW HU1 HU2 HE1 HE2 HS1 HS2 HLN HNE HNS S0
 have B2:=B1.trans (b2.mono hB1)
 have hb2:=Draw.Bytes.below hb1 b2 (Nat.le_refl _)
 clear b2 hb1 B1 hB1
 go_wp2_with fail
 refine(Wor.drawPlay _ _ _ _ hb2 hl).mono ?_
 rintro e w2 ⟨pH,pR,cpH,cpR,ps,pr,pt,aL,capL,L,rfl,DP,hz2,hL,hLl,hLt,b3⟩
 replace B2:=B2.trans (b3.mono B2.size)
 clear b3 hb2 hb
 have v6:RowG.Var 31 (w2.alloc (.cells (Wor.A7 pH ps.length cpH pR pr.length cpR pt).toArray 31)) w2.heap.size (Wor.A7 pH ps.length cpH pR pr.length cpR pt):=RowG.Var.new w2 _
 have b4:=(Below.refl w2.heap.size w2).alloc (Nat.le_refl _) (.cells (Wor.A7 pH ps.length cpH pR pr.length cpR pt).toArray 31)
 replace DP:=DP.later b4
 replace hL:=hL.later b4
 replace B2:=B2.trans (b4.mono B2.size)
 clear b4
 go_upto_region 9 with(fail)
 generalize w2.alloc (.cells _ 31)=V6 at *
 generalize w2.heap.size=k6 at *
 obtain⟨c0,c1,c2,c3,c4,c5,c6⟩:=v6.c7
 go_wp2_with fail
 refine(Wor.anew pH pR _ cpH cpR ps pr pt _ rfl DP (by omega)).mono ?_
 rintro e w3 ⟨hx,b5⟩
 replace hL:=hL.later b5
 replace B2:=B2.trans (b5.mono B2.size)
 clear DP v6 b5 c0 c1 c2 c3 c4 c5 c6
 rcases hx with rfl|⟨l,n,v,hcp,rfl,⟨g,cH,xs,aR,cR,rfl,A⟩⟩
 ·have B3:=B2.alloc B2.size (.cells Wor.Z7.toArray 31)
  go_wp2_with fail
  go_ret
  exact⟨rfl,B3⟩
 generalize hW0:Wor.newW l n=W0 at *
 have HWI:Hid (Wor.okW (Wor.play W0 L)=true∧Wor.Inv (Wor.play W0 L)):=by rw [←hW0];exact Cou.play_inv hcp L
 clear hW0 hcp
 have hB3:=B2.size
 have v8:RowG.Var 31 (w3.alloc (.cells (Wor.W7 W0 g cH aR cR).toArray 31)) w3.heap.size (Wor.W7 W0 g cH aR cR):=RowG.Var.new w3 _
 have b4:=(Below.refl w3.heap.size w3).alloc (Nat.le_refl _) (.cells (Wor.W7 W0 g cH aR cR).toArray 31)
 replace A:=A.later b4
 replace hL:=hL.later b4
 replace B2:=B2.trans (b4.mono B2.size)
 clear b4
 by_cases h3:L.length≤300
 case neg=>
  have i0:(300:Int)<(L.length:Int):=by omega
  go_wp2_with fail
  go_ret
  exact⟨rfl,B2⟩
 have i0: ¬(300:Int)<(L.length:Int):=by omega
 have HTX:Hid (∀a∈L,a.tx.size≤2097152):=fun a ha=>by have:=hLt a ha;omega
 have H3:Hid (L.length≤300):=h3
 clear hLt h3 hLl
 go_upto_region 12 with(fail)
 clear i0
 generalize w3.alloc (.cells _ 31)=V8 at *
 have HK8:Hid (w.heap.size≤w3.heap.size):=hB3
 clear hB3
 generalize w3.heap.size=k8 at *
 obtain⟨c0,c1,c2,c3,c4,c5,c6⟩:=v8.c7
 go_wp2_with fail
 refine(Wor.specPlay 0 W0 g cH cR aR xs _ ⟨A.L.mono (Nat.zero_le _),A.hs,A.R.mono (Nat.zero_le _),A.ok⟩ (Nat.zero_le _) aL capL L hL H3.out HTX.out).mono ?_
 rintro e w4 ⟨v,rfl,⟨g5,h5,ys,a5,r5,rfl,A5⟩,b5⟩
 replace v8:=v8.later b5
 replace B2:=B2.trans (b5.mono B2.size)
 clear A hL b5 HTX H3 c0 c1 c2 c3 c4 c5 c6
 generalize Wor.play W0 L=W at *
 obtain⟨c0,c1,c2,c3,c4,c5,c6⟩:=v8.c7
 obtain⟨y0,y1,y2,y3,y4,y5,y6⟩:=v8.f7
 have ka:=Wor.kept7 w4 k8 (.slice (some ⟨g5,0,none⟩) 3 h5) (.slice a5 W.rs.length r5) (.string W.tx) (.int .i64 W.rd) (.bool W.en) (.bool W.dn) (.bool W.sn)
 have vv:=Wor.var7 v8 (.slice (some ⟨g5,0,none⟩) 3 h5) (.slice a5 W.rs.length r5) (.string W.tx) (.int .i64 W.rd) (.bool W.en) (.bool W.dn) (.bool W.sn)
 have A6:=A5.keptV v8 (by decide) (by decide) (by decide) (by decide) ka
 have B6:=B2.trans (ka.below HK8.out B2.size)
 clear ka A5 v8 B2
 go_upto_region 13 with(fail)
 clear c0 c1 c2 c3 c4 c5 c6 y0 y1 y2 y3 y4 y5 y6
 simp only [Wor.put7]at vv A6 B6
 generalize World.setCell _ ⟨k8,6,none⟩ _=WZ at *
 have hok:=HWI.out.1
 have hhb:Wor.hopsB W.hs W.rs=true:=(Wor.ok_parts.1 hok).1
 have hsk:W.sm.ok=true:=by rw [←Wor.stream_sm];exact(Wor.ok_parts.1 hok).2
 have hrl:=Wor.roads_len (Wor.hops_iff.1 hhb).2.1
 have htx:=(Wor.stream_iff.1 (Wor.ok_parts.1 hok).2).1
 have hy3:=A6.len
 have hys:=A6.hs
 have hsm: ∀x∈ys,x.h.Sm:=fun x hx=>(Wor.sms_of A6.ok A6.hs x hx).1
 obtain⟨hU,hE0,hS5,hn0,hn1⟩:=Cou.under hok HWI.out.2
 have hEe:Cou.endsL (ys.map (·.h)) W.rs=(Cou.deskL W.hs).map Cou.endK:=by rw [Cou.endsL,Cou.toldL,hys,hhb];rfl
 have hSe:Cou.startsL (ys.map (·.h)) W.rs=(Cou.deskL W.hs).map Prod.fst:=by rw [Cou.startsL,Cou.toldL,hys,hhb];rfl
 have hNe:Wor.unW (ys.map (·.h)) W.rs W.sm=(W.tx.size:Int)-W.rd:=by rw [Wor.unW,hys,hhb,hsk];rfl
 have hRe:Lin.roomB (ys.map (·.h)) W.rs=Lin.sumC W.hs 3:=by rw [Lin.roomB,hys,hhb];rfl
 have hD6:(Cou.deskL W.hs).length=6:=by rw [Cou.deskL_len,Wor.len3 hok]
 have hE6:((Cou.deskL W.hs).map Cou.endK).length=6:=by rw [List.length_map,hD6]
 have hS6:((Cou.deskL W.hs).map Prod.fst).length=6:=by rw [List.length_map,hD6]
 have HE:Hid (∀w',Below WZ.heap.size WZ w'→Calls Tryz.prog 12 #[.agg #[.slice (some ⟨g5,0,none⟩) 3 h5,.slice a5 W.rs.length r5]] w' fun x w''=>(∃a c,x=.returned (.slice a 6 c)∧Roa.EI.Lies w'' a ((Cou.deskL W.hs).map Cou.endK))∧Below w'.heap.size w' w''):=fun w' b=>(Cou.implEndsOf _ a5 3 W.rs.length h5 r5 ys W.rs w' hy3.symm rfl (A6.L.ll.later b) (A6.R.lies.later b) (by omega) hsm).mono (by
  rintro x w'' ⟨a,c,rfl,o,bb⟩
  rw [hEe]at o
  exact⟨⟨a,c,by rw [hEe,hE6],o.lies⟩,bb⟩)
 have HS:Hid (∀w',Below WZ.heap.size WZ w'→Calls Tryz.prog 14 #[.agg #[.slice (some ⟨g5,0,none⟩) 3 h5,.slice a5 W.rs.length r5]] w' fun x w''=>(∃a c,x=.returned (.slice a 6 c)∧Roa.EI.Lies w'' a ((Cou.deskL W.hs).map Prod.fst))∧Below w'.heap.size w' w''):=fun w' b=>(Cou.implStartsOf _ a5 3 W.rs.length h5 r5 ys W.rs w' hy3.symm rfl (A6.L.ll.later b) (A6.R.lies.later b) (by omega) hsm).mono (by
  rintro x w'' ⟨a,c,rfl,o,bb⟩
  rw [hSe]at o
  exact⟨⟨a,c,by rw [hSe,hS6],o.lies⟩,bb⟩)
 have HN:Hid (∀w',Below WZ.heap.size WZ w'→Calls Tryz.prog 9 #[.agg #[.slice (some ⟨g5,0,none⟩) 3 h5,.slice a5 W.rs.length r5,.string W.tx,.int .i64 W.rd,.bool W.en,.bool W.dn,.bool W.sn]] w' fun x w''=>x=.returned (.int .i64 ((W.tx.size:Int)-W.rd))∧Below w'.heap.size w' w''):=fun w' b=>(Wor.implUnderWay _ a5 3 W.rs.length h5 r5 ys W.rs W.sm w' hy3.symm rfl (A6.L.ll.later b) (A6.R.lies.later b) (by omega) (by omega) hsm (by show W.tx.size≤_;omega)).mono (by
  rintro x w'' ⟨rfl,bb⟩
  exact⟨by rw [hNe],bb⟩)
 have HR:Hid (∀w',Below WZ.heap.size WZ w'→Calls Tryz.prog 19 #[.agg #[.slice (some ⟨g5,0,none⟩) 3 h5,.slice a5 W.rs.length r5]] w' fun x w''=>x=.returned (.int .i64 (Lin.sumC W.hs 3))∧Below w'.heap.size w' w''):=fun w' b=>(Lin.specRoomOf _ a5 3 W.rs.length h5 r5 ys W.rs w' hy3.symm rfl (A6.L.ll.later b) (A6.R.lies.later b) (by omega) (by omega) hsm).mono (by
  rintro x w'' ⟨rfl,bb⟩
  exact⟨by rw [hRe],bb⟩)
 generalize (Cou.deskL W.hs).map Cou.endK=E at *
 generalize (Cou.deskL W.hs).map Prod.fst=S at *
 generalize Lin.sumC W.hs 3=room at *
 have HUU:Hid (∀k,k<6→(0<k→Lin.capAt E k≤Lin.capAt E (k-1))∧Lin.capAt S k≤Lin.capAt E k):=hU
 have HE6:Hid (E.length=6):=hE6
 have HS6:Hid (S.length=6):=hS6
 have HF:Hid (Lin.capAt E 0=W.tx.size∧Lin.capAt S 5=W.rd∧0≤(W.tx.size:Int)-W.rd∧(W.tx.size:Int)-W.rd≤room):=⟨hE0,hS5,hn0,hn1⟩
 clear hok hhb hsk hrl htx hy3 hys hsm hU hE0 hS5 hn0 hn1 hEe hSe hNe hRe hD6 hE6 hS6 A6 HWI
 have c0:=vv.cell (i:=0) rfl
 have c1:=vv.cell (i:=1) rfl
 go_wp2_with fail
 refine(HE.out _ (Below.refl _ _)).mono ?_
 rintro e w5 ⟨⟨aE,cE,rfl,lE⟩,b5⟩
 clear c0 c1 HE
 have v9:=vv.later b5
 have c0:=v9.cell (i:=0) rfl
 have c1:=v9.cell (i:=1) rfl
 go_wp2_with fail
 refine(HS.out _ b5).mono ?_
 rintro e w6 ⟨⟨aS,cS,rfl,lS⟩,b6⟩
 replace lE:=lE.later b6
 replace b5:=b5.trans (b6.mono b5.size)
 clear c0 c1 HS b6 v9
 have v9:=vv.later b5
 obtain⟨c0,c1,c2,c3,c4,c5,c6⟩:=v9.c7
 go_wp2_with fail
 refine(HN.out _ b5).mono ?_
 rintro e w7 ⟨rfl,b6⟩
 replace lE:=lE.later b6
 replace lS:=lS.later b6
 replace b5:=b5.trans (b6.mono b5.size)
 clear HN b6 v9 c0 c1 c2 c3 c4 c5 c6
 have v9:=vv.later b5
 have B7:=B6.trans (b5.mono B6.size)
 obtain⟨bE,oE,rfl⟩: ∃b o,aE=some ⟨b,o,none⟩:=by
  rcases lE with q|⟨b,o,e,_⟩
  ·have:=HE6.out;rw [q]at this;cases this
  ·exact⟨b,o,e⟩
 obtain⟨bS,oS,rfl⟩: ∃b o,aS=some ⟨b,o,none⟩:=by
  rcases lS with q|⟨b,o,e,_⟩
  ·have:=HS6.out;rw [q]at this;cases this
  ·exact⟨b,o,e⟩
 go_wp2_with fail
 go_loopw [13] (fun iv wr=> ∃k:Nat,k≤6∧iv=.int .i64 k∧Below w7.heap.size w7 wr) (fun iv _=>6-(intOf iv).toNat)
 case atStart=>exact⟨0,by omega,rfl,Below.refl _ _⟩
 case round=>
  obtain⟨k,hk,rfl,b8⟩:=hrel
  have lE8:=lE.later b8
  have lS8:=lS.later b8
  have B8:=B7.trans (b8.mono B7.size)
  by_cases hk6:k<6
  case pos=>
   have k0:(k:Int)<6:=by omega
   have k1:(0:Int)≤(k:Int):=by omega
   have hu:=HUU.out k hk6
   have d0:=Draw.Later.cell (Lin.capCell lE8 (k:=k) (by rw [HE6.out];exact hk6))
   have d1:=Draw.Later.cell (Lin.capCell lS8 (k:=k) (by rw [HS6.out];exact hk6))
   have h2:decide (Lin.capAt E k<Lin.capAt S k)=false:=decide_eq_false (by omega)
   rcases Nat.eq_zero_or_pos k with rfl|hp
   focus
    clear lE8 lS8 hu
    simp only [Nat.add_zero]at d0 d1
    go_wp2_with fail
    refine Draw.wp_region_later hmix (by kernel_rfl) ?_
    repeat (go_big_quiet_step (fail))
    refine wpQuiet_nil ?_
    intro _ hw'
    obtain⟨⟨wq,hBq⟩,hw''⟩:=hw'
    subst hw''
    go_wp2_with fail
    go_roundw
    case rel=>exact⟨1,by omega,by go_num,b8.trans (hBq.mono b8.size)⟩
    case measure=>simp [intOf]
   focus
    obtain⟨j,rfl⟩: ∃j,k=j+1:=⟨k-1,by omega⟩
    have d2:=Draw.Later.cell (Lin.capCell lE8 (k:=j) (by rw [HE6.out];omega))
    have h3:decide (Lin.capAt E j<Lin.capAt E (j+1))=false:=decide_eq_false (by have:=hu.1 hp;rw [Nat.add_sub_cancel]at this;omega)
    have hj:(((j+1:Nat):Int)-1)=(j:Int):=by omega
    have k2:(0:Int)<((j+1:Nat):Int):=by omega
    have k3:(j:Int)<6:=by omega
    have k4:(0:Int)≤(j:Int):=by omega
    clear lE8 lS8 hu
    go_wp2_with fail
    refine Draw.wp_region_later hmix (by kernel_rfl) ?_
    repeat (go_big_quiet_step (fail))
    refine wpQuiet_nil ?_
    intro _ hw'
    obtain⟨⟨wq,hBq⟩,hw''⟩:=hw'
    subst hw''
    go_wp2_with fail
    go_roundw
    case rel=>exact⟨j+1+1,by omega,by go_num,b8.trans (hBq.mono b8.size)⟩
    case measure=>simp [intOf];omega
  case neg=>
   have k0: ¬(k:Int)<6:=by omega
   obtain⟨f0,f1,f2,f3⟩:=HF.out
   have d0:=Draw.Later.cell (Lin.capCell lE8 (k:=0) (by rw [HE6.out];decide))
   have d1:=Draw.Later.cell (Lin.capCell lS8 (k:=5) (by rw [HS6.out];decide))
   rw [f0]at d0
   rw [f1]at d1
   simp only [Nat.add_zero]at d0
   have v10:=v9.later b8
   have e0:=Draw.Later.cell (v10.cell (i:=0) rfl)
   have e1:=Draw.Later.cell (v10.cell (i:=1) rfl)
   have e2:=Draw.Later.cell (v10.cell (i:=2) rfl)
   have e3:=Draw.Later.cell (v10.cell (i:=3) rfl)
   have HRR:=fun p:Draw.Later wr=>HR.out p.1 ((b5.trans (b8.mono b5.size)).trans (p.2.mono (b5.trans (b8.mono b5.size)).size))
   have HRH:Hid _:=HRR
   have g0:decide (W.rd≤(W.tx.size:Int))=true:=decide_eq_true (by omega)
   have g1:decide ((W.tx.size:Int)-W.rd≤room)=true:=decide_eq_true f3
   have g2:decide ((W.tx.size:Int)≤room+W.rd)=true:=decide_eq_true (by omega)
   clear f2 f3
   clear HRR lE8 lS8 HR HF f0 f1
   go_wp2_with fail
   refine Draw.wp_region_later hmix (by kernel_rfl) ?_
   repeat (go_big_quiet_step (first|(go_at_call 19;exact Draw.later_of (HRH.out _))|fail))
   refine wpQuiet_nil ?_
   intro _ hw'
   obtain⟨⟨wq,hBq⟩,hw''⟩:=hw'
   subst hw''
   go_wp2_with fail
   go_ret
   exact⟨rfl,B8.trans (hBq.mono B8.size)⟩

/-! ### THE ROW's STEP: WRITTEN OUT: LEAVE IT -/
set_option maxRecDepth 100000 in
theorem lifted (os:Os)(started:os.Started)(H:Type)(enc:TypeId×Value→H):
  ReturnsInHanded {} Tryz.checked os 3 .any (Rows.fnUnderWaySpec.pre6 enc Tryz.prog Tryz.f3 Rows.fnUnderWayRow.domain false) (Rows.fnUnderWaySpec.post enc Tryz.prog Tryz.f3 false true false false):=by
 refine returnsInHanded_of_change (C:=Tryz.checked) own started (by kernel_rfl) Tryz.func3
  (ChangeSpec.witness6 (enc:=enc) (C:=Tryz.checked) false ⟨#[],#[.slice none 0 0],[]⟩ 8 (by kernel_rfl) (by kernel_rfl) (by kernel_rfl) (by kernel_rfl)) ?_
 intro W base args ds gs before hval0 hW hcnd _
 have hval: ∀(j:Nat) t v,Tryz.f3.params[j]? =some t→args[j]? =some v→Value.okWide Tryz.prog W .any base t v:=hval0
 have hW':=hW
 obtain⟨p,q,hA0,hV,rfl,hfz,hnd⟩:=hW
 have hA:DataW.TrodAll enc Tryz.prog W 0 (fun _=>true) true Tryz.f3.params.toList args.toList ds p:=hA0
 rw [Tryz.params3]at hA hval
 obtain⟨v0,vs0,d0,ds0,p0,q0,hargs,rfl,rfl,h0,r0⟩:=trodAll_cons hA
 obtain⟨rfl,rfl,rfl⟩:=trodAll_nil r0
 obtain rfl:args= #[v0]:=by cases args;simp_all
 obtain⟨rfl,rfl⟩:=trodVars_none hV
 obtain⟨a0,len0,cap0,rfl⟩:=okWide_slice Tryz.underlying22 (hval 0 22 v0 rfl rfl)
 have k0:=h0
 have lt0: ∀x∈p0,x.block<W.heap.size:=by obtain⟨m,hm⟩:=k0;exact DataW.trod_lt m _ _ _ hm
 obtain⟨z0,w0⟩: ∃zs,IsRow .u8 W a0 len0 cap0 zs:=by
  obtain⟨fuel,hf⟩:=h0
  rcases open_ints Tryz.underlying22 Tryz.underlying5 (by kernel_rfl) hf with⟨hcs,_⟩|⟨x,l,c,zs,hcs,_,hl,hm,hz,_,hcell,hwz⟩
  ·simp [Value.cells]at hcs
   obtain⟨rfl,rfl,rfl⟩:=hcs
   exact⟨[],.inl ⟨rfl,rfl,rfl,rfl⟩⟩
  ·simp [Value.cells]at hcs
   obtain⟨rfl,rfl,rfl⟩:=hcs
   exact⟨zs,.inr ⟨_,rfl,hl,hm,by simpa using hz,hcell,hwz⟩⟩
 clear hA0 hval0
 refine(walk a0 len0 cap0 z0 W w0).mono fun e W' ⟨he,bel⟩=>?_
 subst he
 exact⟨_,rfl,_,_,_,[],_,[],hW',trodAll_mk1 (shut_bool Tryz.underlying4 _),(trodAll_cons_mk (Below.trod laidOut (by kernel_rfl) (of_decide_eq_true (by kernel_rfl)) k0 bel lt0) trodAll_mk0),rfl,bel.frame _,fun h=>by cases h⟩

theorem over:Rows.fnUnderWayRow.holds Tryz.pinned (OpenSpec.ofChange Rows.fnUnderWaySpec):=
 OpenClaim.holds_of_wide 3 Tryz.f3 rfl rfl rfl rfl rfl rfl rfl ⟨rfl,rfl,rfl,rfl,rfl⟩ rfl rfl rfl rfl rfl (by kernel_rfl) Tryz.func3 (by kernel_rfl)
  (of_decide_eq_true (by kernel_rfl)) (by unfold Func.isWrapper;first|(rw [if_pos (by decide +kernel)];kernel_rfl)|(rw [if_neg (by decide +kernel)];exact⟨rfl,rfl⟩))
  (fun os started H enc _=>lifted os started H enc)

theorem proved:Rows.FnUnderWaySaid:=over
end Go.Proofs.YtfmcahjdhoabcaaGreat.fnUnderWay
namespace Go.Proofs.YtfmcahjdhoabcaaGreat
theorem fnUnderWay_holds:Rows.FnUnderWaySaid:=fnUnderWay.proved
#print axioms fnUnderWay_holds
end Go.Proofs.YtfmcahjdhoabcaaGreat
