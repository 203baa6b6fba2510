/- For every code of bytes FnArrives returns true: the program's Arrives, Loses, Doubles answer as the specification's; what arrives is heard or taken, what is lost is gone, what is doubled is there twice; no condition. (Its frame is the guide's shell; the walk is mine.) -/
import Derived.Test.YtjnkjeajkmgcmaaGreatRows
import Derived.Test.YtjnkjeajkmgcmaaGreatMg6
import Derived.Test.YtjnkjeajkmgcmaaGreatMg18
import Derived.Test.YtjnkjeajkmgcmaaGreatHopY
import Derived.Test.YtjnkjeajkmgcmaaGreatMg16
import Derived.Test.YtjnkjeajkmgcmaaGreatDrawAr
import Derived.Test.YtjnkjeajkmgcmaaGreatMg24
import Derived.WalkKit
import Derived.ProofKit
import Derived.OpenShut
import Derived.ShutString
import Derived.ChangeOld
import Derived.Below
namespace Go.Proofs.YtjnkjeajkmgcmaaGreat.fnArrives
open Go.ChangeShapes Go.WideShapes Go.ChangeAt Go.RowKit
open Go.ChangeMaps (open_string shut_string)
set_option linter.unusedVariables false

theorem own : ownKnob Tryz.prog.godebug = none := by kernel_rfl
theorem laidOut : laidOutB Tryz.prog = true := by kernel_rfl

def IsRow (k : IntKind) (w : World) (a : Option Addr) (len cap : Nat) (zs : List Int) : Prop :=
  (a = none ∧ len = 0 ∧ cap = 0 ∧ zs = []) ∨
  ∃ x, a = some x ∧ len ≤ cap ∧ cap ≤ maxLen ∧ zs.length = cap ∧ (∀ i, i < zs.length → w.cell? (x.add i) = some (.int k (zs.getD i 0))) ∧ ∀ n ∈ zs, (Lit.int k n).wf = true

/-! ### STEP 1: THE WALK: the Go text returns true, AND WRITES NOTHING THAT WAS THERE: 'Below w.heap.size w w'' (Derived/Below.lean: '.refl', '.alloc', '.drew', '.setCell' at a new block, '.trans'). Open each 'IsRow' by 'rcases' AHEAD of 'go_enter'; part every test ahead of the walk. -/
set_option linter.unusedSimpArgs false in
set_option maxRecDepth 20000 in
set_option maxHeartbeats 40000000 in
theorem walk (a0 : Option Addr) (len0 cap0 : Nat) (z0 : List Int) (w : World) (w0 : IsRow .u8 w a0 len0 cap0 z0) :
    Calls Tryz.prog 3 #[.slice a0 len0 cap0] w fun e w' => e = .returned (.bool true) ∧ Below w.heap.size w w' := by
  obtain ⟨hb, hm⟩ := Draw.bytes_of_row w0
  clear w0
  by_cases hl : len0 ≤ 4096
  case neg =>
    have hd : decide (4096 < (len0 : Int)) = true := by simp; omega
    go_enter Tryz.func3, Tryz.ntmps3
    go_wp2_with fail
    refine (Draw.big _ _ _ _ hm).mono ?_
    rintro e w1 ⟨rfl, rfl⟩
    go_wp2_with fail
    go_ret
    exact ⟨rfl, Below.refl _ _⟩
  have hd : decide (4096 < (len0 : Int)) = false := by simp; omega
  have hmix := Hop.mix
  go_enter Tryz.func3, Tryz.ntmps3
  go_wp2_with fail
  refine (Draw.big _ _ _ _ hm).mono ?_
  rintro e w1 ⟨rfl, rfl⟩
  clear hd
  go_wp2_with fail
  refine (Hop.drawArrives _ _ _ _ hb hl).mono ?_
  rintro x w1 ⟨h, aT1, cT1, aW1, cW1, n, hs, hwl, rfl, oT1, oW1, BN⟩
  have cp1 : h.ws.length ≤ cW1 := oW1.cap
  have CP1 : Hid _ := cp1
  clear cp1
  have nT1 := oT1.none_cap
  have nW1 := oW1.none_cap
  have H1 := Hop.HV.new oT1 oW1
  have bA : Below w1.heap.size w1 (w1.alloc (.cells #[.int .i64 h.g.ba, .string h.g.bs, .int .i64 h.g.cp, .int .i64 h.g.lm, .bool h.g.en, .bool h.g.dn, .int .i64 h.t.nx, .string h.t.bs, .slice aT1 h.t.l.length cT1, .int .i64 h.t.cp, .int .i64 h.t.fi, .bool h.t.en, .slice aW1 h.ws.length cW1] 31)) := (Below.refl _ _).alloc (Nat.le_refl _) _
  have BN := BN.trans (bA.mono BN.size)
  clear bA oT1 oW1
  go_wp2_with fail
  generalize w1.alloc (.cells (Hop.Hp.c h aT1 cT1 aW1 cW1).toArray 31) = wA1 at *
  have AL : Hid _ := Hop.arr_len hs n
  refine (Hop.implArrives Tak.sortNil h aT1 cT1 aW1 cW1 n _ H1.t H1.l nT1 nW1 hs).mono ?_
  rintro e w2 ⟨aT2, cT2, aW2, cW2, rfl, oT2, oW2, b2⟩
  have BN := BN.trans (b2.mono BN.size)
  have H1 := H1.later b2
  clear b2
  generalize (Value.agg #[.int .i64 h.g.ba, .string h.g.bs, .int .i64 h.g.cp, .int .i64 h.g.lm, .bool h.g.en, .bool h.g.dn, .int .i64 h.t.nx, .string h.t.bs, .slice aT1 h.t.l.length cT1, .int .i64 h.t.cp, .int .i64 h.t.fi, .bool h.t.en, .slice aW1 h.ws.length cW1]) = ua2
  generalize hS : Hop.arrivesH h n = S at *
  have K2 : Hid _ := hS
  clear hS
  obtain ⟨x, is⟩ := S
  dsimp only at oT2 oW2
  dsimp only
  have cp2 : x.ws.length ≤ cW2 := oW2.cap
  have CP2 : Hid _ := cp2
  clear cp2
  have nT2 := oT2.none_cap
  have nW2 := oW2.none_cap
  have H2 := Hop.HV.new oT2 oW2
  have bA : Below w2.heap.size w2 (w2.alloc (.cells #[.int .i64 x.g.ba, .string x.g.bs, .int .i64 x.g.cp, .int .i64 x.g.lm, .bool x.g.en, .bool x.g.dn, .int .i64 x.t.nx, .string x.t.bs, .slice aT2 x.t.l.length cT2, .int .i64 x.t.cp, .int .i64 x.t.fi, .bool x.t.en, .slice aW2 x.ws.length cW2] 31)) := (Below.refl _ _).alloc (Nat.le_refl _) _
  have BN := BN.trans (bA.mono BN.size)
  have H1 := H1.later bA
  clear bA oT2 oW2
  obtain ⟨e0, e1, e2, e3, e4, e5, e6, e7, e8, e9, e10, e11, e12⟩ := H1.v.c13
  go_wp2_with fail
  clear e0 e1 e2 e3 e4 e5 e6 e7 e8 e9 e10 e11 e12
  generalize w2.alloc (.cells (Hop.Hp.c x aT2 cT2 aW2 cW2).toArray 31) = wA2 at *
  generalize Hop.Hp.v x aT2 cT2 aW2 cW2 = ub2
  generalize Hop.Hp.v h aT1 cT1 aW1 cW1 = ub1
  as_aux_lemma =>
  refine (Hop.implLoses h aT1 cT1 aW1 cW1 n _ H1.t H1.l nT1 nW1 hs).mono ?_
  rintro e w3 ⟨aT3, cT3, aW3, cW3, rfl, oT3, oW3, b3⟩
  have BN := BN.trans (b3.mono BN.size)
  have H1 := H1.later b3
  have H2 := H2.later b3
  clear b3
  generalize (Value.agg #[.int .i64 h.g.ba, .string h.g.bs, .int .i64 h.g.cp, .int .i64 h.g.lm, .bool h.g.en, .bool h.g.dn, .int .i64 h.t.nx, .string h.t.bs, .slice aT1 h.t.l.length cT1, .int .i64 h.t.cp, .int .i64 h.t.fi, .bool h.t.en, .slice aW1 h.ws.length cW1]) = ua3
  generalize hS : Hop.losesH h n = S at *
  have K3 : Hid _ := hS
  clear hS
  obtain ⟨l, lost⟩ := S
  dsimp only at oT3 oW3
  dsimp only
  have cp3 : l.ws.length ≤ cW3 := oW3.cap
  have CP3 : Hid _ := cp3
  clear cp3
  have nT3 := oT3.none_cap
  have nW3 := oW3.none_cap
  have H3 := Hop.HV.new oT3 oW3
  have bA : Below w3.heap.size w3 (w3.alloc (.cells #[.int .i64 l.g.ba, .string l.g.bs, .int .i64 l.g.cp, .int .i64 l.g.lm, .bool l.g.en, .bool l.g.dn, .int .i64 l.t.nx, .string l.t.bs, .slice aT3 l.t.l.length cT3, .int .i64 l.t.cp, .int .i64 l.t.fi, .bool l.t.en, .slice aW3 l.ws.length cW3] 31)) := (Below.refl _ _).alloc (Nat.le_refl _) _
  have BN := BN.trans (bA.mono BN.size)
  have H1 := H1.later bA
  have H2 := H2.later bA
  clear bA oT3 oW3
  obtain ⟨e0, e1, e2, e3, e4, e5, e6, e7, e8, e9, e10, e11, e12⟩ := H1.v.c13
  go_wp2_with fail
  clear e0 e1 e2 e3 e4 e5 e6 e7 e8 e9 e10 e11 e12
  generalize w3.alloc (.cells (Hop.Hp.c l aT3 cT3 aW3 cW3).toArray 31) = wA3 at *
  generalize Hop.Hp.v l aT3 cT3 aW3 cW3 = ub3
  as_aux_lemma =>
  refine (Hop.implDoubles h aT1 cT1 aW1 cW1 n _ H1.t H1.l nT1 nW1 hs).mono ?_
  rintro e w4 ⟨aT4, cT4, aW4, cW4, rfl, oT4, oW4, b4⟩
  have BN := BN.trans (b4.mono BN.size)
  have H1 := H1.later b4
  have H2 := H2.later b4
  have H3 := H3.later b4
  clear b4
  generalize (Value.agg #[.int .i64 h.g.ba, .string h.g.bs, .int .i64 h.g.cp, .int .i64 h.g.lm, .bool h.g.en, .bool h.g.dn, .int .i64 h.t.nx, .string h.t.bs, .slice aT1 h.t.l.length cT1, .int .i64 h.t.cp, .int .i64 h.t.fi, .bool h.t.en, .slice aW1 h.ws.length cW1]) = ua4
  generalize hS : Hop.doublesH h n = S at *
  have K4 : Hid _ := hS
  clear hS
  obtain ⟨d, twice⟩ := S
  dsimp only at oT4 oW4
  dsimp only
  have cp4 : d.ws.length ≤ cW4 := oW4.cap
  have CP4 : Hid _ := cp4
  clear cp4
  have nT4 := oT4.none_cap
  have nW4 := oW4.none_cap
  have H4 := Hop.HV.new oT4 oW4
  have bA : Below w4.heap.size w4 (w4.alloc (.cells #[.int .i64 d.g.ba, .string d.g.bs, .int .i64 d.g.cp, .int .i64 d.g.lm, .bool d.g.en, .bool d.g.dn, .int .i64 d.t.nx, .string d.t.bs, .slice aT4 d.t.l.length cT4, .int .i64 d.t.cp, .int .i64 d.t.fi, .bool d.t.en, .slice aW4 d.ws.length cW4] 31)) := (Below.refl _ _).alloc (Nat.le_refl _) _
  have BN := BN.trans (bA.mono BN.size)
  have H1 := H1.later bA
  have H2 := H2.later bA
  have H3 := H3.later bA
  clear bA oT4 oW4
  obtain ⟨e0, e1, e2, e3, e4, e5, e6, e7, e8, e9, e10, e11, e12⟩ := H1.v.c13
  go_wp2_with fail
  clear e0 e1 e2 e3 e4 e5 e6 e7 e8 e9 e10 e11 e12
  generalize w4.alloc (.cells (Hop.Hp.c d aT4 cT4 aW4 cW4).toArray 31) = wA4 at *
  generalize Hop.Hp.v d aT4 cT4 aW4 cW4 = ub4
  as_aux_lemma =>
  refine (Hop.specArrives h aT1 cT1 aW1 cW1 n _ H1.t H1.l nT1 nW1 hs).mono ?_
  rintro e p2 ⟨aT9, cT9, aW9, cW9, rfl, oT9, oW9, b9⟩
  rw [K2.out] at oT9 oW9 ⊢
  (try dsimp only at oT9 oW9)
  dsimp only
  have BN := BN.trans (b9.mono BN.size)
  have H1 := H1.later b9
  have H2 := H2.later b9
  have H3 := H3.later b9
  have H4 := H4.later b9
  clear b9
  generalize (Value.agg #[.int .i64 h.g.ba, .string h.g.bs, .int .i64 h.g.cp, .int .i64 h.g.lm, .bool h.g.en, .bool h.g.dn, .int .i64 h.t.nx, .string h.t.bs, .slice aT1 h.t.l.length cT1, .int .i64 h.t.cp, .int .i64 h.t.fi, .bool h.t.en, .slice aW1 h.ws.length cW1]) = uc2
  have cp9 : x.ws.length ≤ cW9 := oW9.cap
  have CP9 : Hid _ := cp9
  clear cp9
  have nT9 := oT9.none_cap
  have nW9 := oW9.none_cap
  have H9 := Hop.HV.new oT9 oW9
  have bA : Below p2.heap.size p2 (p2.alloc (.cells #[.int .i64 x.g.ba, .string x.g.bs, .int .i64 x.g.cp, .int .i64 x.g.lm, .bool x.g.en, .bool x.g.dn, .int .i64 x.t.nx, .string x.t.bs, .slice aT9 x.t.l.length cT9, .int .i64 x.t.cp, .int .i64 x.t.fi, .bool x.t.en, .slice aW9 x.ws.length cW9] 31)) := (Below.refl _ _).alloc (Nat.le_refl _) _
  have BN := BN.trans (bA.mono BN.size)
  have H1 := H1.later bA
  have H2 := H2.later bA
  have H3 := H3.later bA
  have H4 := H4.later bA
  clear bA oT9 oW9
  have hii : (is == is) = true := by simp
  obtain ⟨e0, e1, e2, e3, e4, e5, e6, e7, e8, e9, e10, e11, e12⟩ := H2.v.c13
  go_wp2_with fail
  clear e0 e1 e2 e3 e4 e5 e6 e7 e8 e9 e10 e11 e12 hii
  generalize p2.alloc (.cells (Hop.Hp.c x aT9 cT9 aW9 cW9).toArray 31) = q2 at *
  as_aux_lemma =>
  refine (Hop.likeHop x aT2 aT9 cT2 cT9 aW2 aW9 cW2 cW9 _ H2.t H9.t H2.l H9.l AL.out.1.1 AL.out.1.2).mono ?_
  rintro e r2 ⟨rfl, b9⟩
  generalize (Value.agg #[.int .i64 x.g.ba, .string x.g.bs, .int .i64 x.g.cp, .int .i64 x.g.lm, .bool x.g.en, .bool x.g.dn, .int .i64 x.t.nx, .string x.t.bs, .slice aT2 x.t.l.length cT2, .int .i64 x.t.cp, .int .i64 x.t.fi, .bool x.t.en, .slice aW2 x.ws.length cW2]) = ud2
  generalize (Value.agg #[.int .i64 x.g.ba, .string x.g.bs, .int .i64 x.g.cp, .int .i64 x.g.lm, .bool x.g.en, .bool x.g.dn, .int .i64 x.t.nx, .string x.t.bs, .slice aT9 x.t.l.length cT9, .int .i64 x.t.cp, .int .i64 x.t.fi, .bool x.t.en, .slice aW9 x.ws.length cW9]) = ue2
  generalize Hop.Hp.v x aT9 cT9 aW9 cW9 = uf2
  have BN := BN.trans (b9.mono BN.size)
  have H1 := H1.later b9
  have H2 := H2.later b9
  have H3 := H3.later b9
  have H4 := H4.later b9
  clear b9 H9 nT9 nW9 CP9
  obtain ⟨e0, e1, e2, e3, e4, e5, e6, e7, e8, e9, e10, e11, e12⟩ := H1.v.c13
  go_wp2_with fail
  clear e0 e1 e2 e3 e4 e5 e6 e7 e8 e9 e10 e11 e12
  as_aux_lemma =>
  refine (Hop.specLoses h aT1 cT1 aW1 cW1 n _ H1.t H1.l nT1 nW1 hs).mono ?_
  rintro e p3 ⟨aT9, cT9, aW9, cW9, rfl, oT9, oW9, b9⟩
  rw [K3.out] at oT9 oW9 ⊢
  (try dsimp only at oT9 oW9)
  dsimp only
  have BN := BN.trans (b9.mono BN.size)
  have H1 := H1.later b9
  have H2 := H2.later b9
  have H3 := H3.later b9
  have H4 := H4.later b9
  clear b9
  generalize (Value.agg #[.int .i64 h.g.ba, .string h.g.bs, .int .i64 h.g.cp, .int .i64 h.g.lm, .bool h.g.en, .bool h.g.dn, .int .i64 h.t.nx, .string h.t.bs, .slice aT1 h.t.l.length cT1, .int .i64 h.t.cp, .int .i64 h.t.fi, .bool h.t.en, .slice aW1 h.ws.length cW1]) = uc3
  have cp9 : l.ws.length ≤ cW9 := oW9.cap
  have CP9 : Hid _ := cp9
  clear cp9
  have nT9 := oT9.none_cap
  have nW9 := oW9.none_cap
  have H9 := Hop.HV.new oT9 oW9
  have bA : Below p3.heap.size p3 (p3.alloc (.cells #[.int .i64 l.g.ba, .string l.g.bs, .int .i64 l.g.cp, .int .i64 l.g.lm, .bool l.g.en, .bool l.g.dn, .int .i64 l.t.nx, .string l.t.bs, .slice aT9 l.t.l.length cT9, .int .i64 l.t.cp, .int .i64 l.t.fi, .bool l.t.en, .slice aW9 l.ws.length cW9] 31)) := (Below.refl _ _).alloc (Nat.le_refl _) _
  have BN := BN.trans (bA.mono BN.size)
  have H1 := H1.later bA
  have H2 := H2.later bA
  have H3 := H3.later bA
  have H4 := H4.later bA
  clear bA oT9 oW9
  have hii : (lost == lost) = true := by simp
  obtain ⟨e0, e1, e2, e3, e4, e5, e6, e7, e8, e9, e10, e11, e12⟩ := H3.v.c13
  go_wp2_with fail
  clear e0 e1 e2 e3 e4 e5 e6 e7 e8 e9 e10 e11 e12 hii
  generalize p3.alloc (.cells (Hop.Hp.c l aT9 cT9 aW9 cW9).toArray 31) = q3 at *
  as_aux_lemma =>
  refine (Hop.likeHop l aT3 aT9 cT3 cT9 aW3 aW9 cW3 cW9 _ H3.t H9.t H3.l H9.l AL.out.2.1.1 AL.out.2.1.2).mono ?_
  rintro e r3 ⟨rfl, b9⟩
  generalize (Value.agg #[.int .i64 l.g.ba, .string l.g.bs, .int .i64 l.g.cp, .int .i64 l.g.lm, .bool l.g.en, .bool l.g.dn, .int .i64 l.t.nx, .string l.t.bs, .slice aT3 l.t.l.length cT3, .int .i64 l.t.cp, .int .i64 l.t.fi, .bool l.t.en, .slice aW3 l.ws.length cW3]) = ud3
  generalize (Value.agg #[.int .i64 l.g.ba, .string l.g.bs, .int .i64 l.g.cp, .int .i64 l.g.lm, .bool l.g.en, .bool l.g.dn, .int .i64 l.t.nx, .string l.t.bs, .slice aT9 l.t.l.length cT9, .int .i64 l.t.cp, .int .i64 l.t.fi, .bool l.t.en, .slice aW9 l.ws.length cW9]) = ue3
  generalize Hop.Hp.v l aT9 cT9 aW9 cW9 = uf3
  have BN := BN.trans (b9.mono BN.size)
  have H1 := H1.later b9
  have H2 := H2.later b9
  have H3 := H3.later b9
  have H4 := H4.later b9
  clear b9 H9 nT9 nW9 CP9
  obtain ⟨e0, e1, e2, e3, e4, e5, e6, e7, e8, e9, e10, e11, e12⟩ := H1.v.c13
  go_wp2_with fail
  clear e0 e1 e2 e3 e4 e5 e6 e7 e8 e9 e10 e11 e12
  as_aux_lemma =>
  refine (Hop.specDoubles h aT1 cT1 aW1 cW1 n _ H1.t H1.l nT1 nW1 hs).mono ?_
  rintro e p4 ⟨aT9, cT9, aW9, cW9, rfl, oT9, oW9, b9⟩
  rw [K4.out] at oT9 oW9 ⊢
  (try dsimp only at oT9 oW9)
  dsimp only
  have BN := BN.trans (b9.mono BN.size)
  have H1 := H1.later b9
  have H2 := H2.later b9
  have H3 := H3.later b9
  have H4 := H4.later b9
  clear b9
  generalize (Value.agg #[.int .i64 h.g.ba, .string h.g.bs, .int .i64 h.g.cp, .int .i64 h.g.lm, .bool h.g.en, .bool h.g.dn, .int .i64 h.t.nx, .string h.t.bs, .slice aT1 h.t.l.length cT1, .int .i64 h.t.cp, .int .i64 h.t.fi, .bool h.t.en, .slice aW1 h.ws.length cW1]) = uc4
  have cp9 : d.ws.length ≤ cW9 := oW9.cap
  have CP9 : Hid _ := cp9
  clear cp9
  have nT9 := oT9.none_cap
  have nW9 := oW9.none_cap
  have H9 := Hop.HV.new oT9 oW9
  have bA : Below p4.heap.size p4 (p4.alloc (.cells #[.int .i64 d.g.ba, .string d.g.bs, .int .i64 d.g.cp, .int .i64 d.g.lm, .bool d.g.en, .bool d.g.dn, .int .i64 d.t.nx, .string d.t.bs, .slice aT9 d.t.l.length cT9, .int .i64 d.t.cp, .int .i64 d.t.fi, .bool d.t.en, .slice aW9 d.ws.length cW9] 31)) := (Below.refl _ _).alloc (Nat.le_refl _) _
  have BN := BN.trans (bA.mono BN.size)
  have H1 := H1.later bA
  have H2 := H2.later bA
  have H3 := H3.later bA
  have H4 := H4.later bA
  clear bA oT9 oW9
  have hii : (twice == twice) = true := by simp
  obtain ⟨e0, e1, e2, e3, e4, e5, e6, e7, e8, e9, e10, e11, e12⟩ := H4.v.c13
  go_wp2_with fail
  clear e0 e1 e2 e3 e4 e5 e6 e7 e8 e9 e10 e11 e12 hii
  generalize p4.alloc (.cells (Hop.Hp.c d aT9 cT9 aW9 cW9).toArray 31) = q4 at *
  as_aux_lemma =>
  refine (Hop.likeHop d aT4 aT9 cT4 cT9 aW4 aW9 cW4 cW9 _ H4.t H9.t H4.l H9.l AL.out.2.2.1 AL.out.2.2.2).mono ?_
  rintro e r4 ⟨rfl, b9⟩
  generalize (Value.agg #[.int .i64 d.g.ba, .string d.g.bs, .int .i64 d.g.cp, .int .i64 d.g.lm, .bool d.g.en, .bool d.g.dn, .int .i64 d.t.nx, .string d.t.bs, .slice aT4 d.t.l.length cT4, .int .i64 d.t.cp, .int .i64 d.t.fi, .bool d.t.en, .slice aW4 d.ws.length cW4]) = ud4
  generalize (Value.agg #[.int .i64 d.g.ba, .string d.g.bs, .int .i64 d.g.cp, .int .i64 d.g.lm, .bool d.g.en, .bool d.g.dn, .int .i64 d.t.nx, .string d.t.bs, .slice aT9 d.t.l.length cT9, .int .i64 d.t.cp, .int .i64 d.t.fi, .bool d.t.en, .slice aW9 d.ws.length cW9]) = ue4
  generalize Hop.Hp.v d aT9 cT9 aW9 cW9 = uf4
  have BN := BN.trans (b9.mono BN.size)
  have H1 := H1.later b9
  have H2 := H2.later b9
  have H3 := H3.later b9
  have H4 := H4.later b9
  clear b9 H9 nT9 nW9 CP9
  obtain ⟨e0, e1, e2, e3, e4, e5, e6, e7, e8, e9, e10, e11, e12⟩ := H1.v.c13
  go_wp2_with fail
  clear e0 e1 e2 e3 e4 e5 e6 e7 e8 e9 e10 e11 e12
  as_aux_lemma =>
  refine (Hop.specHopOk h aT1 cT1 aW1 cW1 _ H1.t H1.l hs).mono ?_
  rintro e r5 ⟨rfl, b9⟩
  generalize (Value.agg #[.int .i64 h.g.ba, .string h.g.bs, .int .i64 h.g.cp, .int .i64 h.g.lm, .bool h.g.en, .bool h.g.dn, .int .i64 h.t.nx, .string h.t.bs, .slice aT1 h.t.l.length cT1, .int .i64 h.t.cp, .int .i64 h.t.fi, .bool h.t.en, .slice aW1 h.ws.length cW1]) = ug
  have BN := BN.trans (b9.mono BN.size)
  have H1 := H1.later b9
  have H2 := H2.later b9
  have H3 := H3.later b9
  have H4 := H4.later b9
  clear b9
  cases q : Hop.hopB h
  case false =>
    obtain ⟨ka, kb, kc⟩ := Hop.arr_no q n
    have ex := Prod.mk.inj (ka.symm.trans K2.out)
    have el := Prod.mk.inj (kb.symm.trans K3.out)
    have ed := Prod.mk.inj (kc.symm.trans K4.out)
    obtain ⟨ex, ei⟩ := ex
    obtain ⟨el, ej⟩ := el
    obtain ⟨ed, ek⟩ := ed
    clear ka kb kc K2 K3 K4 AL
    subst ex ei el ej ed ek
    have V2 := H2.v
    dsimp only [Hop.Hp.c, Hop.zeroH, Giv.zeroG, Tak.zeroK, List.length_nil] at V2
    obtain ⟨e0, e1, e2, e3, e4, e5, e6, e7, e8, e9, e10, e11, e12⟩ := V2.c13
    go_wp2_with fail
    refine (Hop.likeHop Hop.zeroH aT2 none cT2 0 aW2 none cW2 0 _ H2.t (.inl rfl) H2.l (.inl rfl) (Nat.zero_le _) (Nat.zero_le _)).mono ?_
    rintro e wN ⟨rfl, bN⟩
    go_wp2_with fail
    go_ret
    exact ⟨rfl, BN.trans (bN.mono BN.size)⟩
  by_cases hn : 0 ≤ n ∧ n < (h.ws.length : Int)
  case neg =>
    obtain ⟨ka, kb, kc⟩ := Hop.arr_out q (n := n) (by omega)
    have ex := Prod.mk.inj (ka.symm.trans K2.out)
    have el := Prod.mk.inj (kb.symm.trans K3.out)
    have ed := Prod.mk.inj (kc.symm.trans K4.out)
    obtain ⟨ex, ei⟩ := ex
    obtain ⟨el, ej⟩ := el
    obtain ⟨ed, ek⟩ := ed
    clear ka kb kc K2 K3 K4 AL
    subst ex ei el ej ed ek
    obtain ⟨e0, e1, e2, e3, e4, e5, e6, e7, e8, e9, e10, e11, e12⟩ := H1.v.c13
    obtain ⟨f0, f1, f2, f3, f4, f5, f6, f7, f8, f9, f10, f11, f12⟩ := H2.v.c13
    obtain ⟨g0, g1, g2, g3, g4, g5, g6, g7, g8, g9, g10, g11, g12⟩ := H3.v.c13
    go_wp2_with fail
    refine (Hop.likeHop h aT2 aT1 cT2 cT1 aW2 aW1 cW2 cW1 _ H2.t H1.t H2.l H1.l (by have := hs.tl; omega) (by have := hs.wl; omega)).mono ?_
    rintro e s1 ⟨rfl, b9⟩
    clear e0 e1 e2 e3 e4 e5 e6 e7 e8 e9 e10 e11 e12 f0 f1 f2 f3 f4 f5 f6 f7 f8 f9 f10 f11 f12 g0 g1 g2 g3 g4 g5 g6 g7 g8 g9 g10 g11 g12
    have BN := BN.trans (b9.mono BN.size)
    have H1 := H1.later b9
    have H3 := H3.later b9
    clear b9
    obtain ⟨e0, e1, e2, e3, e4, e5, e6, e7, e8, e9, e10, e11, e12⟩ := H1.v.c13
    obtain ⟨g0, g1, g2, g3, g4, g5, g6, g7, g8, g9, g10, g11, g12⟩ := H3.v.c13
    go_wp2_with fail
    refine (Hop.likeHop h aT3 aT1 cT3 cT1 aW3 aW1 cW3 cW1 _ H3.t H1.t H3.l H1.l (by have := hs.tl; omega) (by have := hs.wl; omega)).mono ?_
    rintro e s2 ⟨rfl, b9⟩
    go_wp2_with fail
    go_ret
    exact ⟨rfl, BN.trans (b9.mono BN.size)⟩
  obtain ⟨k, rfl⟩ : ∃ k : Nat, n = (k : Int) := ⟨n.toNat, by omega⟩
  have hk : k < h.ws.length := by omega
  obtain ⟨m, hm'⟩ : ∃ m, h.ws[k]? = some m := ⟨h.ws[k], List.getElem?_eq_getElem hk⟩
  obtain ⟨xg, xt, xw, dw, e1, e2, e3, e4, e5, e6, hxl, hdw, hxo, hbk, hfo⟩ := Hop.arr_parts q hm' K2.out K3.out K4.out
  have HLX : Hid _ := Hop.let_in ((Hop.hop_ok q).2.2.2 m (List.mem_of_getElem? hm'))
  clear K2 K3 K4 AL
  subst e1 e2 e3 e4 e5 e6
  have HXL : Hid _ := hxl
  have HDW : Hid _ := hdw
  have HXO : Hid _ := hxo
  have HBK : Hid _ := hbk
  have HFO : Hid _ := hfo
  have HQ : Hid _ := q
  clear hxl hdw hxo hbk hfo q hn
  have i0 : (0 : Int) ≤ (k : Int) := by omega
  have i1 : (k : Int) < (h.ws.length : Int) := by omega
  obtain ⟨b, off, hab⟩ : ∃ b off, aW1 = some ⟨b, off, none⟩ := by
    rcases H1.l with hz | ⟨b, off, ha, _⟩
    · rw [hz] at hk; simp at hk
    · exact ⟨b, off, ha⟩
  subst hab
  obtain ⟨l0, l1, l2, l3, l4, l5, l6⟩ := Hop.let_cells H1.l hm'
  have e12 := H1.v.cell (i := 12) rfl
  have bL : Below r5.heap.size r5 (r5.alloc (.cells #[.bool m.bk, .int .i64 m.rd, .int .i64 m.pl, .string m.bs, .bool m.en, .int .i64 m.lm, .bool m.dn] 39)) := (Below.refl _ _).alloc (Nat.le_refl _) _
  have VL : RowG.Var 39 (r5.alloc (.cells #[.bool m.bk, .int .i64 m.rd, .int .i64 m.pl, .string m.bs, .bool m.en, .int .i64 m.lm, .bool m.dn] 39)) r5.heap.size [.bool m.bk, .int .i64 m.rd, .int .i64 m.pl, .string m.bs, .bool m.en, .int .i64 m.lm, .bool m.dn] := RowG.Var.new r5 _
  have BN := BN.trans (bL.mono BN.size)
  have H2 := H2.later bL
  have H3 := H3.later bL
  have H4 := H4.later bL
  have G1 := H1.later bL
  clear bL
  have f12 := H2.v.cell (i := 12) rfl
  have g12 := H3.v.cell (i := 12) rfl
  go_wp2_with fail
  clear e12 f12 g12 l0 l1 l2 l3 l4 l5 l6 H1
  have H1 := G1
  clear G1
  generalize r5.alloc (.cells #[.bool m.bk, .int .i64 m.rd, .int .i64 m.pl, .string m.bs, .bool m.en, .int .i64 m.lm, .bool m.dn] 39) = s0 at *
  generalize r5.heap.size = km at *
  as_aux_lemma =>
  by_cases z : h.ws.length = 30
  case pos =>
    obtain ⟨j0, j1, j2⟩ : ((0 : Int) ≤ (h.ws.length : Int)) ∧ ((xw.length : Int) = (h.ws.length : Int) - 1) ∧ IntKind.i64.wrap ((h.ws.length : Int) - 1) = (h.ws.length : Int) - 1 := ⟨by omega, by have := HXL.out; omega, by rw [IntKind.wrap_i64]; omega⟩
    have hdc : decide (h.ws.length = 30) = true := decide_eq_true z
    have hd3 : ((h.ws.length : Int) == 30) = true := by rw [beq_iff_eq]; omega
    have hLA := fun (p' : Draw.Later s0) => Hop.likeWay aW2 aW3 xw.length xw.length cW2 cW3 xw p'.v rfl rfl (H2.later p'.h).l (H3.later p'.h).l (by have := HXL.out; omega)
    have e0 := Draw.Later.cell (H1.v.cell (i := 0) rfl)
    have e1 := Draw.Later.cell (H1.v.cell (i := 1) rfl)
    have e2 := Draw.Later.cell (H1.v.cell (i := 2) rfl)
    have e3 := Draw.Later.cell (H1.v.cell (i := 3) rfl)
    have e4 := Draw.Later.cell (H1.v.cell (i := 4) rfl)
    have e5 := Draw.Later.cell (H1.v.cell (i := 5) rfl)
    have e12 := Draw.Later.cell (H1.v.cell (i := 12) rfl)
    have f12 := Draw.Later.cell (H2.v.cell (i := 12) rfl)
    have g0 := Draw.Later.cell (H3.v.cell (i := 0) rfl)
    have g1 := Draw.Later.cell (H3.v.cell (i := 1) rfl)
    have g2 := Draw.Later.cell (H3.v.cell (i := 2) rfl)
    have g3 := Draw.Later.cell (H3.v.cell (i := 3) rfl)
    have g4 := Draw.Later.cell (H3.v.cell (i := 4) rfl)
    have g5 := Draw.Later.cell (H3.v.cell (i := 5) rfl)
    have g12 := Draw.Later.cell (H3.v.cell (i := 12) rfl)
    have d12 := Draw.Later.cell (H4.v.cell (i := 12) rfl)
    have c0 := Draw.Later.cell (VL.cell (i := 0) rfl)
    have c1 := Draw.Later.cell (VL.cell (i := 1) rfl)
    have c2 := Draw.Later.cell (VL.cell (i := 2) rfl)
    have c3 := Draw.Later.cell (VL.cell (i := 3) rfl)
    have c4 := Draw.Later.cell (VL.cell (i := 4) rfl)
    have c5 := Draw.Later.cell (VL.cell (i := 5) rfl)
    have c6 := Draw.Later.cell (VL.cell (i := 6) rfl)
    rw [hdc]
    try simp only [Bool.not_true, Bool.not_false]
    refine Draw.wp_region_later hmix (by kernel_rfl) ?_
    repeat (go_big_quiet_step ((go_at_call 14; exact Draw.later_of (hLA _))))
    refine wpQuiet_nil ?_
    intro s1 hw'
    obtain ⟨q8, hq8⟩ := hw'
    have b8 := q8.h
    rw [← hq8] at b8
    clear hq8 q8 hLA e0 e1 e2 e3 e4 e5 e12 f12 g0 g1 g2 g3 g4 g5 g12 d12 c0 c1 c2 c3 c4 c5 c6
    have BN := BN.trans (b8.mono BN.size)
    have H1 := H1.later b8
    have H2 := H2.later b8
    have VL := VL.later b8
    clear b8 H3 H4 HDW j0 j1 j2 i0 i1 hdc hd3
    as_aux_lemma =>
    cases hmb : m.bk
    case true =>
      obtain ⟨e7, e8⟩ := HBK.out hmb
      subst e8
      rw [hmb] at VL
      have E7 : Hid _ := e7.symm
      clear e7 hmb HBK HFO
      have c0 := VL.cell (i := 0) rfl
      have c2 := VL.cell (i := 2) rfl
      have c5 := VL.cell (i := 5) rfl
      have c6 := VL.cell (i := 6) rfl
      have e0 := H1.v.cell (i := 0) rfl
      have e1 := H1.v.cell (i := 1) rfl
      have e2 := H1.v.cell (i := 2) rfl
      have e3 := H1.v.cell (i := 3) rfl
      have e4 := H1.v.cell (i := 4) rfl
      have e5 := H1.v.cell (i := 5) rfl
      go_wp2_with fail
      refine (Giv.specHears h.g m.pl m.lm m.dn _ hs.gb).mono ?_
      rintro e s2 ⟨rfl, b9⟩
      rw [E7.out]
      generalize (Giv.hearsG h.g m.pl m.lm m.dn).2 = yb
      clear c0 c2 c5 c6 e0 e1 e2 e3 e4 e5 VL
      have BN := BN.trans (b9.mono BN.size)
      have H1 := H1.later b9
      have H2 := H2.later b9
      clear b9
      have bG : Below s2.heap.size s2 (s2.alloc (.cells #[.int .i64 xg.ba, .string xg.bs, .int .i64 xg.cp, .int .i64 xg.lm, .bool xg.en, .bool xg.dn] 25)) := (Below.refl _ _).alloc (Nat.le_refl _) _
      have VG : RowG.Var 25 (s2.alloc (.cells #[.int .i64 xg.ba, .string xg.bs, .int .i64 xg.cp, .int .i64 xg.lm, .bool xg.en, .bool xg.dn] 25)) s2.heap.size [.int .i64 xg.ba, .string xg.bs, .int .i64 xg.cp, .int .i64 xg.lm, .bool xg.en, .bool xg.dn] := RowG.Var.new s2 _
      have BN := BN.trans (bG.mono BN.size)
      have H1 := H1.later bG
      have H2 := H2.later bG
      clear bG
      obtain ⟨f0, f1, f2, f3, f4, f5, f6, f7, f8, f9, f10, f11, f12⟩ := H2.v.c13
      go_wp2_with fail
      clear f0 f1 f2 f3 f4 f5 f6 f7 f8 f9 f10 f11 f12
      generalize s2.alloc (.cells #[.int .i64 xg.ba, .string xg.bs, .int .i64 xg.cp, .int .i64 xg.lm, .bool xg.en, .bool xg.dn] 25) = s5 at *
      generalize s2.heap.size = kg at *
      refine (Hop.implHopOk ⟨xg, h.t, xw⟩ aT2 cT2 aW2 cW2 _ H2.t H2.l (Hop.sm_ok HXO.out)).mono ?_
      rintro e s3 ⟨rfl, b9⟩
      rw [HXO.out]
      have BN := BN.trans (b9.mono BN.size)
      have H1 := H1.later b9
      have H2 := H2.later b9
      have VG := VG.later b9
      clear b9
      obtain ⟨f0, f1, f2, f3, f4, f5, f6, f7, f8, f9, f10, f11, f12⟩ := H2.v.c13
      obtain ⟨e0, e1, e2, e3, e4, e5, e6, e7, e8, e9, e10, e11, e12⟩ := H1.v.c13
      obtain ⟨g0, g1, g2, g3, g4, g5⟩ := VG.c6
      go_wp2_with fail
      refine (Tak.likeTaker h.t.nx h.t.bs aT2 aT1 h.t.l.length h.t.l.length cT2 cT1 h.t.cp h.t.fi h.t.en h.t.l _ rfl rfl H2.t H1.t (by have := hs.tl; omega)).mono ?_
      rintro e s4 ⟨rfl, b9⟩
      go_wp2_with fail
      go_ret
      exact ⟨rfl, BN.trans (b9.mono BN.size)⟩
    case false =>
      obtain ⟨e7, e8⟩ := HFO.out hmb
      subst e7
      rw [hmb] at VL
      have E8 : Hid ((Tak.takes ⟨h.t.nx, h.t.bs, h.t.l, h.t.cp, h.t.fi, h.t.en⟩ m.pl m.bs m.en).1 = xt) := e8.symm
      clear e8 hmb HBK HFO
      have c0 := VL.cell (i := 0) rfl
      have c2 := VL.cell (i := 2) rfl
      have c3 := VL.cell (i := 3) rfl
      have c4 := VL.cell (i := 4) rfl
      have e6 := H1.v.cell (i := 6) rfl
      have e7 := H1.v.cell (i := 7) rfl
      have e8 := H1.v.cell (i := 8) rfl
      have e9 := H1.v.cell (i := 9) rfl
      have e10 := H1.v.cell (i := 10) rfl
      have e11 := H1.v.cell (i := 11) rfl
      go_wp2_with fail
      refine (Tak.specTakes h.t.nx h.t.bs aT1 h.t.l.length cT1 h.t.cp h.t.fi h.t.en h.t.l m.pl m.bs m.en _ rfl H1.t hs.tl hs.tb hs.bd nT1 (by have := HLX.out.1; omega) (by have := HLX.out.2; omega)).mono ?_
      rintro e s2 ⟨a5, c5, rfl, o5, b9⟩
      rw [E8.out] at o5 ⊢
      generalize (Tak.takes ⟨h.t.nx, h.t.bs, h.t.l, h.t.cp, h.t.fi, h.t.en⟩ m.pl m.bs m.en).2 = yb
      dsimp only [Tak.Tk.v]
      have L5 := o5.lies
      clear o5 c0 c2 c3 c4 e6 e7 e8 e9 e10 e11 VL
      have BN := BN.trans (b9.mono BN.size)
      have H1 := H1.later b9
      have H2 := H2.later b9
      clear b9
      have bG : Below s2.heap.size s2 (s2.alloc (.cells #[.int .i64 xt.nx, .string xt.bs, .slice a5 xt.l.length c5, .int .i64 xt.cp, .int .i64 xt.fi, .bool xt.en] 28)) := (Below.refl _ _).alloc (Nat.le_refl _) _
      have VG : RowG.Var 28 (s2.alloc (.cells #[.int .i64 xt.nx, .string xt.bs, .slice a5 xt.l.length c5, .int .i64 xt.cp, .int .i64 xt.fi, .bool xt.en] 28)) s2.heap.size [.int .i64 xt.nx, .string xt.bs, .slice a5 xt.l.length c5, .int .i64 xt.cp, .int .i64 xt.fi, .bool xt.en] := RowG.Var.new s2 _
      have BN := BN.trans (bG.mono BN.size)
      have H1 := H1.later bG
      have H2 := H2.later bG
      have L5 := L5.later bG
      clear bG
      obtain ⟨f0, f1, f2, f3, f4, f5, f6, f7, f8, f9, f10, f11, f12⟩ := H2.v.c13
      go_wp2_with fail
      clear f0 f1 f2 f3 f4 f5 f6 f7 f8 f9 f10 f11 f12
      generalize s2.alloc (.cells #[.int .i64 xt.nx, .string xt.bs, .slice a5 xt.l.length c5, .int .i64 xt.cp, .int .i64 xt.fi, .bool xt.en] 28) = s5 at *
      generalize s2.heap.size = kg at *
      refine (Hop.implHopOk ⟨h.g, xt, xw⟩ aT2 cT2 aW2 cW2 _ H2.t H2.l (Hop.sm_ok HXO.out)).mono ?_
      rintro e s3 ⟨rfl, b9⟩
      rw [HXO.out]
      have BN := BN.trans (b9.mono BN.size)
      have H1 := H1.later b9
      have H2 := H2.later b9
      have VG := VG.later b9
      have L5 := L5.later b9
      clear b9
      obtain ⟨f0, f1, f2, f3, f4, f5, f6, f7, f8, f9, f10, f11, f12⟩ := H2.v.c13
      obtain ⟨e0, e1, e2, e3, e4, e5, e6, e7, e8, e9, e10, e11, e12⟩ := H1.v.c13
      obtain ⟨g0, g1, g2, g3, g4, g5⟩ := VG.c6
      go_wp2_with fail
      refine (Tak.likeTaker xt.nx xt.bs aT2 a5 xt.l.length xt.l.length cT2 c5 xt.cp xt.fi xt.en xt.l _ rfl rfl H2.t L5 (Nat.le_trans (Hop.sm_ok HXO.out).tl (by decide))).mono ?_
      rintro e s4 ⟨rfl, b9⟩
      go_wp2_with fail
      go_ret
      exact ⟨rfl, BN.trans (b9.mono BN.size)⟩
  case neg =>
    obtain ⟨j0, j1, j2⟩ : ((0 : Int) ≤ (h.ws.length : Int)) ∧ ((xw.length : Int) = (h.ws.length : Int) - 1) ∧ IntKind.i64.wrap ((h.ws.length : Int) - 1) = (h.ws.length : Int) - 1 := ⟨by omega, by have := HXL.out; omega, by rw [IntKind.wrap_i64]; omega⟩
    have hdc : decide (h.ws.length = 30) = false := decide_eq_false z
    have hd3 : ((h.ws.length : Int) == 30) = false := by rw [beq_eq_false_iff_ne]; omega
    have hdw := HDW.out z
    have HE : Hid _ := hdw
    have j3 : (h.ws.length : Int) < (dw.length : Int) := by rw [hdw]; simp; omega
    have hdk : dw[h.ws.length]? = some m := by rw [hdw]; simp
    have hdt : dw.take h.ws.length = h.ws := by rw [hdw]; simp
    obtain ⟨b4, off4, hab⟩ : ∃ b off, aW4 = some ⟨b, off, none⟩ := by
      rcases H4.l with hz | ⟨b, off, ha, _⟩
      · rw [show dw = [] from hz] at hdk; simp at hdk
      · exact ⟨b, off, ha⟩
    subst hab
    have hc4 : h.ws.length < cW4 := by have := CP4.out; have e : dw.length ≤ cW4 := this; omega
    have LD : RowG.El.Lies Hop.letE s0 (some ⟨b4, off4, none⟩) h.ws := by
      have := RowG.El.Lies.take H4.l h.ws.length
      rw [show (⟨h.g, h.t, dw⟩ : Hop.Hp).ws = dw from rfl, hdt] at this
      exact this
    have hsl : ∀ w', (Instr.sliceAt 29 (.slice (some ⟨b4, off4, none⟩) dw.length cW4) none (some (.int .i64 (h.ws.length : Int))) none).run Tryz.prog w' = .ok (.slice (some ⟨b4, off4, none⟩) h.ws.length cW4) w' := fun w' => by
      have := RowG.run_upto Hop.typ w' (some ⟨b4, off4, none⟩) dw.length cW4 .i64 h.ws.length (by omega)
      rw [if_neg (by omega : ¬ cW4 = 0)] at this
      simpa [Addr.add] using this
    obtain ⟨t0, t1, t2, t3, t4, t5, t6⟩ := Hop.let_cells H4.l hdk
    replace t0 := Draw.Later.cell t0
    replace t1 := Draw.Later.cell t1
    replace t2 := Draw.Later.cell t2
    replace t3 := Draw.Later.cell t3
    replace t4 := Draw.Later.cell t4
    replace t5 := Draw.Later.cell t5
    replace t6 := Draw.Later.cell t6
    have hL1 : ∀ p' : Draw.Later s0, RowG.El.Lies Hop.letE p'.v aW2 xw := fun p' => (H2.later p'.h).l
    have hL2 : ∀ p' : Draw.Later s0, RowG.El.Lies Hop.letE p'.v aW3 xw := fun p' => (H3.later p'.h).l
    have hL3 : ∀ p' : Draw.Later s0, RowG.El.Lies Hop.letE p'.v (some ⟨b4, off4, none⟩) h.ws := fun p' => LD.later p'.h
    have hL4 : ∀ p' : Draw.Later s0, RowG.El.Lies Hop.letE p'.v (some ⟨b, off, none⟩) h.ws := fun p' => (H1.later p'.h).l
    have hL5 : xw.length ≤ 2097152 := by have := HXL.out; omega
    have hL6 : h.ws.length ≤ 2097152 := by omega
    have e0 := Draw.Later.cell (H1.v.cell (i := 0) rfl)
    have e1 := Draw.Later.cell (H1.v.cell (i := 1) rfl)
    have e2 := Draw.Later.cell (H1.v.cell (i := 2) rfl)
    have e3 := Draw.Later.cell (H1.v.cell (i := 3) rfl)
    have e4 := Draw.Later.cell (H1.v.cell (i := 4) rfl)
    have e5 := Draw.Later.cell (H1.v.cell (i := 5) rfl)
    have e12 := Draw.Later.cell (H1.v.cell (i := 12) rfl)
    have f12 := Draw.Later.cell (H2.v.cell (i := 12) rfl)
    have g0 := Draw.Later.cell (H3.v.cell (i := 0) rfl)
    have g1 := Draw.Later.cell (H3.v.cell (i := 1) rfl)
    have g2 := Draw.Later.cell (H3.v.cell (i := 2) rfl)
    have g3 := Draw.Later.cell (H3.v.cell (i := 3) rfl)
    have g4 := Draw.Later.cell (H3.v.cell (i := 4) rfl)
    have g5 := Draw.Later.cell (H3.v.cell (i := 5) rfl)
    have g12 := Draw.Later.cell (H3.v.cell (i := 12) rfl)
    have d12 := Draw.Later.cell (H4.v.cell (i := 12) rfl)
    have c0 := Draw.Later.cell (VL.cell (i := 0) rfl)
    have c1 := Draw.Later.cell (VL.cell (i := 1) rfl)
    have c2 := Draw.Later.cell (VL.cell (i := 2) rfl)
    have c3 := Draw.Later.cell (VL.cell (i := 3) rfl)
    have c4 := Draw.Later.cell (VL.cell (i := 4) rfl)
    have c5 := Draw.Later.cell (VL.cell (i := 5) rfl)
    have c6 := Draw.Later.cell (VL.cell (i := 6) rfl)
    rw [hdc]
    try simp only [Bool.not_true, Bool.not_false]
    refine Draw.wp_region_later hmix (by kernel_rfl) ?_
    repeat (go_big_quiet_step ((go_at_call 14; refine Draw.later_of (Hop.likeWay _ _ _ _ _ _ _ _ rfl rfl ?_ ?_ ?_) <;> first | exact hL5 | exact hL6 | exact hL1 _ | exact hL2 _ | exact hL3 _ | exact hL4 _)))
    refine wpQuiet_nil ?_
    intro s1 hw'
    obtain ⟨q8, hq8⟩ := hw'
    have b8 := q8.h
    rw [← hq8] at b8
    clear hq8 q8 hL1 hL2 hL3 hL4 hL5 hL6 t0 t1 t2 t3 t4 t5 t6 hsl LD hdk hdt hdw j3 e0 e1 e2 e3 e4 e5 e12 f12 g0 g1 g2 g3 g4 g5 g12 d12 c0 c1 c2 c3 c4 c5 c6
    have BN := BN.trans (b8.mono BN.size)
    have H1 := H1.later b8
    have H2 := H2.later b8
    have VL := VL.later b8
    clear b8 H3 H4 HDW j0 j1 j2 i0 i1 hdc hd3
    clear HE hc4
    as_aux_lemma =>
    cases hmb : m.bk
    case true =>
      obtain ⟨e7, e8⟩ := HBK.out hmb
      subst e8
      rw [hmb] at VL
      have E7 : Hid _ := e7.symm
      clear e7 hmb HBK HFO
      have c0 := VL.cell (i := 0) rfl
      have c2 := VL.cell (i := 2) rfl
      have c5 := VL.cell (i := 5) rfl
      have c6 := VL.cell (i := 6) rfl
      have e0 := H1.v.cell (i := 0) rfl
      have e1 := H1.v.cell (i := 1) rfl
      have e2 := H1.v.cell (i := 2) rfl
      have e3 := H1.v.cell (i := 3) rfl
      have e4 := H1.v.cell (i := 4) rfl
      have e5 := H1.v.cell (i := 5) rfl
      go_wp2_with fail
      refine (Giv.specHears h.g m.pl m.lm m.dn _ hs.gb).mono ?_
      rintro e s2 ⟨rfl, b9⟩
      rw [E7.out]
      generalize (Giv.hearsG h.g m.pl m.lm m.dn).2 = yb
      clear c0 c2 c5 c6 e0 e1 e2 e3 e4 e5 VL
      have BN := BN.trans (b9.mono BN.size)
      have H1 := H1.later b9
      have H2 := H2.later b9
      clear b9
      have bG : Below s2.heap.size s2 (s2.alloc (.cells #[.int .i64 xg.ba, .string xg.bs, .int .i64 xg.cp, .int .i64 xg.lm, .bool xg.en, .bool xg.dn] 25)) := (Below.refl _ _).alloc (Nat.le_refl _) _
      have VG : RowG.Var 25 (s2.alloc (.cells #[.int .i64 xg.ba, .string xg.bs, .int .i64 xg.cp, .int .i64 xg.lm, .bool xg.en, .bool xg.dn] 25)) s2.heap.size [.int .i64 xg.ba, .string xg.bs, .int .i64 xg.cp, .int .i64 xg.lm, .bool xg.en, .bool xg.dn] := RowG.Var.new s2 _
      have BN := BN.trans (bG.mono BN.size)
      have H1 := H1.later bG
      have H2 := H2.later bG
      clear bG
      obtain ⟨f0, f1, f2, f3, f4, f5, f6, f7, f8, f9, f10, f11, f12⟩ := H2.v.c13
      go_wp2_with fail
      clear f0 f1 f2 f3 f4 f5 f6 f7 f8 f9 f10 f11 f12
      generalize s2.alloc (.cells #[.int .i64 xg.ba, .string xg.bs, .int .i64 xg.cp, .int .i64 xg.lm, .bool xg.en, .bool xg.dn] 25) = s5 at *
      generalize s2.heap.size = kg at *
      refine (Hop.implHopOk ⟨xg, h.t, xw⟩ aT2 cT2 aW2 cW2 _ H2.t H2.l (Hop.sm_ok HXO.out)).mono ?_
      rintro e s3 ⟨rfl, b9⟩
      rw [HXO.out]
      have BN := BN.trans (b9.mono BN.size)
      have H1 := H1.later b9
      have H2 := H2.later b9
      have VG := VG.later b9
      clear b9
      obtain ⟨f0, f1, f2, f3, f4, f5, f6, f7, f8, f9, f10, f11, f12⟩ := H2.v.c13
      obtain ⟨e0, e1, e2, e3, e4, e5, e6, e7, e8, e9, e10, e11, e12⟩ := H1.v.c13
      obtain ⟨g0, g1, g2, g3, g4, g5⟩ := VG.c6
      go_wp2_with fail
      refine (Tak.likeTaker h.t.nx h.t.bs aT2 aT1 h.t.l.length h.t.l.length cT2 cT1 h.t.cp h.t.fi h.t.en h.t.l _ rfl rfl H2.t H1.t (by have := hs.tl; omega)).mono ?_
      rintro e s4 ⟨rfl, b9⟩
      go_wp2_with fail
      go_ret
      exact ⟨rfl, BN.trans (b9.mono BN.size)⟩
    case false =>
      obtain ⟨e7, e8⟩ := HFO.out hmb
      subst e7
      rw [hmb] at VL
      have E8 : Hid ((Tak.takes ⟨h.t.nx, h.t.bs, h.t.l, h.t.cp, h.t.fi, h.t.en⟩ m.pl m.bs m.en).1 = xt) := e8.symm
      clear e8 hmb HBK HFO
      have c0 := VL.cell (i := 0) rfl
      have c2 := VL.cell (i := 2) rfl
      have c3 := VL.cell (i := 3) rfl
      have c4 := VL.cell (i := 4) rfl
      have e6 := H1.v.cell (i := 6) rfl
      have e7 := H1.v.cell (i := 7) rfl
      have e8 := H1.v.cell (i := 8) rfl
      have e9 := H1.v.cell (i := 9) rfl
      have e10 := H1.v.cell (i := 10) rfl
      have e11 := H1.v.cell (i := 11) rfl
      go_wp2_with fail
      refine (Tak.specTakes h.t.nx h.t.bs aT1 h.t.l.length cT1 h.t.cp h.t.fi h.t.en h.t.l m.pl m.bs m.en _ rfl H1.t hs.tl hs.tb hs.bd nT1 (by have := HLX.out.1; omega) (by have := HLX.out.2; omega)).mono ?_
      rintro e s2 ⟨a5, c5, rfl, o5, b9⟩
      rw [E8.out] at o5 ⊢
      generalize (Tak.takes ⟨h.t.nx, h.t.bs, h.t.l, h.t.cp, h.t.fi, h.t.en⟩ m.pl m.bs m.en).2 = yb
      dsimp only [Tak.Tk.v]
      have L5 := o5.lies
      clear o5 c0 c2 c3 c4 e6 e7 e8 e9 e10 e11 VL
      have BN := BN.trans (b9.mono BN.size)
      have H1 := H1.later b9
      have H2 := H2.later b9
      clear b9
      have bG : Below s2.heap.size s2 (s2.alloc (.cells #[.int .i64 xt.nx, .string xt.bs, .slice a5 xt.l.length c5, .int .i64 xt.cp, .int .i64 xt.fi, .bool xt.en] 28)) := (Below.refl _ _).alloc (Nat.le_refl _) _
      have VG : RowG.Var 28 (s2.alloc (.cells #[.int .i64 xt.nx, .string xt.bs, .slice a5 xt.l.length c5, .int .i64 xt.cp, .int .i64 xt.fi, .bool xt.en] 28)) s2.heap.size [.int .i64 xt.nx, .string xt.bs, .slice a5 xt.l.length c5, .int .i64 xt.cp, .int .i64 xt.fi, .bool xt.en] := RowG.Var.new s2 _
      have BN := BN.trans (bG.mono BN.size)
      have H1 := H1.later bG
      have H2 := H2.later bG
      have L5 := L5.later bG
      clear bG
      obtain ⟨f0, f1, f2, f3, f4, f5, f6, f7, f8, f9, f10, f11, f12⟩ := H2.v.c13
      go_wp2_with fail
      clear f0 f1 f2 f3 f4 f5 f6 f7 f8 f9 f10 f11 f12
      generalize s2.alloc (.cells #[.int .i64 xt.nx, .string xt.bs, .slice a5 xt.l.length c5, .int .i64 xt.cp, .int .i64 xt.fi, .bool xt.en] 28) = s5 at *
      generalize s2.heap.size = kg at *
      refine (Hop.implHopOk ⟨h.g, xt, xw⟩ aT2 cT2 aW2 cW2 _ H2.t H2.l (Hop.sm_ok HXO.out)).mono ?_
      rintro e s3 ⟨rfl, b9⟩
      rw [HXO.out]
      have BN := BN.trans (b9.mono BN.size)
      have H1 := H1.later b9
      have H2 := H2.later b9
      have VG := VG.later b9
      have L5 := L5.later b9
      clear b9
      obtain ⟨f0, f1, f2, f3, f4, f5, f6, f7, f8, f9, f10, f11, f12⟩ := H2.v.c13
      obtain ⟨e0, e1, e2, e3, e4, e5, e6, e7, e8, e9, e10, e11, e12⟩ := H1.v.c13
      obtain ⟨g0, g1, g2, g3, g4, g5⟩ := VG.c6
      go_wp2_with fail
      refine (Tak.likeTaker xt.nx xt.bs aT2 a5 xt.l.length xt.l.length cT2 c5 xt.cp xt.fi xt.en xt.l _ rfl rfl H2.t L5 (Nat.le_trans (Hop.sm_ok HXO.out).tl (by decide))).mono ?_
      rintro e s4 ⟨rfl, b9⟩
      go_wp2_with fail
      go_ret
      exact ⟨rfl, BN.trans (b9.mono BN.size)⟩

/-! ### THE ROW's STEP: WRITTEN OUT: LEAVE IT -/
set_option maxRecDepth 100000 in
theorem lifted (os : Os) (started : os.Started) (H : Type) (enc : TypeId × Value → H) :
    ReturnsInHanded {} Tryz.checked os 3 .any (Rows.fnArrivesSpec.pre6 enc Tryz.prog Tryz.f3 Rows.fnArrivesRow.domain false) (Rows.fnArrivesSpec.post enc Tryz.prog Tryz.f3 false true false false) := by
  refine returnsInHanded_of_change (C := Tryz.checked) own started (by kernel_rfl) Tryz.func3
    (ChangeSpec.witness6 (enc := enc) (C := Tryz.checked) false ⟨#[], #[.slice none 0 0], []⟩ 8 (by kernel_rfl) (by kernel_rfl) (by kernel_rfl) (by kernel_rfl)) ?_
  intro W base args ds gs before hval0 hW hcnd _
  have hval : ∀ (j : Nat) t v, Tryz.f3.params[j]? = some t → args[j]? = some v → Value.okWide Tryz.prog W .any base t v := hval0
  have hW' := hW
  obtain ⟨p, q, hA0, hV, rfl, hfz, hnd⟩ := hW
  have hA : DataW.TrodAll enc Tryz.prog W 0 (fun _ => true) true Tryz.f3.params.toList args.toList ds p := hA0
  rw [Tryz.params3] at hA hval
  obtain ⟨v0, vs0, d0, ds0, p0, q0, hargs, rfl, rfl, h0, r0⟩ := trodAll_cons hA
  obtain ⟨rfl, rfl, rfl⟩ := trodAll_nil r0
  obtain rfl : args = #[v0] := by cases args; simp_all
  obtain ⟨rfl, rfl⟩ := trodVars_none hV
  obtain ⟨a0, len0, cap0, rfl⟩ := okWide_slice Tryz.underlying22 (hval 0 22 v0 rfl rfl)
  have k0 := h0
  have lt0 : ∀ x ∈ p0, x.block < W.heap.size := by obtain ⟨m, hm⟩ := k0; exact DataW.trod_lt m _ _ _ hm
  obtain ⟨z0, w0⟩ : ∃ zs, IsRow .u8 W a0 len0 cap0 zs := by
    obtain ⟨fuel, hf⟩ := h0
    rcases open_ints Tryz.underlying22 Tryz.underlying5 (by kernel_rfl) hf with ⟨hcs, _⟩ | ⟨x, l, c, zs, hcs, _, hl, hm, hz, _, hcell, hwz⟩
    · simp [Value.cells] at hcs
      obtain ⟨rfl, rfl, rfl⟩ := hcs
      exact ⟨[], .inl ⟨rfl, rfl, rfl, rfl⟩⟩
    · simp [Value.cells] at hcs
      obtain ⟨rfl, rfl, rfl⟩ := hcs
      exact ⟨zs, .inr ⟨_, rfl, hl, hm, by simpa using hz, hcell, hwz⟩⟩
  clear hA0 hval0
  refine (walk a0 len0 cap0 z0 W w0).mono fun e W' ⟨he, bel⟩ => ?_
  subst he
  exact ⟨_, rfl, _, _, _, [], _, [], hW', trodAll_mk1 (shut_bool Tryz.underlying4 _), (trodAll_cons_mk (Below.trod laidOut (by kernel_rfl) (of_decide_eq_true (by kernel_rfl)) k0 bel lt0) trodAll_mk0), rfl, bel.frame _, fun h => by cases h⟩

theorem over : Rows.fnArrivesRow.holds Tryz.pinned (OpenSpec.ofChange Rows.fnArrivesSpec) :=
  OpenClaim.holds_of_wide 3 Tryz.f3 rfl rfl rfl rfl rfl rfl rfl ⟨rfl, rfl, rfl, rfl, rfl⟩ rfl rfl rfl rfl rfl (by kernel_rfl) Tryz.func3 (by kernel_rfl)
    (of_decide_eq_true (by kernel_rfl)) (by unfold Func.isWrapper; first | (rw [if_pos (by decide +kernel)]; kernel_rfl) | (rw [if_neg (by decide +kernel)]; exact ⟨rfl, rfl⟩))
    (fun os started H enc _ => lifted os started H enc)

theorem proved : Rows.FnArrivesSaid := over
end Go.Proofs.YtjnkjeajkmgcmaaGreat.fnArrives
namespace Go.Proofs.YtjnkjeajkmgcmaaGreat
theorem fnArrives_holds : Rows.FnArrivesSaid := fnArrives.proved
#print axioms fnArrives_holds
end Go.Proofs.YtjnkjeajkmgcmaaGreat
