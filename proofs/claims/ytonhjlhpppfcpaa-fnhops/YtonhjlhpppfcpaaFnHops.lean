/- For every code of bytes FnHops returns true: the program's Sends, Tells, NewHop and HopOk answer as the specification's; a hop stays right whatever is sent or told, and that is one letter more, of which it is told what was asked; no condition. (Its frame is the guide's shell; the walk is mine.) -/
import Derived.Test.YtonhjlhpppfcpaaRows
import Derived.Test.YtonhjlhpppfcpaaMg15
import Derived.Test.YtonhjlhpppfcpaaDrawN
import Derived.Test.YtonhjlhpppfcpaaMg13
import Derived.WalkKit
import Derived.ProofKit
import Derived.OpenShut
import Derived.ShutString
import Derived.ChangeOld
import Derived.Below
namespace Go.Proofs.Ytonhjlhpppfcpaa.fnHops
open Go.ChangeShapes Go.WideShapes Go.ChangeAt Go.RowKit
open Go.ChangeMaps (open_string shut_string)
set_option linter.unusedVariables false

theorem own : ownKnob Try.prog.godebug = none := by kernel_rfl
theorem laidOut : laidOutB Try.prog = true := by kernel_rfl

/-- WHAT THE WALK IS TOLD OF A SLICE OF INTEGERS THAT CAME IN: it is nil; or it leads to a row of 'cap' cells, the numbers 'zs' (the first 'len' are its elements, the rest its spare room), each fitting its kind. -/
def IsRow (k : IntKind) (w : World) (a : Option Addr) (len cap : Nat) (zs : List Int) : Prop :=
  (a = none ∧ len = 0 ∧ cap = 0 ∧ zs = []) ∨
  ∃ x, a = some x ∧ len ≤ cap ∧ cap ≤ maxLen ∧ zs.length = cap ∧ (∀ i, i < zs.length → w.cell? (x.add i) = some (.int k (zs.getD i 0))) ∧ ∀ n ∈ zs, (Lit.int k n).wf = true

/-! ### STEP 1: THE WALK: the Go text returns true, AND WRITES NOTHING THAT WAS THERE: 'Below w.heap.size w w'' (Derived/Below.lean: '.refl', '.alloc', '.drew', '.setCell' at a new block, '.trans'). Open each 'IsRow' by 'rcases' AHEAD of 'go_enter'; part every test ahead of the walk. -/
set_option linter.unusedSimpArgs false in
set_option maxRecDepth 20000 in
set_option maxHeartbeats 4000000 in
theorem walk (a0 : Option Addr) (len0 cap0 : Nat) (z0 : List Int) (w : World) (w0 : IsRow .u8 w a0 len0 cap0 z0) :
    Calls Try.prog 3 #[.slice a0 len0 cap0] w fun e w' => e = .returned (.bool true) ∧ Below w.heap.size w w' := by
  obtain ⟨hb, hm⟩ := Draw.bytes_of_row w0
  clear w0
  by_cases hl : len0 ≤ 4096
  case neg =>
    have hd : decide (4096 < (len0 : Int)) = true := by simp; omega
    go_enter Try.func3, Try.ntmps3
    go_wp2_with fail
    refine (Draw.big _ _ _ _ hm).mono ?_
    rintro e w1 ⟨rfl, rfl⟩
    go_wp2_with fail
    go_ret
    exact ⟨rfl, Below.refl _ _⟩
  have hd : decide (4096 < (len0 : Int)) = false := by simp; omega
  have hmix := Hop.mix
  go_enter Try.func3, Try.ntmps3
  go_wp2_with fail
  refine (Draw.big _ _ _ _ hm).mono ?_
  rintro e w1 ⟨rfl, rfl⟩
  clear hd
  go_wp2_with fail
  refine (Hop.drawSends _ _ _ _ hb hl).mono ?_
  rintro x w1 ⟨h, aT1, cT1, aW1, cW1, r, p, n, hs, hwl, rfl, oT1, oW1, BN⟩
  have nT1 := oT1.none_cap
  have nW1 := oW1.none_cap
  have H1 := Hop.HV.new oT1 oW1
  have bA : Below w1.heap.size w1 (w1.alloc (.cells #[.int .i64 h.g.ba, .string h.g.bs, .int .i64 h.g.cp, .int .i64 h.g.lm, .bool h.g.en, .bool h.g.dn, .int .i64 h.t.nx, .string h.t.bs, .slice aT1 h.t.l.length cT1, .int .i64 h.t.cp, .int .i64 h.t.fi, .bool h.t.en, .slice aW1 h.ws.length cW1] 31)) := (Below.refl _ _).alloc (Nat.le_refl _) _
  have BN := BN.trans (bA.mono BN.size)
  clear bA oT1 oW1
  go_wp2_with fail
  generalize w1.alloc (.cells (Hop.Hp.c h aT1 cT1 aW1 cW1).toArray 31) = wA1 at *
  refine (Hop.implSends h aT1 cT1 aW1 cW1 r p n _ H1.t H1.l nT1 nW1 hs).mono ?_
  rintro x w2 ⟨aT2, cT2, aW2, cW2, rfl, oT2, oW2, b2⟩
  have BN := BN.trans (b2.mono BN.size)
  have H1 := H1.later b2
  clear b2
  have SL : Hid _ := Hop.sends_len hs r p n
  have SN : Hid _ := Hop.sends_no (h := h) (road := r) (p := p) (n := n)
  have SY : Hid _ := Hop.sends_yes (h := h) (road := r) (p := p) (n := n)
  generalize hS : Hop.sendsH h r p n = S at *
  have KS : Hid _ := hS
  clear hS
  obtain ⟨X, is⟩ := S
  dsimp only at oT2 oW2
  dsimp only
  have nT2 := oT2.none_cap
  have nW2 := oW2.none_cap
  have H2 := Hop.HV.new oT2 oW2
  have bA : Below w2.heap.size w2 (w2.alloc (.cells #[.int .i64 X.g.ba, .string X.g.bs, .int .i64 X.g.cp, .int .i64 X.g.lm, .bool X.g.en, .bool X.g.dn, .int .i64 X.t.nx, .string X.t.bs, .slice aT2 X.t.l.length cT2, .int .i64 X.t.cp, .int .i64 X.t.fi, .bool X.t.en, .slice aW2 X.ws.length cW2] 31)) := (Below.refl _ _).alloc (Nat.le_refl _) _
  have BN := BN.trans (bA.mono BN.size)
  have H1 := H1.later bA
  clear bA oT2 oW2
  go_wp2_with fail
  generalize w2.alloc (.cells (Hop.Hp.c X aT2 cT2 aW2 cW2).toArray 31) = wA2 at *
  have hb2 := Draw.Bytes.below hb BN (Nat.le_refl _)
  refine (Hop.drawTells _ _ _ _ hb2 hl).mono ?_
  rintro x w3 ⟨q, aT3, cT3, aW3, cW3, r2, dn, hs3, hwl3, rfl, oT3, oW3, b3⟩
  have BN := BN.trans (b3.mono BN.size)
  have H1 := H1.later b3
  have H2 := H2.later b3
  clear b3 hb2
  have nT3 := oT3.none_cap
  have nW3 := oW3.none_cap
  have H3 := Hop.HV.new oT3 oW3
  have bA : Below w3.heap.size w3 (w3.alloc (.cells #[.int .i64 q.g.ba, .string q.g.bs, .int .i64 q.g.cp, .int .i64 q.g.lm, .bool q.g.en, .bool q.g.dn, .int .i64 q.t.nx, .string q.t.bs, .slice aT3 q.t.l.length cT3, .int .i64 q.t.cp, .int .i64 q.t.fi, .bool q.t.en, .slice aW3 q.ws.length cW3] 31)) := (Below.refl _ _).alloc (Nat.le_refl _) _
  have BN := BN.trans (bA.mono BN.size)
  have H1 := H1.later bA
  have H2 := H2.later bA
  clear bA oT3 oW3
  go_wp2_with fail
  generalize w3.alloc (.cells (Hop.Hp.c q aT3 cT3 aW3 cW3).toArray 31) = wA3 at *
  as_aux_lemma =>
  refine (Hop.implTells q aT3 cT3 aW3 cW3 r2 dn _ H3.t H3.l nT3 nW3 hs3).mono ?_
  rintro x w4 ⟨aT4, cT4, aW4, cW4, rfl, oT4, oW4, b4⟩
  have BN := BN.trans (b4.mono BN.size)
  have H1 := H1.later b4
  have H2 := H2.later b4
  have H3 := H3.later b4
  clear b4
  have TL : Hid _ := Hop.tells_len hs3 r2 dn
  have TYY : Hid _ := Hop.tells_yes (h := q) (road := r2) (done := dn)
  generalize hS : Hop.tellsH q r2 dn = S at *
  have KT : Hid _ := hS
  clear hS
  obtain ⟨Y, told⟩ := S
  dsimp only at oT4 oW4
  dsimp only
  have nT4 := oT4.none_cap
  have nW4 := oW4.none_cap
  have H4 := Hop.HV.new oT4 oW4
  have bA : Below w4.heap.size w4 (w4.alloc (.cells #[.int .i64 Y.g.ba, .string Y.g.bs, .int .i64 Y.g.cp, .int .i64 Y.g.lm, .bool Y.g.en, .bool Y.g.dn, .int .i64 Y.t.nx, .string Y.t.bs, .slice aT4 Y.t.l.length cT4, .int .i64 Y.t.cp, .int .i64 Y.t.fi, .bool Y.t.en, .slice aW4 Y.ws.length cW4] 31)) := (Below.refl _ _).alloc (Nat.le_refl _) _
  have BN := BN.trans (bA.mono BN.size)
  have H1 := H1.later bA
  have H2 := H2.later bA
  have H3 := H3.later bA
  clear bA oT4 oW4
  go_wp2_with fail
  generalize w4.alloc (.cells (Hop.Hp.c Y aT4 cT4 aW4 cW4).toArray 31) = wA4 at *
  have hb4 := Draw.Bytes.below hb BN (Nat.le_refl _)
  refine (Hop.drawNewHop _ _ _ _ hb4 hl).mono ?_
  rintro x w5 ⟨ca, cb, rfl, b5⟩
  have BN := BN.trans (b5.mono BN.size)
  have H1 := H1.later b5
  have H2 := H2.later b5
  have H3 := H3.later b5
  have H4 := H4.later b5
  clear b5 hb4 hb hm hl
  go_wp2_with fail
  as_aux_lemma =>
  refine (Hop.implNewHop ca cb _).mono ?_
  rintro x w6 ⟨rfl, b6⟩
  have BN := BN.trans (b6.mono BN.size)
  have H1 := H1.later b6
  have H2 := H2.later b6
  have H3 := H3.later b6
  have H4 := H4.later b6
  clear b6
  have NO : Hid _ := Hop.nH_ok (a := ca) (b := cb)
  generalize hS : Hop.newH ca cb = S at *
  have KN : Hid _ := hS
  clear hS
  obtain ⟨m1, m2, m3, made⟩ := S
  dsimp only [Hop.hopV]
  have H5 : Hop.HV (w6.alloc (.cells #[.int .i64 0, .string ⟨#[]⟩, .int .i64 m1, .int .i64 0, .bool false, .bool false, .int .i64 0, .string ⟨#[]⟩, .slice none 0 0, .int .i64 m2, .int .i64 m3, .bool false, .slice none 0 0] 31)) w6.heap.size (Hop.nH m1 m2 m3) none 0 none 0 := Hop.HV.new0 (w := w6) (h := Hop.nH m1 m2 m3) rfl rfl none 0 none 0
  have bA : Below w6.heap.size w6 (w6.alloc (.cells #[.int .i64 0, .string ⟨#[]⟩, .int .i64 m1, .int .i64 0, .bool false, .bool false, .int .i64 0, .string ⟨#[]⟩, .slice none 0 0, .int .i64 m2, .int .i64 m3, .bool false, .slice none 0 0] 31)) := (Below.refl _ _).alloc (Nat.le_refl _) _
  have BN := BN.trans (bA.mono BN.size)
  have H1 := H1.later bA
  have H2 := H2.later bA
  have H3 := H3.later bA
  have H4 := H4.later bA
  clear bA
  have e0 := H1.v.cell (i := 0) rfl
  have e1 := H1.v.cell (i := 1) rfl
  have e2 := H1.v.cell (i := 2) rfl
  have e3 := H1.v.cell (i := 3) rfl
  have e4 := H1.v.cell (i := 4) rfl
  have e5 := H1.v.cell (i := 5) rfl
  have e6 := H1.v.cell (i := 6) rfl
  have e7 := H1.v.cell (i := 7) rfl
  have e8 := H1.v.cell (i := 8) rfl
  have e9 := H1.v.cell (i := 9) rfl
  have e10 := H1.v.cell (i := 10) rfl
  have e11 := H1.v.cell (i := 11) rfl
  have e12 := H1.v.cell (i := 12) rfl
  go_wp2_with fail
  clear e0 e1 e2 e3 e4 e5 e6 e7 e8 e9 e10 e11 e12
  generalize w6.alloc (.cells #[.int .i64 0, .string ⟨#[]⟩, .int .i64 m1, .int .i64 0, .bool false, .bool false, .int .i64 0, .string ⟨#[]⟩, .slice none 0 0, .int .i64 m2, .int .i64 m3, .bool false, .slice none 0 0] 31) = wA5 at *
  as_aux_lemma =>
  refine (Hop.specSends h aT1 cT1 aW1 cW1 r p n _ H1.t H1.l nT1 nW1 hs).mono ?_
  rintro x w7 ⟨aT6, cT6, aW6, cW6, rfl, oT6, oW6, b7⟩
  rw [KS.out] at oT6 oW6 ⊢
  (try dsimp only at oT6 oW6)
  dsimp only
  have BN := BN.trans (b7.mono BN.size)
  have H1 := H1.later b7
  have H2 := H2.later b7
  have H3 := H3.later b7
  have H4 := H4.later b7
  have H5 := H5.later b7
  clear b7
  have nT6 := oT6.none_cap
  have nW6 := oW6.none_cap
  have H6 := Hop.HV.new oT6 oW6
  have bA : Below w7.heap.size w7 (w7.alloc (.cells #[.int .i64 X.g.ba, .string X.g.bs, .int .i64 X.g.cp, .int .i64 X.g.lm, .bool X.g.en, .bool X.g.dn, .int .i64 X.t.nx, .string X.t.bs, .slice aT6 X.t.l.length cT6, .int .i64 X.t.cp, .int .i64 X.t.fi, .bool X.t.en, .slice aW6 X.ws.length cW6] 31)) := (Below.refl _ _).alloc (Nat.le_refl _) _
  have BN := BN.trans (bA.mono BN.size)
  have H1 := H1.later bA
  have H2 := H2.later bA
  have H3 := H3.later bA
  have H4 := H4.later bA
  have H5 := H5.later bA
  clear bA oT6 oW6
  go_wp2_with fail
  generalize w7.alloc (.cells (Hop.Hp.c X aT6 cT6 aW6 cW6).toArray 31) = wA6 at *
  as_aux_lemma =>
  have hii : (is == is) = true := by simp
  have sl1 := SL.out.1
  have sl2 := SL.out.2
  (try dsimp only at sl1 sl2)
  have SL1 : Hid _ := sl1
  have SL2 : Hid _ := sl2
  clear sl1 sl2
  have hLK := fun (p' : Draw.Later wA6) => Hop.likeHop X aT2 aT6 cT2 cT6 aW2 aW6 cW2 cW6 p'.v (H2.later p'.h).t (H6.later p'.h).t (H2.later p'.h).l (H6.later p'.h).l SL1.out SL2.out
  have hHI := fun (p' : Draw.Later wA6) => Hop.implHopOk h aT1 cT1 aW1 cW1 p'.v (H1.later p'.h).t (H1.later p'.h).l hs
  have hHS := fun (p' : Draw.Later wA6) => Hop.specHopOk h aT1 cT1 aW1 cW1 p'.v (H1.later p'.h).t (H1.later p'.h).l hs
  generalize hH : Hop.hopB h = bh at *
  have KH : Hid _ := hH
  clear hH
  have hbh : (bh == bh) = true := by simp
  have e0 := Draw.Later.cell (H1.v.cell (i := 0) rfl)
  have e1 := Draw.Later.cell (H1.v.cell (i := 1) rfl)
  have e2 := Draw.Later.cell (H1.v.cell (i := 2) rfl)
  have e3 := Draw.Later.cell (H1.v.cell (i := 3) rfl)
  have e4 := Draw.Later.cell (H1.v.cell (i := 4) rfl)
  have e5 := Draw.Later.cell (H1.v.cell (i := 5) rfl)
  have e6 := Draw.Later.cell (H1.v.cell (i := 6) rfl)
  have e7 := Draw.Later.cell (H1.v.cell (i := 7) rfl)
  have e8 := Draw.Later.cell (H1.v.cell (i := 8) rfl)
  have e9 := Draw.Later.cell (H1.v.cell (i := 9) rfl)
  have e10 := Draw.Later.cell (H1.v.cell (i := 10) rfl)
  have e11 := Draw.Later.cell (H1.v.cell (i := 11) rfl)
  have e12 := Draw.Later.cell (H1.v.cell (i := 12) rfl)
  have f0 := Draw.Later.cell (H2.v.cell (i := 0) rfl)
  have f1 := Draw.Later.cell (H2.v.cell (i := 1) rfl)
  have f2 := Draw.Later.cell (H2.v.cell (i := 2) rfl)
  have f3 := Draw.Later.cell (H2.v.cell (i := 3) rfl)
  have f4 := Draw.Later.cell (H2.v.cell (i := 4) rfl)
  have f5 := Draw.Later.cell (H2.v.cell (i := 5) rfl)
  have f6 := Draw.Later.cell (H2.v.cell (i := 6) rfl)
  have f7 := Draw.Later.cell (H2.v.cell (i := 7) rfl)
  have f8 := Draw.Later.cell (H2.v.cell (i := 8) rfl)
  have f9 := Draw.Later.cell (H2.v.cell (i := 9) rfl)
  have f10 := Draw.Later.cell (H2.v.cell (i := 10) rfl)
  have f11 := Draw.Later.cell (H2.v.cell (i := 11) rfl)
  have f12 := Draw.Later.cell (H2.v.cell (i := 12) rfl)
  have g0 := Draw.Later.cell (H6.v.cell (i := 0) rfl)
  have g1 := Draw.Later.cell (H6.v.cell (i := 1) rfl)
  have g2 := Draw.Later.cell (H6.v.cell (i := 2) rfl)
  have g3 := Draw.Later.cell (H6.v.cell (i := 3) rfl)
  have g4 := Draw.Later.cell (H6.v.cell (i := 4) rfl)
  have g5 := Draw.Later.cell (H6.v.cell (i := 5) rfl)
  have g6 := Draw.Later.cell (H6.v.cell (i := 6) rfl)
  have g7 := Draw.Later.cell (H6.v.cell (i := 7) rfl)
  have g8 := Draw.Later.cell (H6.v.cell (i := 8) rfl)
  have g9 := Draw.Later.cell (H6.v.cell (i := 9) rfl)
  have g10 := Draw.Later.cell (H6.v.cell (i := 10) rfl)
  have g11 := Draw.Later.cell (H6.v.cell (i := 11) rfl)
  have g12 := Draw.Later.cell (H6.v.cell (i := 12) rfl)
  refine Draw.wp_region_later hmix (by kernel_rfl) ?_
  repeat (go_big_quiet_step (first | (go_at_call 13; exact Draw.later_of (hLK _)) | (go_at_call 14; exact Draw.later_of (hHI _)) | (go_at_call 15; exact Draw.later_of (hHS _))))
  refine wpQuiet_nil ?_
  intro w8 hw'
  obtain ⟨q8, hq8⟩ := hw'
  have b8 := q8.h
  rw [← hq8] at b8
  clear hq8 q8 hLK hHI hHS
  clear e0 e1 e2 e3 e4 e5 e6 e7 e8 e9 e10 e11 e12 f0 f1 f2 f3 f4 f5 f6 f7 f8 f9 f10 f11 f12 g0 g1 g2 g3 g4 g5 g6 g7 g8 g9 g10 g11 g12
  have BN := BN.trans (b8.mono BN.size)
  have H1 := H1.later b8
  have H2 := H2.later b8
  have H3 := H3.later b8
  have H4 := H4.later b8
  have H5 := H5.later b8
  clear b8 H6
  have e0 := H3.v.cell (i := 0) rfl
  have e1 := H3.v.cell (i := 1) rfl
  have e2 := H3.v.cell (i := 2) rfl
  have e3 := H3.v.cell (i := 3) rfl
  have e4 := H3.v.cell (i := 4) rfl
  have e5 := H3.v.cell (i := 5) rfl
  have e6 := H3.v.cell (i := 6) rfl
  have e7 := H3.v.cell (i := 7) rfl
  have e8 := H3.v.cell (i := 8) rfl
  have e9 := H3.v.cell (i := 9) rfl
  have e10 := H3.v.cell (i := 10) rfl
  have e11 := H3.v.cell (i := 11) rfl
  have e12 := H3.v.cell (i := 12) rfl
  go_wp2_with fail
  clear e0 e1 e2 e3 e4 e5 e6 e7 e8 e9 e10 e11 e12
  as_aux_lemma =>
  refine (Hop.specTells q aT3 cT3 aW3 cW3 r2 dn _ H3.t H3.l nT3 nW3 hs3).mono ?_
  rintro x w9 ⟨aT7, cT7, aW7, cW7, rfl, oT7, oW7, b9⟩
  rw [KT.out] at oT7 oW7 ⊢
  (try dsimp only at oT7 oW7)
  dsimp only
  have BN := BN.trans (b9.mono BN.size)
  have H1 := H1.later b9
  have H2 := H2.later b9
  have H3 := H3.later b9
  have H4 := H4.later b9
  have H5 := H5.later b9
  clear b9
  have htt : (told == told) = true := by simp
  have sl1 := TL.out.1
  have sl2 := TL.out.2
  (try dsimp only at sl1 sl2)
  have SL3 : Hid _ := sl1
  have SL4 : Hid _ := sl2
  clear sl1 sl2
  have nT7 := oT7.none_cap
  have nW7 := oW7.none_cap
  have H7 := Hop.HV.new oT7 oW7
  have bA : Below w9.heap.size w9 (w9.alloc (.cells #[.int .i64 Y.g.ba, .string Y.g.bs, .int .i64 Y.g.cp, .int .i64 Y.g.lm, .bool Y.g.en, .bool Y.g.dn, .int .i64 Y.t.nx, .string Y.t.bs, .slice aT7 Y.t.l.length cT7, .int .i64 Y.t.cp, .int .i64 Y.t.fi, .bool Y.t.en, .slice aW7 Y.ws.length cW7] 31)) := (Below.refl _ _).alloc (Nat.le_refl _) _
  have BN := BN.trans (bA.mono BN.size)
  have H1 := H1.later bA
  have H2 := H2.later bA
  have H3 := H3.later bA
  have H4 := H4.later bA
  have H5 := H5.later bA
  clear bA oT7 oW7
  have e0 := H4.v.cell (i := 0) rfl
  have e1 := H4.v.cell (i := 1) rfl
  have e2 := H4.v.cell (i := 2) rfl
  have e3 := H4.v.cell (i := 3) rfl
  have e4 := H4.v.cell (i := 4) rfl
  have e5 := H4.v.cell (i := 5) rfl
  have e6 := H4.v.cell (i := 6) rfl
  have e7 := H4.v.cell (i := 7) rfl
  have e8 := H4.v.cell (i := 8) rfl
  have e9 := H4.v.cell (i := 9) rfl
  have e10 := H4.v.cell (i := 10) rfl
  have e11 := H4.v.cell (i := 11) rfl
  have e12 := H4.v.cell (i := 12) rfl
  go_wp2_with fail
  clear e0 e1 e2 e3 e4 e5 e6 e7 e8 e9 e10 e11 e12
  generalize w9.alloc (.cells (Hop.Hp.c Y aT7 cT7 aW7 cW7).toArray 31) = wA7 at *
  as_aux_lemma =>
  refine (Hop.likeHop Y aT4 aT7 cT4 cT7 aW4 aW7 cW4 cW7 _ H4.t H7.t H4.l H7.l SL3.out SL4.out).mono ?_
  rintro x wB ⟨rfl, bB⟩
  have BN := BN.trans (bB.mono BN.size)
  have H1 := H1.later bB
  have H2 := H2.later bB
  have H3 := H3.later bB
  have H4 := H4.later bB
  have H5 := H5.later bB
  clear bB H7
  go_wp2_with fail
  as_aux_lemma =>
  refine (Hop.specNewHop ca cb _).mono ?_
  rintro x wC ⟨rfl, bC⟩
  rw [KN.out]
  dsimp only [Hop.hopV]
  have BN := BN.trans (bC.mono BN.size)
  have H1 := H1.later bC
  have H2 := H2.later bC
  have H3 := H3.later bC
  have H4 := H4.later bC
  have H5 := H5.later bC
  clear bC
  have hmm : (made == made) = true := by simp
  have H8 : Hop.HV (wC.alloc (.cells #[.int .i64 0, .string ⟨#[]⟩, .int .i64 m1, .int .i64 0, .bool false, .bool false, .int .i64 0, .string ⟨#[]⟩, .slice none 0 0, .int .i64 m2, .int .i64 m3, .bool false, .slice none 0 0] 31)) wC.heap.size (Hop.nH m1 m2 m3) none 0 none 0 := Hop.HV.new0 (w := wC) (h := Hop.nH m1 m2 m3) rfl rfl none 0 none 0
  have bA : Below wC.heap.size wC (wC.alloc (.cells #[.int .i64 0, .string ⟨#[]⟩, .int .i64 m1, .int .i64 0, .bool false, .bool false, .int .i64 0, .string ⟨#[]⟩, .slice none 0 0, .int .i64 m2, .int .i64 m3, .bool false, .slice none 0 0] 31)) := (Below.refl _ _).alloc (Nat.le_refl _) _
  have BN := BN.trans (bA.mono BN.size)
  have H1 := H1.later bA
  have H2 := H2.later bA
  have H3 := H3.later bA
  have H4 := H4.later bA
  have H5 := H5.later bA
  clear bA
  go_upto_region 16 with (fail)
  generalize wC.alloc (.cells #[.int .i64 0, .string ⟨#[]⟩, .int .i64 m1, .int .i64 0, .bool false, .bool false, .int .i64 0, .string ⟨#[]⟩, .slice none 0 0, .int .i64 m2, .int .i64 m3, .bool false, .slice none 0 0] 31) = wA8 at *
  go_cut [129] from 113 (fun v wr => v = .bool false ∧ Below wA8.heap.size wA8 wr)
  case first =>
    as_aux_lemma =>
    have e0 := (show RowG.Var 31 wA8 w6.heap.size [.int .i64 0, .string ⟨#[]⟩, .int .i64 m1, .int .i64 0, .bool false, .bool false, .int .i64 0, .string ⟨#[]⟩, .slice none 0 0, .int .i64 m2, .int .i64 m3, .bool false, .slice none 0 0] from H5.v).cell (i := 0) rfl
    have e1 := (show RowG.Var 31 wA8 w6.heap.size [.int .i64 0, .string ⟨#[]⟩, .int .i64 m1, .int .i64 0, .bool false, .bool false, .int .i64 0, .string ⟨#[]⟩, .slice none 0 0, .int .i64 m2, .int .i64 m3, .bool false, .slice none 0 0] from H5.v).cell (i := 1) rfl
    have e2 := (show RowG.Var 31 wA8 w6.heap.size [.int .i64 0, .string ⟨#[]⟩, .int .i64 m1, .int .i64 0, .bool false, .bool false, .int .i64 0, .string ⟨#[]⟩, .slice none 0 0, .int .i64 m2, .int .i64 m3, .bool false, .slice none 0 0] from H5.v).cell (i := 2) rfl
    have e3 := (show RowG.Var 31 wA8 w6.heap.size [.int .i64 0, .string ⟨#[]⟩, .int .i64 m1, .int .i64 0, .bool false, .bool false, .int .i64 0, .string ⟨#[]⟩, .slice none 0 0, .int .i64 m2, .int .i64 m3, .bool false, .slice none 0 0] from H5.v).cell (i := 3) rfl
    have e4 := (show RowG.Var 31 wA8 w6.heap.size [.int .i64 0, .string ⟨#[]⟩, .int .i64 m1, .int .i64 0, .bool false, .bool false, .int .i64 0, .string ⟨#[]⟩, .slice none 0 0, .int .i64 m2, .int .i64 m3, .bool false, .slice none 0 0] from H5.v).cell (i := 4) rfl
    have e5 := (show RowG.Var 31 wA8 w6.heap.size [.int .i64 0, .string ⟨#[]⟩, .int .i64 m1, .int .i64 0, .bool false, .bool false, .int .i64 0, .string ⟨#[]⟩, .slice none 0 0, .int .i64 m2, .int .i64 m3, .bool false, .slice none 0 0] from H5.v).cell (i := 5) rfl
    have e6 := (show RowG.Var 31 wA8 w6.heap.size [.int .i64 0, .string ⟨#[]⟩, .int .i64 m1, .int .i64 0, .bool false, .bool false, .int .i64 0, .string ⟨#[]⟩, .slice none 0 0, .int .i64 m2, .int .i64 m3, .bool false, .slice none 0 0] from H5.v).cell (i := 6) rfl
    have e7 := (show RowG.Var 31 wA8 w6.heap.size [.int .i64 0, .string ⟨#[]⟩, .int .i64 m1, .int .i64 0, .bool false, .bool false, .int .i64 0, .string ⟨#[]⟩, .slice none 0 0, .int .i64 m2, .int .i64 m3, .bool false, .slice none 0 0] from H5.v).cell (i := 7) rfl
    have e8 := (show RowG.Var 31 wA8 w6.heap.size [.int .i64 0, .string ⟨#[]⟩, .int .i64 m1, .int .i64 0, .bool false, .bool false, .int .i64 0, .string ⟨#[]⟩, .slice none 0 0, .int .i64 m2, .int .i64 m3, .bool false, .slice none 0 0] from H5.v).cell (i := 8) rfl
    have e9 := (show RowG.Var 31 wA8 w6.heap.size [.int .i64 0, .string ⟨#[]⟩, .int .i64 m1, .int .i64 0, .bool false, .bool false, .int .i64 0, .string ⟨#[]⟩, .slice none 0 0, .int .i64 m2, .int .i64 m3, .bool false, .slice none 0 0] from H5.v).cell (i := 9) rfl
    have e10 := (show RowG.Var 31 wA8 w6.heap.size [.int .i64 0, .string ⟨#[]⟩, .int .i64 m1, .int .i64 0, .bool false, .bool false, .int .i64 0, .string ⟨#[]⟩, .slice none 0 0, .int .i64 m2, .int .i64 m3, .bool false, .slice none 0 0] from H5.v).cell (i := 10) rfl
    have e11 := (show RowG.Var 31 wA8 w6.heap.size [.int .i64 0, .string ⟨#[]⟩, .int .i64 m1, .int .i64 0, .bool false, .bool false, .int .i64 0, .string ⟨#[]⟩, .slice none 0 0, .int .i64 m2, .int .i64 m3, .bool false, .slice none 0 0] from H5.v).cell (i := 11) rfl
    have e12 := (show RowG.Var 31 wA8 w6.heap.size [.int .i64 0, .string ⟨#[]⟩, .int .i64 m1, .int .i64 0, .bool false, .bool false, .int .i64 0, .string ⟨#[]⟩, .slice none 0 0, .int .i64 m2, .int .i64 m3, .bool false, .slice none 0 0] from H5.v).cell (i := 12) rfl
    have f0 := (show RowG.Var 31 wA8 wC.heap.size [.int .i64 0, .string ⟨#[]⟩, .int .i64 m1, .int .i64 0, .bool false, .bool false, .int .i64 0, .string ⟨#[]⟩, .slice none 0 0, .int .i64 m2, .int .i64 m3, .bool false, .slice none 0 0] from H8.v).cell (i := 0) rfl
    have f1 := (show RowG.Var 31 wA8 wC.heap.size [.int .i64 0, .string ⟨#[]⟩, .int .i64 m1, .int .i64 0, .bool false, .bool false, .int .i64 0, .string ⟨#[]⟩, .slice none 0 0, .int .i64 m2, .int .i64 m3, .bool false, .slice none 0 0] from H8.v).cell (i := 1) rfl
    have f2 := (show RowG.Var 31 wA8 wC.heap.size [.int .i64 0, .string ⟨#[]⟩, .int .i64 m1, .int .i64 0, .bool false, .bool false, .int .i64 0, .string ⟨#[]⟩, .slice none 0 0, .int .i64 m2, .int .i64 m3, .bool false, .slice none 0 0] from H8.v).cell (i := 2) rfl
    have f3 := (show RowG.Var 31 wA8 wC.heap.size [.int .i64 0, .string ⟨#[]⟩, .int .i64 m1, .int .i64 0, .bool false, .bool false, .int .i64 0, .string ⟨#[]⟩, .slice none 0 0, .int .i64 m2, .int .i64 m3, .bool false, .slice none 0 0] from H8.v).cell (i := 3) rfl
    have f4 := (show RowG.Var 31 wA8 wC.heap.size [.int .i64 0, .string ⟨#[]⟩, .int .i64 m1, .int .i64 0, .bool false, .bool false, .int .i64 0, .string ⟨#[]⟩, .slice none 0 0, .int .i64 m2, .int .i64 m3, .bool false, .slice none 0 0] from H8.v).cell (i := 4) rfl
    have f5 := (show RowG.Var 31 wA8 wC.heap.size [.int .i64 0, .string ⟨#[]⟩, .int .i64 m1, .int .i64 0, .bool false, .bool false, .int .i64 0, .string ⟨#[]⟩, .slice none 0 0, .int .i64 m2, .int .i64 m3, .bool false, .slice none 0 0] from H8.v).cell (i := 5) rfl
    have f6 := (show RowG.Var 31 wA8 wC.heap.size [.int .i64 0, .string ⟨#[]⟩, .int .i64 m1, .int .i64 0, .bool false, .bool false, .int .i64 0, .string ⟨#[]⟩, .slice none 0 0, .int .i64 m2, .int .i64 m3, .bool false, .slice none 0 0] from H8.v).cell (i := 6) rfl
    have f7 := (show RowG.Var 31 wA8 wC.heap.size [.int .i64 0, .string ⟨#[]⟩, .int .i64 m1, .int .i64 0, .bool false, .bool false, .int .i64 0, .string ⟨#[]⟩, .slice none 0 0, .int .i64 m2, .int .i64 m3, .bool false, .slice none 0 0] from H8.v).cell (i := 7) rfl
    have f8 := (show RowG.Var 31 wA8 wC.heap.size [.int .i64 0, .string ⟨#[]⟩, .int .i64 m1, .int .i64 0, .bool false, .bool false, .int .i64 0, .string ⟨#[]⟩, .slice none 0 0, .int .i64 m2, .int .i64 m3, .bool false, .slice none 0 0] from H8.v).cell (i := 8) rfl
    have f9 := (show RowG.Var 31 wA8 wC.heap.size [.int .i64 0, .string ⟨#[]⟩, .int .i64 m1, .int .i64 0, .bool false, .bool false, .int .i64 0, .string ⟨#[]⟩, .slice none 0 0, .int .i64 m2, .int .i64 m3, .bool false, .slice none 0 0] from H8.v).cell (i := 9) rfl
    have f10 := (show RowG.Var 31 wA8 wC.heap.size [.int .i64 0, .string ⟨#[]⟩, .int .i64 m1, .int .i64 0, .bool false, .bool false, .int .i64 0, .string ⟨#[]⟩, .slice none 0 0, .int .i64 m2, .int .i64 m3, .bool false, .slice none 0 0] from H8.v).cell (i := 10) rfl
    have f11 := (show RowG.Var 31 wA8 wC.heap.size [.int .i64 0, .string ⟨#[]⟩, .int .i64 m1, .int .i64 0, .bool false, .bool false, .int .i64 0, .string ⟨#[]⟩, .slice none 0 0, .int .i64 m2, .int .i64 m3, .bool false, .slice none 0 0] from H8.v).cell (i := 11) rfl
    have f12 := (show RowG.Var 31 wA8 wC.heap.size [.int .i64 0, .string ⟨#[]⟩, .int .i64 m1, .int .i64 0, .bool false, .bool false, .int .i64 0, .string ⟨#[]⟩, .slice none 0 0, .int .i64 m2, .int .i64 m3, .bool false, .slice none 0 0] from H8.v).cell (i := 12) rfl
    go_wp2_with fail
    refine (Hop.likeHop (Hop.nH m1 m2 m3) none none 0 0 none none 0 0 _ H5.t H8.t H5.l H8.l (Nat.zero_le _) (Nat.zero_le _)).mono ?_
    rintro x wD ⟨rfl, bD⟩
    have H5 := H5.later bD
    clear e0 e1 e2 e3 e4 e5 e6 e7 e8 e9 e10 e11 e12 f0 f1 f2 f3 f4 f5 f6 f7 f8 f9 f10 f11 f12
    cases made
    · go_wp2_with fail
      go_meet
      exact ⟨rfl, bD⟩
    · have KO : Hid (Hop.hopB (Hop.nH m1 m2 m3) = true) := NO.out rfl
      have e0 := (show RowG.Var 31 wD w6.heap.size [.int .i64 0, .string ⟨#[]⟩, .int .i64 m1, .int .i64 0, .bool false, .bool false, .int .i64 0, .string ⟨#[]⟩, .slice none 0 0, .int .i64 m2, .int .i64 m3, .bool false, .slice none 0 0] from H5.v).cell (i := 0) rfl
      have e1 := (show RowG.Var 31 wD w6.heap.size [.int .i64 0, .string ⟨#[]⟩, .int .i64 m1, .int .i64 0, .bool false, .bool false, .int .i64 0, .string ⟨#[]⟩, .slice none 0 0, .int .i64 m2, .int .i64 m3, .bool false, .slice none 0 0] from H5.v).cell (i := 1) rfl
      have e2 := (show RowG.Var 31 wD w6.heap.size [.int .i64 0, .string ⟨#[]⟩, .int .i64 m1, .int .i64 0, .bool false, .bool false, .int .i64 0, .string ⟨#[]⟩, .slice none 0 0, .int .i64 m2, .int .i64 m3, .bool false, .slice none 0 0] from H5.v).cell (i := 2) rfl
      have e3 := (show RowG.Var 31 wD w6.heap.size [.int .i64 0, .string ⟨#[]⟩, .int .i64 m1, .int .i64 0, .bool false, .bool false, .int .i64 0, .string ⟨#[]⟩, .slice none 0 0, .int .i64 m2, .int .i64 m3, .bool false, .slice none 0 0] from H5.v).cell (i := 3) rfl
      have e4 := (show RowG.Var 31 wD w6.heap.size [.int .i64 0, .string ⟨#[]⟩, .int .i64 m1, .int .i64 0, .bool false, .bool false, .int .i64 0, .string ⟨#[]⟩, .slice none 0 0, .int .i64 m2, .int .i64 m3, .bool false, .slice none 0 0] from H5.v).cell (i := 4) rfl
      have e5 := (show RowG.Var 31 wD w6.heap.size [.int .i64 0, .string ⟨#[]⟩, .int .i64 m1, .int .i64 0, .bool false, .bool false, .int .i64 0, .string ⟨#[]⟩, .slice none 0 0, .int .i64 m2, .int .i64 m3, .bool false, .slice none 0 0] from H5.v).cell (i := 5) rfl
      have e6 := (show RowG.Var 31 wD w6.heap.size [.int .i64 0, .string ⟨#[]⟩, .int .i64 m1, .int .i64 0, .bool false, .bool false, .int .i64 0, .string ⟨#[]⟩, .slice none 0 0, .int .i64 m2, .int .i64 m3, .bool false, .slice none 0 0] from H5.v).cell (i := 6) rfl
      have e7 := (show RowG.Var 31 wD w6.heap.size [.int .i64 0, .string ⟨#[]⟩, .int .i64 m1, .int .i64 0, .bool false, .bool false, .int .i64 0, .string ⟨#[]⟩, .slice none 0 0, .int .i64 m2, .int .i64 m3, .bool false, .slice none 0 0] from H5.v).cell (i := 7) rfl
      have e8 := (show RowG.Var 31 wD w6.heap.size [.int .i64 0, .string ⟨#[]⟩, .int .i64 m1, .int .i64 0, .bool false, .bool false, .int .i64 0, .string ⟨#[]⟩, .slice none 0 0, .int .i64 m2, .int .i64 m3, .bool false, .slice none 0 0] from H5.v).cell (i := 8) rfl
      have e9 := (show RowG.Var 31 wD w6.heap.size [.int .i64 0, .string ⟨#[]⟩, .int .i64 m1, .int .i64 0, .bool false, .bool false, .int .i64 0, .string ⟨#[]⟩, .slice none 0 0, .int .i64 m2, .int .i64 m3, .bool false, .slice none 0 0] from H5.v).cell (i := 9) rfl
      have e10 := (show RowG.Var 31 wD w6.heap.size [.int .i64 0, .string ⟨#[]⟩, .int .i64 m1, .int .i64 0, .bool false, .bool false, .int .i64 0, .string ⟨#[]⟩, .slice none 0 0, .int .i64 m2, .int .i64 m3, .bool false, .slice none 0 0] from H5.v).cell (i := 10) rfl
      have e11 := (show RowG.Var 31 wD w6.heap.size [.int .i64 0, .string ⟨#[]⟩, .int .i64 m1, .int .i64 0, .bool false, .bool false, .int .i64 0, .string ⟨#[]⟩, .slice none 0 0, .int .i64 m2, .int .i64 m3, .bool false, .slice none 0 0] from H5.v).cell (i := 11) rfl
      have e12 := (show RowG.Var 31 wD w6.heap.size [.int .i64 0, .string ⟨#[]⟩, .int .i64 m1, .int .i64 0, .bool false, .bool false, .int .i64 0, .string ⟨#[]⟩, .slice none 0 0, .int .i64 m2, .int .i64 m3, .bool false, .slice none 0 0] from H5.v).cell (i := 12) rfl
      go_wp2_with fail
      refine (Hop.implHopOk (Hop.nH m1 m2 m3) none 0 none 0 _ H5.t H5.l (Hop.sm_ok KO.out)).mono ?_
      rintro x wE ⟨rfl, bE⟩
      rw [KO.out]
      go_wp2_with fail
      go_meet
      exact ⟨rfl, bD.trans (bE.mono bD.size)⟩
  case rest =>
  as_aux_lemma =>
  obtain ⟨rfl, bF⟩ := hcut
  generalize wc = wF at *
  have BN := BN.trans (bF.mono BN.size)
  have H1 := H1.later bF
  have H2 := H2.later bF
  have H3 := H3.later bF
  have H4 := H4.later bF
  clear bF H5 H8 NO KN hmm
  go_upto_if 130 with (fail)
  go_cut [] from 131 (fun wr => Below wF.heap.size wF wr)
  case first =>
    as_aux_lemma =>
    cases told
    · go_wp2_with fail
      go_meet
      exact Below.refl _ _
    · obtain ⟨hY, lm, hYw⟩ := TYY.out rfl
      have KY : Hid _ := hY
      have KW : Hid _ := hYw
      clear hY TYY
      have hYl : (Y.ws.length : Int) = (q.ws.length : Int) + 1 := by rw [KW.out]; simp
      have HYL : Hid _ := hYl
      have i0 : (0 : Int) ≤ (q.ws.length : Int) := by omega
      have i1 : (q.ws.length : Int) < (Y.ws.length : Int) := by omega
      have hll := H4.l
      rw [KW.out] at hll
      obtain ⟨b, off, hab, k0, k1, k2, k3, k4, k5, k6⟩ := Hop.last_cells hll
      subst hab
      (try dsimp only at k0 k1 k2 k3 k4 k5 k6)
      have e12 := H4.v.cell (i := 12) rfl
      have f12 := H3.v.cell (i := 12) rfl
      clear hYl hll hYw
      have bL : Below wF.heap.size wF (wF.alloc (.cells #[.bool true, .int .i64 r2, .int .i64 q.t.nx, .string ⟨#[]⟩, .bool false, .int .i64 lm, .bool (dn && q.t.en)] 45)) := (Below.refl _ _).alloc (Nat.le_refl _) _
      as_aux_lemma =>
      have VL : RowG.Var 45 (wF.alloc (.cells #[.bool true, .int .i64 r2, .int .i64 q.t.nx, .string ⟨#[]⟩, .bool false, .int .i64 lm, .bool (dn && q.t.en)] 45)) wF.heap.size [.bool true, .int .i64 r2, .int .i64 q.t.nx, .string ⟨#[]⟩, .bool false, .int .i64 lm, .bool (dn && q.t.en)] := RowG.Var.new wF _
      have H3 := H3.later bL
      have H4 := H4.later bL
      go_upto_region 20 with (fail)
      generalize wF.alloc (.cells #[.bool true, .int .i64 r2, .int .i64 q.t.nx, .string ⟨#[]⟩, .bool false, .int .i64 lm, .bool (dn && q.t.en)] 45) = wL at *
      clear e12 f12 k0 k1 k2 k3 k4 k5 k6
      have e0 := H4.v.cell (i := 0) rfl
      have e1 := H4.v.cell (i := 1) rfl
      have e2 := H4.v.cell (i := 2) rfl
      have e3 := H4.v.cell (i := 3) rfl
      have e4 := H4.v.cell (i := 4) rfl
      have e5 := H4.v.cell (i := 5) rfl
      have e6 := H4.v.cell (i := 6) rfl
      have e7 := H4.v.cell (i := 7) rfl
      have e8 := H4.v.cell (i := 8) rfl
      have e9 := H4.v.cell (i := 9) rfl
      have e10 := H4.v.cell (i := 10) rfl
      have e11 := H4.v.cell (i := 11) rfl
      have e12 := H4.v.cell (i := 12) rfl
      go_wp2_with fail
      refine (Hop.implHopOk Y aT4 cT4 _ cW4 _ H4.t H4.l (Hop.sm_ok KY.out)).mono ?_
      rintro x wH ⟨rfl, bH⟩
      rw [KY.out]
      have H3 := H3.later bH
      have H4 := H4.later bH
      have VL := VL.later bH
      clear e0 e1 e2 e3 e4 e5 e6 e7 e8 e9 e10 e11 e12
      have e12 := H4.v.cell (i := 12) rfl
      have f6 := H3.v.cell (i := 6) rfl
      have f11 := H3.v.cell (i := 11) rfl
      have f12 := H3.v.cell (i := 12) rfl
      have hYl := HYL.out
      clear i1 i0
      cases hde : (dn && q.t.en)
      · rw [hde] at VL
        have l0 := VL.cell (i := 0) rfl
        have l1 := VL.cell (i := 1) rfl
        have l2 := VL.cell (i := 2) rfl
        have l6 := VL.cell (i := 6) rfl
        clear hde VL H3 H4
        go_wp2_with fail
        go_meet
        exact bL.trans (bH.mono bL.size)
      · have hen : q.t.en = true := ((Bool.and_eq_true _ _).mp hde).2
        rw [hde] at VL
        have l0 := VL.cell (i := 0) rfl
        have l1 := VL.cell (i := 1) rfl
        have l2 := VL.cell (i := 2) rfl
        have l6 := VL.cell (i := 6) rfl
        rw [hen] at f11
        clear hde hen VL H3 H4
        go_wp2_with fail
        go_meet
        exact bL.trans (bH.mono bL.size)
  case rest =>
  as_aux_lemma =>
  generalize wc = wK at *
  have BN := BN.trans (hcut.mono BN.size)
  have H1 := H1.later hcut
  have H2 := H2.later hcut
  clear hcut H3 H4 TYY
  have e0 := H1.v.cell (i := 0) rfl
  have e1 := H1.v.cell (i := 1) rfl
  have e2 := H1.v.cell (i := 2) rfl
  have e3 := H1.v.cell (i := 3) rfl
  have e4 := H1.v.cell (i := 4) rfl
  have e5 := H1.v.cell (i := 5) rfl
  have e6 := H1.v.cell (i := 6) rfl
  have e7 := H1.v.cell (i := 7) rfl
  have e8 := H1.v.cell (i := 8) rfl
  have e9 := H1.v.cell (i := 9) rfl
  have e10 := H1.v.cell (i := 10) rfl
  have e11 := H1.v.cell (i := 11) rfl
  have e12 := H1.v.cell (i := 12) rfl
  go_wp2_with fail
  as_aux_lemma =>
  refine (Hop.specHopOk h aT1 cT1 aW1 cW1 _ H1.t H1.l hs).mono ?_
  rintro x wM ⟨rfl, bM⟩
  rw [KH.out]
  have BN := BN.trans (bM.mono BN.size)
  have H1 := H1.later bM
  have H2 := H2.later bM
  clear e0 e1 e2 e3 e4 e5 e6 e7 e8 e9 e10 e11 e12
  clear bM
  cases bh
  · have hz := SN.out.1 rfl
    simp only [Prod.mk.injEq] at hz
    obtain ⟨rfl, rfl⟩ := hz
    clear SN SY
    have V2 := H2.v
    dsimp only [Hop.Hp.c, Hop.zeroH, Giv.zeroG, Tak.zeroK, List.length_nil] at V2
    have e0 := V2.cell (i := 0) rfl
    have e1 := V2.cell (i := 1) rfl
    have e2 := V2.cell (i := 2) rfl
    have e3 := V2.cell (i := 3) rfl
    have e4 := V2.cell (i := 4) rfl
    have e5 := V2.cell (i := 5) rfl
    have e6 := V2.cell (i := 6) rfl
    have e7 := V2.cell (i := 7) rfl
    have e8 := V2.cell (i := 8) rfl
    have e9 := V2.cell (i := 9) rfl
    have e10 := V2.cell (i := 10) rfl
    have e11 := V2.cell (i := 11) rfl
    have e12 := V2.cell (i := 12) rfl
    go_wp2_with fail
    refine (Hop.likeHop Hop.zeroH aT2 none cT2 0 aW2 none cW2 0 _ H2.t (.inl rfl) H2.l (.inl rfl) (Nat.zero_le _) (Nat.zero_le _)).mono ?_
    rintro x wN ⟨rfl, bN⟩
    go_wp2_with fail
    go_ret
    exact ⟨rfl, BN.trans (bN.mono BN.size)⟩
  · cases is
    · have hX : X = h := SN.out.2 rfl rfl
      subst hX
      clear SN SY
      have e0 := H1.v.cell (i := 0) rfl
      have e1 := H1.v.cell (i := 1) rfl
      have e2 := H1.v.cell (i := 2) rfl
      have e3 := H1.v.cell (i := 3) rfl
      have e4 := H1.v.cell (i := 4) rfl
      have e5 := H1.v.cell (i := 5) rfl
      have e6 := H1.v.cell (i := 6) rfl
      have e7 := H1.v.cell (i := 7) rfl
      have e8 := H1.v.cell (i := 8) rfl
      have e9 := H1.v.cell (i := 9) rfl
      have e10 := H1.v.cell (i := 10) rfl
      have e11 := H1.v.cell (i := 11) rfl
      have e12 := H1.v.cell (i := 12) rfl
      have f0 := H2.v.cell (i := 0) rfl
      have f1 := H2.v.cell (i := 1) rfl
      have f2 := H2.v.cell (i := 2) rfl
      have f3 := H2.v.cell (i := 3) rfl
      have f4 := H2.v.cell (i := 4) rfl
      have f5 := H2.v.cell (i := 5) rfl
      have f6 := H2.v.cell (i := 6) rfl
      have f7 := H2.v.cell (i := 7) rfl
      have f8 := H2.v.cell (i := 8) rfl
      have f9 := H2.v.cell (i := 9) rfl
      have f10 := H2.v.cell (i := 10) rfl
      have f11 := H2.v.cell (i := 11) rfl
      have f12 := H2.v.cell (i := 12) rfl
      go_wp2_with fail
      refine (Hop.likeHop X aT2 aT1 cT2 cT1 aW2 aW1 cW2 cW1 _ H2.t H1.t H2.l H1.l SL1.out SL2.out).mono ?_
      rintro x wN ⟨rfl, bN⟩
      go_wp2_with fail
      go_ret
      exact ⟨rfl, BN.trans (bN.mono BN.size)⟩
    · obtain ⟨_, hXo, hXg, hXt, xb, xe, hXw⟩ := SY.out rfl
      (try dsimp only at hXo hXg hXt hXw)
      clear SN SY
      obtain ⟨Xg, Xt, Xw⟩ := X
      (try dsimp only at hXg hXt hXw)
      subst hXg hXt
      as_aux_lemma =>
      have KO : Hid _ := hXo
      have hXl : (Xw.length : Int) = (h.ws.length : Int) + 1 := by rw [hXw]; simp
      have HXL : Hid _ := hXl
      have i0 : (0 : Int) ≤ (h.ws.length : Int) := by omega
      have i1 : (h.ws.length : Int) < (Xw.length : Int) := by omega
      have hll := H2.l
      (try dsimp only at hll)
      rw [hXw] at hll
      obtain ⟨b, off, hab, k0, k1, k2, k3, k4, k5, k6⟩ := Hop.last_cells hll
      subst hab
      (try dsimp only at k0 k1 k2 k3 k4 k5 k6)
      have V2 := H2.v
      dsimp only [Hop.Hp.c] at V2
      have e12 := V2.cell (i := 12) rfl
      have f12 := H1.v.cell (i := 12) rfl
      clear hXl hll hXw hXo
      have bL : Below wM.heap.size wM (wM.alloc (.cells #[.bool false, .int .i64 r, .int .i64 p, .string xb, .bool xe, .int .i64 0, .bool false] 45)) := (Below.refl _ _).alloc (Nat.le_refl _) _
      have VL : RowG.Var 45 (wM.alloc (.cells #[.bool false, .int .i64 r, .int .i64 p, .string xb, .bool xe, .int .i64 0, .bool false] 45)) wM.heap.size [.bool false, .int .i64 r, .int .i64 p, .string xb, .bool xe, .int .i64 0, .bool false] := RowG.Var.new wM _
      have H1 := H1.later bL
      have H2 := H2.later bL
      have V2 := V2.later bL
      have BN := BN.trans (bL.mono BN.size)
      go_upto_region 27 with (fail)
      generalize wM.alloc (.cells #[.bool false, .int .i64 r, .int .i64 p, .string xb, .bool xe, .int .i64 0, .bool false] 45) = wL at *
      clear e12 f12 k0 k1 k2 k3 k4 k5 k6 bL
      have e0 := V2.cell (i := 0) rfl
      have e1 := V2.cell (i := 1) rfl
      have e2 := V2.cell (i := 2) rfl
      have e3 := V2.cell (i := 3) rfl
      have e4 := V2.cell (i := 4) rfl
      have e5 := V2.cell (i := 5) rfl
      have e6 := V2.cell (i := 6) rfl
      have e7 := V2.cell (i := 7) rfl
      have e8 := V2.cell (i := 8) rfl
      have e9 := V2.cell (i := 9) rfl
      have e10 := V2.cell (i := 10) rfl
      have e11 := V2.cell (i := 11) rfl
      have e12 := V2.cell (i := 12) rfl
      go_wp2_with fail
      refine (Hop.implHopOk ⟨h.g, h.t, Xw⟩ aT2 cT2 _ cW2 _ H2.t H2.l (Hop.sm_ok KO.out)).mono ?_
      rintro x wP ⟨rfl, bP⟩
      rw [KO.out]
      have BN := BN.trans (bP.mono BN.size)
      have H1 := H1.later bP
      have H2 := H2.later bP
      have V2 := V2.later bP
      have VL := VL.later bP
      clear e0 e1 e2 e3 e4 e5 e6 e7 e8 e9 e10 e11 e12
      have e0 := V2.cell (i := 0) rfl
      have e1 := V2.cell (i := 1) rfl
      have e2 := V2.cell (i := 2) rfl
      have e3 := V2.cell (i := 3) rfl
      have e4 := V2.cell (i := 4) rfl
      have e5 := V2.cell (i := 5) rfl
      have e6 := V2.cell (i := 6) rfl
      have e7 := V2.cell (i := 7) rfl
      have e8 := V2.cell (i := 8) rfl
      have e9 := V2.cell (i := 9) rfl
      have e10 := V2.cell (i := 10) rfl
      have e11 := V2.cell (i := 11) rfl
      have e12 := V2.cell (i := 12) rfl
      have f0 := H1.v.cell (i := 0) rfl
      have f1 := H1.v.cell (i := 1) rfl
      have f2 := H1.v.cell (i := 2) rfl
      have f3 := H1.v.cell (i := 3) rfl
      have f4 := H1.v.cell (i := 4) rfl
      have f5 := H1.v.cell (i := 5) rfl
      have f6 := H1.v.cell (i := 6) rfl
      have f7 := H1.v.cell (i := 7) rfl
      have f8 := H1.v.cell (i := 8) rfl
      have f9 := H1.v.cell (i := 9) rfl
      have f10 := H1.v.cell (i := 10) rfl
      have f11 := H1.v.cell (i := 11) rfl
      have f12 := H1.v.cell (i := 12) rfl
      have hXl := HXL.out
      clear i0 i1 bP
      go_wp2_with fail
      refine (Tak.likeTaker h.t.nx h.t.bs aT2 aT1 _ _ cT2 cT1 h.t.cp h.t.fi h.t.en h.t.l _ rfl rfl H2.t H1.t (by have := hs.tl; omega)).mono ?_
      rintro x wQ ⟨rfl, bQ⟩
      have BN := BN.trans (bQ.mono BN.size)
      have VL := VL.later bQ
      have l0 := VL.cell (i := 0) rfl
      have l1 := VL.cell (i := 1) rfl
      have l2 := VL.cell (i := 2) rfl
      clear e0 e1 e2 e3 e4 e5 e6 e7 e8 e9 e10 e11 e12 f0 f1 f2 f3 f4 f5 f6 f7 f8 f9 f10 f11 f12
      clear hXl
      go_wp2_with fail
      go_ret
      exact ⟨rfl, BN⟩

/-! ### THE ROW's STEP: WRITTEN OUT: LEAVE IT -/
set_option maxRecDepth 100000 in
theorem lifted (os : Os) (started : os.Started) (H : Type) (enc : TypeId × Value → H) :
    ReturnsInHanded {} Try.checked os 3 .any (Rows.fnHopsSpec.pre6 enc Try.prog Try.f3 Rows.fnHopsRow.domain false) (Rows.fnHopsSpec.post enc Try.prog Try.f3 false true false false) := by
  refine returnsInHanded_of_change (C := Try.checked) own started (by kernel_rfl) Try.func3
    (ChangeSpec.witness6 (enc := enc) (C := Try.checked) false ⟨#[], #[.slice none 0 0], []⟩ 8 (by kernel_rfl) (by kernel_rfl) (by kernel_rfl) (by kernel_rfl)) ?_
  intro W base args ds gs before hval0 hW hcnd _
  have hval : ∀ (j : Nat) t v, Try.f3.params[j]? = some t → args[j]? = some v → Value.okWide Try.prog W .any base t v := hval0
  have hW' := hW
  obtain ⟨p, q, hA0, hV, rfl, hfz, hnd⟩ := hW
  have hA : DataW.TrodAll enc Try.prog W 0 (fun _ => true) true Try.f3.params.toList args.toList ds p := hA0
  rw [Try.params3] at hA hval
  obtain ⟨v0, vs0, d0, ds0, p0, q0, hargs, rfl, rfl, h0, r0⟩ := trodAll_cons hA
  obtain ⟨rfl, rfl, rfl⟩ := trodAll_nil r0
  obtain rfl : args = #[v0] := by cases args; simp_all
  obtain ⟨rfl, rfl⟩ := trodVars_none hV
  obtain ⟨a0, len0, cap0, rfl⟩ := okWide_slice Try.underlying22 (hval 0 22 v0 rfl rfl)
  have k0 := h0
  have lt0 : ∀ x ∈ p0, x.block < W.heap.size := by obtain ⟨m, hm⟩ := k0; exact DataW.trod_lt m _ _ _ hm
  obtain ⟨z0, w0⟩ : ∃ zs, IsRow .u8 W a0 len0 cap0 zs := by
    obtain ⟨fuel, hf⟩ := h0
    rcases open_ints Try.underlying22 Try.underlying5 (by kernel_rfl) hf with ⟨hcs, _⟩ | ⟨x, l, c, zs, hcs, _, hl, hm, hz, _, hcell, hwz⟩
    · simp [Value.cells] at hcs
      obtain ⟨rfl, rfl, rfl⟩ := hcs
      exact ⟨[], .inl ⟨rfl, rfl, rfl, rfl⟩⟩
    · simp [Value.cells] at hcs
      obtain ⟨rfl, rfl, rfl⟩ := hcs
      exact ⟨zs, .inr ⟨_, rfl, hl, hm, by simpa using hz, hcell, hwz⟩⟩
  clear hA0 hval0
  refine (walk a0 len0 cap0 z0 W w0).mono fun e W' ⟨he, bel⟩ => ?_
  subst he
  exact ⟨_, rfl, _, _, _, [], _, [], hW', trodAll_mk1 (shut_bool Try.underlying4 _), (trodAll_cons_mk (Below.trod laidOut (by kernel_rfl) (of_decide_eq_true (by kernel_rfl)) k0 bel lt0) trodAll_mk0), rfl, bel.frame _, fun h => by cases h⟩

theorem over : Rows.fnHopsRow.holds Try.pinned (OpenSpec.ofChange Rows.fnHopsSpec) :=
  OpenClaim.holds_of_wide 3 Try.f3 rfl rfl rfl rfl rfl rfl rfl ⟨rfl, rfl, rfl, rfl, rfl⟩ rfl rfl rfl rfl rfl (by kernel_rfl) Try.func3 (by kernel_rfl)
    (of_decide_eq_true (by kernel_rfl)) (by unfold Func.isWrapper; first | (rw [if_pos (by decide +kernel)]; kernel_rfl) | (rw [if_neg (by decide +kernel)]; exact ⟨rfl, rfl⟩))
    (fun os started H enc _ => lifted os started H enc)

/-- THE STATEMENT. -/
theorem proved : Rows.FnHopsSaid := over
end Go.Proofs.Ytonhjlhpppfcpaa.fnHops
namespace Go.Proofs.Ytonhjlhpppfcpaa
theorem fnHops_holds : Rows.FnHopsSaid := fnHops.proved
#print axioms fnHops_holds
end Go.Proofs.Ytonhjlhpppfcpaa
