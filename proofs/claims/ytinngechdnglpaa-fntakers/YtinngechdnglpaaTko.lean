/- The program's Takes as the specification's; and on a taker of a text of which pieces come (FnOnce). -/
import Derived.Test.YtinngechdnglpaaTkn
import Derived.Test.YtinngechdnglpaaTakN
import Derived.Test.YtinngechdnglpaaMg2
namespace Go.Proofs.Ytinngechdnglpaa.Tak
open Go.RowKit RowG
set_option linter.unusedVariables false
set_option linter.unusedSimpArgs false

theorem implTakes (sortNil : ∀ (cap : Nat) (fv : Value) (w : World), Calls Try.prog 59 #[.slice none 0 cap, fv] w fun e w' => e = .returned (.tuple #[]) ∧ w' = w) (nx : Int) (bs : ByteArray) (a : Option Addr) (n0 c : Nat) (cp fi : Int) (en : Bool) (l : List Pt) (p : Int) (bz : ByteArray) (e : Bool) (w : World) (hn : n0 = l.length) (h : partE.Lies w a l) (hl : l.length ≤ 2097152) (hbs : bs.size ≤ 2097152) (hp : Bd l) (ha : a = none → c = 0) (hz : bz.size ≤ 1048576) :
    Calls Try.prog 7 #[.agg #[.int .i64 nx, .string bs, .slice a n0 c, .int .i64 cp, .int .i64 fi, .bool en], .int .i64 p, .string bz, .bool e] w fun x w' => ∃ (a' : Option Addr) (c' : Nat), x = .returned (.tuple #[(takes ⟨nx, bs, l, cp, fi, en⟩ p bz e).1.v a' c', .bool (takes ⟨nx, bs, l, cp, fi, en⟩ p bz e).2]) ∧ partE.Own 53 w' w.heap.size a' c' (takes ⟨nx, bs, l, cp, fi, en⟩ p bz e).1.l ∧ Below w.heap.size w w' := by
  refine (implTakesR sortNil nx bs a n0 c cp fi en l p bz e w hn h hl hbs hp ha hz).mono ?_
  rintro x w' ⟨res, hr, a', c', rfl, ho, hb⟩
  have hq := takesR_eq hr
  subst hq
  exact ⟨a', c', rfl, ho, hb⟩
theorem on_small {T : ByteArray} {x : Tk} (h : OnT T x) : Bd x.l ∧ x.l.length ≤ 400 ∧ x.bs.size ≤ 1000000 := by
  have h1 := ok_small h.ok
  have h2 := (ok_iff.1 h.ok).1.2.2.2
  exact ⟨h1.1, h2, by omega⟩
theorem implTakesOn (sortNil : ∀ (cap : Nat) (fv : Value) (w : World), Calls Try.prog 59 #[.slice none 0 cap, fv] w fun e w' => e = .returned (.tuple #[]) ∧ w' = w) {T : ByteArray} (hT : T.size ≤ 60) (x : Tk) (hx : OnT T x) (p q : Int) (hp : 0 ≤ p) (hpq : p ≤ q) (hq : q ≤ T.size) (hz : q ≤ p + 40) (a : Option Addr) (c : Nat) (w : World) (h : partE.Lies w a x.l) (ha : a = none → c = 0) :
    Calls Try.prog 7 #[.agg #[.int .i64 x.nx, .string x.bs, .slice a x.l.length c, .int .i64 x.cp, .int .i64 x.fi, .bool x.en], .int .i64 p, .string (T.extract p.toNat q.toNat), .bool (decide (q = T.size))] w fun e w' => ∃ (y : Tk) (b : Bool), OnT T y ∧ (∀ j, covered x j ∨ (p ≤ j ∧ j < q) → covered y j) ∧ ((q = T.size ∨ x.fi = T.size) → y.fi = T.size) ∧ ∃ (a' : Option Addr) (c' : Nat), e = .returned (.tuple #[.agg #[.int .i64 y.nx, .string y.bs, .slice a' y.l.length c', .int .i64 y.cp, .int .i64 y.fi, .bool y.en], .bool b]) ∧ partE.Own 53 w' w.heap.size a' c' y.l ∧ Below w.heap.size w w' := by
  obtain ⟨s1, s2, s3⟩ := on_small hx
  have hsz : (T.extract p.toNat q.toNat).size ≤ 60 := by have := ext_le T p.toNat q.toNat; omega
  refine (implTakes sortNil x.nx x.bs a _ c x.cp x.fi x.en x.l p _ _ w rfl h (by omega) (by omega) s1 ha (by omega)).mono ?_
  rintro e w' ⟨a', c', rfl, ho, hb⟩
  obtain ⟨n, hn⟩ : ∃ n : Nat, q = p + n := ⟨(q - p).toNat, by omega⟩
  subst hn
  have he : takes ⟨x.nx, x.bs, x.l, x.cp, x.fi, x.en⟩ p (T.extract p.toNat (p + n).toNat) (decide (p + n = T.size)) = takeT x p (T.extract p.toNat (p + n).toNat) (decide (p + n = T.size)) := by
    show takes x _ _ _ = _
    unfold takes
    rw [if_pos hx.ok]
  rw [he] at ho ⊢
  obtain ⟨o1, o2, o3⟩ := once_step hx (by omega) hp hq (by omega)
  exact ⟨_, _, o1, o2, o3, a', c', rfl, ho, hb⟩
/-- A taker of the text in a variable, its parts in memory of the call's own. -/
def OnceI (T : ByteArray) (w0 : World) (k : Nat) (P : Tk → Prop) (wr : World) : Prop := ∃ (x : Tk) (a : Option Addr) (c : Nat), OnT T x ∧ P x ∧ Var 26 wr k [.int .i64 x.nx, .string x.bs, .slice a x.l.length c, .int .i64 x.cp, .int .i64 x.fi, .bool x.en] ∧ partE.Own 53 wr (k + 1) a c x.l ∧ Below w0.heap.size w0 wr

/-- One byte in a new block. -/
theorem row_one (w : World) {y : Int} (h0 : 0 ≤ y) (h1 : y < 256) : ∃ b : UInt8, Draw.Row (w.alloc (.cells #[.int .u8 y] 5)) w.heap.size [b] := by
  have hv : Var 5 (w.alloc (.cells #[.int .u8 y] 5)) w.heap.size [.int .u8 y] := Var.new w _
  refine ⟨UInt8.ofNat y.toNat, fun j hj => ?_⟩
  have : j = 0 := by simp at hj; exact hj
  subst this
  refine ⟨?_, hv.free 0⟩
  rw [hv.cell (i := 0) rfl]
  simp
  omega

end Go.Proofs.Ytinngechdnglpaa.Tak
