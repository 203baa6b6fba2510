/- Givers (chapter 6), the program's side: Writes. -/
import Derived.Test.YtanbdccnlelmoaaGivQ
import Derived.Test.YtanbdccnlelmoaaGivB
import Derived.Laws.BytesArg
namespace Go.Proofs.Ytanbdccnlelmoaa.Giv
open Go.RowKit RowG
set_option linter.unusedVariables false
set_option linter.unusedSimpArgs false

theorem byte_vals (C : List UInt8) : byteE.vals C = C.map fun b => Value.int .u8 (b.toNat : Int) := by
  induction C with
  | nil => rfl
  | cons x C ih =>
    rw [El.vals_cons, ih]
    rfl
/-- Bytes of the call's own as a text. -/
theorem conv_own {w : World} {B : Nat} {a : Option Addr} {c : Nat} {C : List UInt8} (h : byteE.Own 5 w B a c C) : (convert 22 9 (.slice a C.length c)).run Try.prog w = .ok (.string ⟨C.toArray⟩) w := by
  rcases h.form with ⟨rfl, rfl, rfl⟩ | ⟨g, rfl, h1, h2, h3⟩
  · exact run_convert_bytes_nil w 22 5 Try.underlying22 Try.underlying5 0 0 9 Try.underlying9
  · refine Draw.text_byteRow ?_ C.length c rfl
    have h4 : w.ownsRow B 5 1 (.slice (some ⟨g, 0, none⟩) C.length c) C.length (C.map fun b => Value.int .u8 (b.toNat : Int)) := by
      have := h
      unfold El.Own at this
      rw [byte_vals] at this
      exact this
    exact (Draw.Row.ofOwn h4).2.2
theorem bytes_put (b s : ByteArray) (t : Nat) : (⟨(b.data.toList ++ s.data.toList.take t).toArray⟩ : ByteArray) = b ++ s.extract 0 t := by
  apply ByteArray.ext
  rw [ByteArray.data_append, ByteArray.data_extract]
  apply Array.ext'
  simp
theorem fit_ring {g : Gv} (h : g.ok = true) (s : ByteArray) : ((fitR (mostG g).toNat g.bs.data.toList s.data.toList : Nat) : Int) = fitN g s ∧ fitR (mostG g).toNat g.bs.data.toList s.data.toList = (fitN g s).toNat := by
  obtain ⟨⟨i8, i9⟩, ⟨j1, j2⟩, i3, i4, ⟨j3, j4⟩, i6, i7⟩ := ok_iff.1 h
  have h1 : g.bs.data.toList.length = g.bs.size := by simp
  have h2 : s.data.toList.length = s.size := by simp
  unfold fitR fitN mostG
  rw [h1, h2]
  omega

end Go.Proofs.Ytanbdccnlelmoaa.Giv
