/- Contracts of the specification's functions of chapter 3 (letters); texts of at most 2^20 bytes. -/
import Derived.Test.YtecgfnpniklhhaaSegA
import Derived.Test.YtecgfnpniklhhaaDrawS
import Derived.Test.YtecgfnpniklhhaaSumB
import Derived.Test.YtecgfnpniklhhaaNumA
import Derived.Deep.RegionHeld3
import Derived.Laws.Concat
namespace Go.Proofs.Ytecgfnpniklhhaa.Seg
open Go.RowKit
set_option linter.unusedVariables false

theorem drop_set (L : List UInt8) (m : Nat) (h : m < L.length) (b : UInt8) : (L.set m b).drop m = b :: L.drop (m + 1) := by
  rw [List.drop_eq_getElem_cons (by simpa using h), List.getElem_set_self, List.drop_set_of_lt (by omega)]
theorem num_step {nv n : Int} {m w : Nat} {L : List UInt8} (hm : m < L.length) (h : numB nv (m + 1) ++ L.drop (m + 1) = numB n w) : numB (nv / 256) m ++ (L.set m (low nv)).drop m = numB n w := by
  rw [drop_set L m hm, ← h, numB]
  simp
theorem made_u8 (n : Nat) : (madeCells #[Value.int .u8 0] n).toList = (List.replicate n (0 : UInt8)).map fun b => Value.int .u8 (b.toNat : Int) := by
  apply List.ext_getElem
  · simp [madeCells]
  · intro i h1 h2
    have e : i % 1 = 0 := Nat.mod_one i
    simp [madeCells, e]
theorem made_row {w : World} {B g n cap : Nat} (h : w.ownsRow B 5 1 (.slice (some ⟨g, 0, none⟩) n cap) n (madeCells #[Value.int .u8 0] n).toList) : Draw.Row w g (List.replicate n 0) := by
  rw [made_u8] at h
  exact (Draw.Row.ofOwn h).2.2

theorem made_row1 {w : World} {B g n cap : Nat} (h : w.ownsRow B 5 1 (.slice (some ⟨g, 0, none⟩) n cap) n (madeCells (Value.int .u8 0).cells (n * 1)).toList) : Draw.Row w g (List.replicate n 0) := by
  rw [Nat.mul_one] at h
  exact made_row h

set_option maxHeartbeats 1000000 in
theorem l3Number (n : Int) (k : Nat) (kv : Int) (hkv : kv = (k : Int)) (w : World) (hk : k ≤ 8) : Calls Try.prog 35 #[.int .i64 n, .int .i64 kv] w fun e w' => e = .returned (.string ⟨(numB n k).toArray⟩) ∧ Below w.heap.size w w' := by
  subst hkv
  obtain ⟨i, hi, hz0, hz1, hz2⟩ := info_parts Draw.infoU8
  go_enter Try.func35, Try.ntmps35
  go_wp2_with (at_make; refine wpList_make_full _ rfl _ _ 22 rfl w.heap.size 5 i (.int .u8 0) 1 Try.underlying22 hi hz0 hz1 .i64 .i64 _ _ k rfl rfl rfl rfl ?c2 ?c3 ?c4 ?_)
  case c2 => rw [hz2]; omega
  case c3 => unfold maxLen; omega
  case c4 => exact Nat.le_refl _
  intro w1 hown hgrow
  have hrow := made_row hown
  have hB : Below w.heap.size w w1 := (Below.refl _ _).grown hgrow (Nat.le_refl _) (fun _ h => by cases h)
  have hg : w.heap.size ≤ w.heap.size := Nat.le_refl _
  clear hown hgrow
  generalize hG : w.heap.size = g at *
  have HG : Hid _ := hG
  clear hG
  go_wp2_with fail
  go_loopw [0, 6] (fun nv iv wr => ∃ (m : Nat) (x : Int) (L : List UInt8), m ≤ k ∧ nv = .int .i64 x ∧ iv = .int .i64 ((m : Int) - 1) ∧ Hid (L.length = k) ∧ Hid (numB x m ++ L.drop m = numB n k) ∧ Draw.Row wr g L ∧ Below g w wr) (fun _ iv _ => (intOf iv + 1).toNat)
  case atStart => exact ⟨k, n, List.replicate k 0, Nat.le_refl _, rfl, rfl, by show _ = _; simp, by show _ = _; simp, hrow, hB⟩
  case round =>
    clear hrow hB
    obtain ⟨m, x, L, hm, rfl, rfl, hL, hnum, hrow, hB⟩ := hrel
    cases m with
    | zero =>
      have hback := Draw.text_byteRow hrow k k hL.out.symm
      have HE : Hid (L = numB n k) := by show L = _; have := hnum.out; simpa [numB] using this
      clear hrow hL hnum
      go_wp2_with fail
      go_ret
      exact ⟨by rw [← HE.out]; rfl, by rw [HG.out]; exact hB⟩
    | succ m =>
      have hml : m < L.length := by have := hL.out; omega
      have f0 := (hrow m hml).2
      have c0 := (hrow m hml).1
      have hlow := low_nat x
      have HR : Hid (Draw.Row (wr.setCell ⟨g, m, none⟩ (.int .u8 ((low x).toNat : Int))) g (L.set m (low x))) := hrow.set m hml (low x)
      have e1 : bits .and .i64 x 255 = x % 256 := Draw.and255 x
      have e2 : IntKind.u8.wrap (x % 256) = x % 256 := by rw [IntKind.wrap_u8]; omega
      have e3 : (((m + 1 : Nat) : Int) - 1) = (m : Int) := by omega
      clear hrow
      rw [e3]
      have hmk : (m : Int) < (k : Int) := by omega
      have HL : Hid _ := hlow
      clear hlow
      go_wp2_with fail
      go_roundw
      case rel =>
        rw [← HL.out]
        exact ⟨m, x / 256, L.set m (low x), by omega, rfl, rfl, by show _ = _; simpa using hL.out, num_step hml hnum.out, HR.out, hB.setCell (Nat.le_refl _) _⟩
      case measure => simp [intOf]

theorem l3NumberZ (n kv : Int) (w : World) (h0 : 0 ≤ kv) (h8 : kv ≤ 8) : Calls Try.prog 35 #[.int .i64 n, .int .i64 kv] w fun e w' => e = .returned (.string ⟨(numB n kv.toNat).toArray⟩) ∧ Below w.heap.size w w' :=
  l3Number n kv.toNat kv (by omega) w (by omega)

theorem shl_or {x y : Int} (x0 : 0 ≤ x) (x1 : x ≤ 16777215) (y0 : 0 ≤ y) (y1 : y ≤ 255) : bits .or .i64 (x * 256) y = 256 * x + y := by
  rw [bits_join .i64 40 (by decide) (fun n h0 h1 => by rw [IntKind.wrap_i64]; omega) 8 (x * 256) y (by omega) (by omega) (by omega) (by omega) (by omega) (by omega)]
  omega
theorem read_small {l : List UInt8} (h : l.length ≤ 3) : 0 ≤ readB l ∧ readB l ≤ 16777215 := by
  have hb := readB_bd l.length l rfl
  have : l.length = 0 ∨ l.length = 1 ∨ l.length = 2 ∨ l.length = 3 := by omega
  rcases this with e | e | e | e <;> rw [e] at hb <;> omega
theorem take_drop_snoc (s : ByteArray) (a j : Nat) (h : a + j < s.size) : ((s.data.toList.drop a).take (j + 1)) = ((s.data.toList.drop a).take j) ++ [s[a + j]] := by
  rw [List.take_succ_eq_append_getElem (by simp; omega), List.getElem_drop]; rfl

set_option maxHeartbeats 1000000 in
theorem l3Read (s : ByteArray) (a k : Nat) (w : World) (hk : k ≤ 4) (ha : a + k ≤ s.size) (hs : s.size ≤ 1048576) : Calls Try.prog 22 #[.string s, .int .i64 a, .int .i64 k] w fun e w' => e = .returned (.int .i64 (readB ((s.data.toList.drop a).take k))) ∧ w = w' := by
  go_enter Try.func22, Try.ntmps22
  go_wp2_with fail
  go_loop [7, 8] (fun nv iv => ∃ j : Nat, j ≤ k ∧ nv = .int .i64 (readB ((s.data.toList.drop a).take j)) ∧ iv = .int .i64 ((a + j : Nat) : Int)) (fun _ iv => a + k - (intOf iv).toNat)
  case atStart => exact ⟨0, Nat.zero_le _, rfl, rfl⟩
  case round =>
    obtain ⟨j, hj, rfl, rfl⟩ := hrel
    have e0 : ((a + j : Nat) : Int) = (a : Int) + (j : Int) := by omega
    by_cases hlt : j < k
    · have hin : a + j < s.size := by omega
      have hsm := read_small (l := (s.data.toList.drop a).take j) (by simp; omega)
      have hb := Sum.byte_bd (s[a + j]'hin)
      have e1 := shl_or hsm.1 hsm.2 hb.1 hb.2
      have e2 : IntKind.i64.wrap (readB ((s.data.toList.drop a).take j) * 256) = readB ((s.data.toList.drop a).take j) * 256 := by rw [IntKind.wrap_i64]; omega
      have HT : Hid (readB ((s.data.toList.drop a).take (j + 1)) = 256 * readB ((s.data.toList.drop a).take j) + ((s[a + j]'hin).toNat : Int)) := by rw [take_drop_snoc s a j hin]; exact readB_snoc _ _
      clear e0
      generalize readB ((s.data.toList.drop a).take j) = X at *
      generalize hI : a + j = I at *
      have hIk : (I : Int) < (a : Int) + (k : Int) := by omega
      have HI : Hid _ := hI
      clear hI
      go_wp2_with fail
      go_round
      case rel => exact ⟨j + 1, by omega, by rw [HT.out], by have := HI.out; simp; omega⟩
      case measure => simp [intOf]; have := HI.out; omega
    · have : j = k := by omega
      subst this
      go_wp2_with fail
      go_ret
      exact ⟨rfl, rfl⟩

theorem l3ReadZ (s : ByteArray) (av kv : Int) (w : World) (h0 : 0 ≤ av) (h1 : 0 ≤ kv) (hk : kv ≤ 4) (ha : av + kv ≤ s.size) (hs : s.size ≤ 1048576) : Calls Try.prog 22 #[.string s, .int .i64 av, .int .i64 kv] w fun e w' => e = .returned (.int .i64 (readB ((s.data.toList.drop av.toNat).take kv.toNat))) ∧ w = w' := by
  have h := l3Read s av.toNat kv.toNat w (by omega) (by omega) hs
  rw [show ((av.toNat : Nat) : Int) = av by omega, show ((kv.toNat : Nat) : Int) = kv by omega] at h
  exact h

/-- Whether a letter is right. -/
def okB (f t : Int) (n : Nat) (a r : Int) : Bool := Num.mkB f && (Num.mkB t && (Num.mkB a && (decide ((n : Int) ≤ 40) && Sum.twB r)))

set_option maxHeartbeats 1000000 in
theorem specSegOk (f t : Int) (b : ByteArray) (e : Bool) (a r : Int) (w : World) (hb : b.size ≤ 1048576) :
    Calls Try.prog 12 #[.agg #[.int .i64 f, .int .i64 t, .string b, .bool e, .int .i64 a, .int .i64 r]] w fun x w' => x = .returned (.bool (okB f t b.size a r)) ∧ Below w.heap.size w w' := by
  have fin : ∀ {o : Obj}, Below w.heap.size w (w.alloc o) := fun {o} => (Below.refl _ _).alloc (Nat.le_refl _) o
  cases h1 : Num.mkB f
  · go_enter Try.func12, Try.ntmps12
    go_wp2_with (go_at_call 25; refine (Num.l1Mark _ _).mono ?_; rintro x w' ⟨rfl, rfl⟩)
    go_ret
    exact ⟨Sum.ret_bool (by simp [okB, h1]), fin⟩
  · cases h2 : Num.mkB t
    · go_enter Try.func12, Try.ntmps12
      go_wp2_with (go_at_call 25; refine (Num.l1Mark _ _).mono ?_; rintro x w' ⟨rfl, rfl⟩)
      go_ret
      exact ⟨Sum.ret_bool (by simp [okB, h2]), fin⟩
    · cases h3 : Num.mkB a
      · go_enter Try.func12, Try.ntmps12
        go_wp2_with (go_at_call 25; refine (Num.l1Mark _ _).mono ?_; rintro x w' ⟨rfl, rfl⟩)
        go_ret
        exact ⟨Sum.ret_bool (by simp [okB, h3]), fin⟩
      · by_cases h4 : (b.size : Int) ≤ 40
        · go_enter Try.func12, Try.ntmps12
          go_wp2_with (first | (go_at_call 25; refine (Num.l1Mark _ _).mono ?_; rintro x w' ⟨rfl, rfl⟩) | (go_at_call 26; refine (Sum.l2Two _ _).mono ?_; rintro x w' ⟨rfl, rfl⟩))
          go_ret
          exact ⟨Sum.ret_bool (by simp [okB, h1, h2, h3]; omega), fin⟩
        · go_enter Try.func12, Try.ntmps12
          go_wp2_with (go_at_call 25; refine (Num.l1Mark _ _).mono ?_; rintro x w' ⟨rfl, rfl⟩)
          go_ret
          exact ⟨Sum.ret_bool (by simp [okB]; omega), fin⟩

theorem cells6 {G : Nat} {w0 wx wy : World} {v0 v1 v2 v4 v5 : Value} (hB : Below wx.heap.size wx wy) (h : Below G w0 wx ∧ G < wx.heap.size ∧ wx.cell? ⟨G, 0, none⟩ = some v0 ∧ wx.cell? ⟨G, 1, none⟩ = some v1 ∧ wx.cell? ⟨G, 2, none⟩ = some v2 ∧ wx.cell? ⟨G, 4, none⟩ = some v4 ∧ wx.cell? ⟨G, 5, none⟩ = some v5) :
    Below G w0 wy ∧ G < wy.heap.size ∧ wy.cell? ⟨G, 0, none⟩ = some v0 ∧ wy.cell? ⟨G, 1, none⟩ = some v1 ∧ wy.cell? ⟨G, 2, none⟩ = some v2 ∧ wy.cell? ⟨G, 4, none⟩ = some v4 ∧ wy.cell? ⟨G, 5, none⟩ = some v5 := by
  obtain ⟨hb, h, h0, h1, h2, h4, h5⟩ := h
  exact ⟨hb.trans (hB.mono (Nat.le_of_lt h)), Nat.lt_of_lt_of_le h hB.size, (hB.cell (p := ⟨G, 0, none⟩) h).trans h0, (hB.cell (p := ⟨G, 1, none⟩) h).trans h1, (hB.cell (p := ⟨G, 2, none⟩) h).trans h2, (hB.cell (p := ⟨G, 4, none⟩) h).trans h4, (hB.cell (p := ⟨G, 5, none⟩) h).trans h5⟩

theorem body_text (f t : Int) (b : ByteArray) (e : Bool) (a r ev : Int) (h : ev = if e then 1 else 0) :
    (({ data := (numB f 4).toArray } : ByteArray) ++ { data := (numB t 4).toArray } ++ { data := (numB a 4).toArray } ++ { data := (numB r 2).toArray } ++ { data := (numB ev 1).toArray } ++ { data := (numB (b.size : Int) 1).toArray } ++ b) = ⟨(bodyL f t b.data.toList e a r).toArray⟩ := by
  subst h
  have e0 : b = ByteArray.mk b.data.toList.toArray := by obtain ⟨⟨l⟩⟩ := b; rfl
  have e1 : (b.data.toList.length : Int) = (b.size : Int) := by simp
  rw [bodyL, e1]
  conv => lhs; rhs; rw [e0]
  simp only [ByteArray.mk_append_mk]

set_option maxHeartbeats 2000000 in
theorem specShow (f t : Int) (b : ByteArray) (e : Bool) (a r : Int) (w : World) (hb : b.size ≤ 1048576) :
    Calls Try.prog 23 #[.agg #[.int .i64 f, .int .i64 t, .string b, .bool e, .int .i64 a, .int .i64 r]] w fun x w' => x = .returned (.string ⟨(showL f t b.data.toList e a r).toArray⟩) ∧ Below w.heap.size w w' := by
  have hlen := numB_len
  have h0 : ∀ {ev : Value} {T : TypeId} {wz : World}, wz = (w.alloc (.cells #[.int .i64 f, .int .i64 t, .string b, ev, .int .i64 a, .int .i64 r] T)).drew → Below w.heap.size w wz ∧ w.heap.size < wz.heap.size ∧ wz.cell? ⟨w.heap.size, 0, none⟩ = some (.int .i64 f) ∧ wz.cell? ⟨w.heap.size, 1, none⟩ = some (.int .i64 t) ∧ wz.cell? ⟨w.heap.size, 2, none⟩ = some (.string b) ∧ wz.cell? ⟨w.heap.size, 4, none⟩ = some (.int .i64 a) ∧ wz.cell? ⟨w.heap.size, 5, none⟩ = some (.int .i64 r) := by
    intro ev T wz h
    subst h
    exact ⟨((Below.refl _ _).alloc (Nat.le_refl _) _).drew, by simp⟩
  have hsz : ¬ 9223372036854775807 < 16 + b.size := by omega
  have hsz2 : ¬ 9223372036854775807 < 18 + b.size := by omega
  cases e
  · go_enter Try.func23, Try.ntmps23
    go_wp2_with fail
    go_region_held3 (fun w' => Below w.heap.size w w' ∧ w.heap.size < w'.heap.size ∧ w'.cell? ⟨w.heap.size, 0, none⟩ = some (.int .i64 f) ∧ w'.cell? ⟨w.heap.size, 1, none⟩ = some (.int .i64 t) ∧ w'.cell? ⟨w.heap.size, 2, none⟩ = some (.string b) ∧ w'.cell? ⟨w.heap.size, 4, none⟩ = some (.int .i64 a) ∧ w'.cell? ⟨w.heap.size, 5, none⟩ = some (.int .i64 r)) (first | exact h0 rfl | exact cells6 (by assumption) (by assumption)) ((go_at_call 35; refine (l3NumberZ _ _ _ (by decide) (by decide)).mono ?_; rintro x wn ⟨rfl, hBn⟩))
    rename_i hS
    obtain ⟨hB, hlt, -, -, -, -, -⟩ := hS
    clear h0 hBn
    go_wp2_with fail
    rw [body_text f t b false a r 0 rfl]
    have hbl := bodyL_len f t b.data.toList false a r
    have hbs : b.data.toList.length = b.size := by simp
    have hz : (⟨(bodyL f t b.data.toList false a r).toArray⟩ : ByteArray).size ≤ 1073741824 := by show (bodyL f t b.data.toList false a r).length ≤ _; omega
    have HZ : Hid (showL f t b.data.toList false a r = bodyL f t b.data.toList false a r ++ numB (Sum.sumOf ⟨(bodyL f t b.data.toList false a r).toArray⟩) 2) := rfl
    refine (Sum.specSum _ _ hz).mono ?_
    rintro x wy ⟨rfl, rfl⟩
    generalize Sum.sumOf ⟨(bodyL f t b.data.toList false a r).toArray⟩ = S at *
    have hsz3 : ¬ 9223372036854775807 < (bodyL f t b.data.toList false a r).length + 2 := by omega
    clear hbl hbs hz
    generalize bodyL f t b.data.toList false a r = BL at *
    go_wp2_with fail
    refine (l3NumberZ _ _ _ (by decide) (by decide)).mono ?_
    rintro x wz ⟨rfl, hBz⟩
    go_wp2_with fail
    go_ret
    exact ⟨by rw [HZ.out, ← ByteArray.mk_append_mk]; rfl, hB.trans (hBz.mono (Nat.le_of_lt hlt))⟩
  · go_enter Try.func23, Try.ntmps23
    go_wp2_with fail
    go_region_held3 (fun w' => Below w.heap.size w w' ∧ w.heap.size < w'.heap.size ∧ w'.cell? ⟨w.heap.size, 0, none⟩ = some (.int .i64 f) ∧ w'.cell? ⟨w.heap.size, 1, none⟩ = some (.int .i64 t) ∧ w'.cell? ⟨w.heap.size, 2, none⟩ = some (.string b) ∧ w'.cell? ⟨w.heap.size, 4, none⟩ = some (.int .i64 a) ∧ w'.cell? ⟨w.heap.size, 5, none⟩ = some (.int .i64 r)) (first | exact h0 rfl | exact cells6 (by assumption) (by assumption)) ((go_at_call 35; refine (l3NumberZ _ _ _ (by decide) (by decide)).mono ?_; rintro x wn ⟨rfl, hBn⟩))
    rename_i hS
    obtain ⟨hB, hlt, -, -, -, -, -⟩ := hS
    clear h0 hBn
    go_wp2_with fail
    rw [body_text f t b true a r 1 rfl]
    have hbl := bodyL_len f t b.data.toList true a r
    have hbs : b.data.toList.length = b.size := by simp
    have hz : (⟨(bodyL f t b.data.toList true a r).toArray⟩ : ByteArray).size ≤ 1073741824 := by show (bodyL f t b.data.toList true a r).length ≤ _; omega
    have HZ : Hid (showL f t b.data.toList true a r = bodyL f t b.data.toList true a r ++ numB (Sum.sumOf ⟨(bodyL f t b.data.toList true a r).toArray⟩) 2) := rfl
    refine (Sum.specSum _ _ hz).mono ?_
    rintro x wy ⟨rfl, rfl⟩
    generalize Sum.sumOf ⟨(bodyL f t b.data.toList true a r).toArray⟩ = S at *
    have hsz3 : ¬ 9223372036854775807 < (bodyL f t b.data.toList true a r).length + 2 := by omega
    clear hbl hbs hz
    generalize bodyL f t b.data.toList true a r = BL at *
    go_wp2_with fail
    refine (l3NumberZ _ _ _ (by decide) (by decide)).mono ?_
    rintro x wz ⟨rfl, hBz⟩
    go_wp2_with fail
    go_ret
    exact ⟨by rw [HZ.out, ← ByteArray.mk_append_mk]; rfl, hB.trans (hBz.mono (Nat.le_of_lt hlt))⟩

end Go.Proofs.Ytecgfnpniklhhaa.Seg
