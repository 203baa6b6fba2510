/- Contract of the draw of a bent text, l1Bend: it returns some text, at most two bytes longer, and turns no block but the cursor's. -/
import Derived.Test.YtecgfnpniklhhaaDrawS
import Derived.Deep.RegionHeld3
import Derived.Laws.IdiomStrings
namespace Go.Proofs.Ytecgfnpniklhhaa.Draw
open Go.RowKit
set_option linter.unusedVariables false

def byV (l : List UInt8) : List Value := l.map fun b => Value.int .u8 (b.toNat : Int)
theorem byV_len (l : List UInt8) : (byV l).length = l.length := by simp [byV]
/-- A row of bytes of the call's own. -/
def OwnB (w : World) (B g cap : Nat) (l : List UInt8) : Prop := w.ownsRow B 5 1 (.slice (some ⟨g, 0, none⟩) l.length cap) l.length (byV l)
theorem OwnB.row {w : World} {B g cap : Nat} {l : List UInt8} (h : OwnB w B g cap l) : B ≤ g ∧ Row w g l ∧ l.length ≤ cap ∧ g < w.heap.size := by
  have h1 := Row.ofOwn h
  refine ⟨h1.2.1, h1.2.2, ?_, (World.ownsRow.lt h g rfl).2⟩
  rcases h.2 with ⟨hv, _⟩ | ⟨g', cap', cur, hv, _, _, hc, _⟩
  · simp at hv
  · simp at hv
    omega
theorem one_byV (l : List UInt8) : ∀ u ∈ byV l, u.oneCell' = true := by
  intro u hu
  simp [byV] at hu
  obtain ⟨b, _, rfl⟩ := hu
  rfl
theorem Row.grownBy {w w' : World} {g r n cap : Nat} {l : List UInt8} (h : Row w g l) (hg : w.grownBy w' (Value.slice (some ⟨r, 0, none⟩) n cap).ownBlock) (hlt : g < w.heap.size) (hne : g ≠ r) : Row w' g l :=
  h.same (hg.block g hlt (by simp [Value.ownBlock]; omega))
theorem row_src {w : World} {g : Nat} {l : List UInt8} (h : Row w g l) (o : Nat) (l2 : List UInt8) (h2 : ∀ j (hj : j < l2.length), ∃ hj' : o + j < l.length, l[o + j] = l2[j]) : ∀ j u, (byV l2)[j]? = some u → w.cell? ((⟨g, o, none⟩ : Addr).add j) = some u := by
  intro j u hu
  have e : (⟨g, o, none⟩ : Addr).add j = ⟨g, o + j, none⟩ := by unfold Addr.add; split <;> simp_all
  have hj : j < l2.length := by
    have := (List.getElem?_eq_some_iff.1 hu).1
    simpa [byV] using this
  obtain ⟨hj', he⟩ := h2 j hj
  rw [e, (h (o + j) hj').1, he]
  rw [← hu]
  simp [byV, hj]
theorem src_take {w : World} {g : Nat} {l : List UInt8} (h : Row w g l) (k : Nat) (hk : k ≤ l.length) : ∀ j u, (byV (l.take k))[j]? = some u → w.cell? ((⟨g, 0, none⟩ : Addr).add j) = some u :=
  row_src h 0 (l.take k) fun j hj => ⟨by simp at hj; omega, by simp⟩
theorem src_drop {w : World} {g : Nat} {l : List UInt8} (h : Row w g l) (k : Nat) : ∀ j u, (byV (l.drop k))[j]? = some u → w.cell? ((⟨g, k, none⟩ : Addr).add j) = some u :=
  row_src h k (l.drop k) fun j hj => ⟨by simp at hj; omega, by simp⟩
theorem src_nil {w : World} {ad : Addr} : ∀ j u, (byV [])[j]? = some u → w.cell? (ad.add j) = some u := fun j u h => by simp [byV] at h

/-- At a step of a region that draws its order: bytes behind a row of the call's own. -/
theorem step_app {w : World} {ops : Array Oper} {o : Oper} {a : Act} {K : Act → World → Prop} {Q : Exit → Act → World → Prop} {E : Prop} (hgd : o.guard = none) (s x : Operand)
    (ho : o.op = .call { callee := .builtin .append, args := #[s, x], argTypes := #[22, 22] })
    (B g n cap : Nat) (l : List UInt8) (hn : n = l.length) (hs : a.eval s = .slice (some ⟨g, 0, none⟩) n cap) (hown : OwnB w B g cap l)
    (ad : Addr) (m c : Nat) (l2 : List UInt8) (hm : m = l2.length) (hx : a.eval x = .slice (some ad) m c) (hnews : ∀ j u, (byV l2)[j]? = some u → w.cell? (ad.add j) = some u)
    (N : Nat) (hN : N = n + m) (hmax : N ≤ 1048576) (hbase : B ≤ w.heap.size)
    (h : ∀ g' cap' w', OwnB w' B g' cap' (l ++ l2) → w.grownBy w' (Value.slice (some ⟨g, 0, none⟩) n cap).ownBlock → K (a.put o.dst (.slice (some ⟨g', 0, none⟩) N cap')) w') :
    if Region.wanted o (yielded ops a.tmps) = true then Oper.wp Try.prog o a w K Q else E := by
  subst hn hm hN
  obtain ⟨i, hi, hz0, hz1, hz2⟩ := info_parts infoU8
  have hw : Region.wanted o (yielded ops a.tmps) = true := by simp [Region.wanted, hgd]
  rw [if_pos hw]
  refine wp_append_own w s x 22 ho B 5 i (.int .u8 0) 1 1 Try.underlying22 hi hz0 hz1 hz2 rfl (by decide) _ _ _ hs hown ad l2.length c (byV l2) hx (by simp [byV_len]) hnews (one_byV l2) (by unfold maxLen; omega) (by omega) hbase ?_
  intro v' w' h1 h2 h3
  rcases h1.2 with ⟨hv, _⟩ | ⟨g', cap', cur, hv, _⟩
  · exact absurd (h3.1 hv).1 (by simp)
  · subst hv
    refine h g' cap' w' ?_ h2
    unfold OwnB byV at *
    rw [List.length_append, List.map_append]
    exact h1
theorem ownB_new (w : World) : OwnB (w.alloc (.cells #[] 5)).drew w.heap.size w.heap.size 0 [] := World.ownsRow_made w #[] 0 (Nat.le_refl _) (Nat.zero_le _) rfl

theorem Row.kept {w w' : World} {g c : Nat} {l : List UInt8} (h : Row w g l) (k : Kept c w w') (hg : g < w.heap.size) (hne : g ≠ c) : Row w' g l := h.same (k.block g hg hne)
theorem Cur.setCell' {w : World} {c : Nat} (h : Cur w c) {p : Addr} (hp : c < p.block) (v : Value) : Cur (w.setCell p v) c := h.upto fun i hi => Below.heap_setCell _ _ _ _ (by omega)
theorem Row.alloc' {w : World} {g : Nat} {l : List UInt8} (h : Row w g l) (hg : g < w.heap.size) (o : Obj) : Row (w.alloc o) g l := h.below ((Below.refl w.heap.size w).alloc (Nat.le_refl _) o) hg
theorem new_one {w : World} {b : UInt8} {y : Int} (hy : (b.toNat : Int) = y) : ∀ j u, (byV [b])[j]? = some u → (w.alloc (.cells #[.int .u8 y] 5)).cell? ((⟨w.heap.size, 0, none⟩ : Addr).add j) = some u := by
  have h := World.news_of_block (heap_alloc_new w (.cells #[.int .u8 y] 5))
  rw [← hy] at h ⊢
  exact h
theorem Row.take {w : World} {g : Nat} {l : List UInt8} (h : Row w g l) (k : Nat) : Row w g (l.take k) := fun j hj => by
  have hj' : j < l.length := by simp at hj; omega
  have := h j hj'
  simpa using this
theorem byteRow_room (s : ByteArray) (w : World) : ∃ (cap : Nat) (w2 : World), s.size ≤ cap ∧ (convert 9 22 (.string s)).run Try.prog w = .ok (.slice (some ⟨w.heap.size, 0, none⟩) s.size cap) w2 ∧ Row w2 w.heap.size s.data.toList ∧ Below w.heap.size w w2 ∧ w2.heap.size = w.heap.size + 1 := by
  obtain ⟨cap, w2, hconv, hrow, hB, hz⟩ := byteRow_text s w
  refine ⟨cap, w2, ?_, hconv, hrow, hB, hz⟩
  have h := hconv.symm.trans (run_bytes_of_string w 9 22 5 s Try.underlying9 Try.underlying22 Try.underlying5)
  simp at h
  rw [h.1]
  exact grownCap_ge _ _ _ _

set_option maxHeartbeats 4000000 in
theorem l1Bend (c : Nat) (s : ByteArray) (w : World) (h : Cur w c) (hs : s.size ≤ 524288) :
    Calls Try.prog 19 #[.pointer (some ⟨c, 0, none⟩), .string s] w fun e w' => ∃ t : ByteArray, t.size ≤ s.size + 2 ∧ e = .returned (.string t) ∧ Cur w' c ∧ Kept c w w' := by
  have hlt := h.lt
  obtain ⟨cap, w2, hcap, hconv, hrow, hB, hz⟩ := byteRow_room s w
  have c2 := h.below hB (Nat.le_refl _)
  have k2 : Kept c w w2 := Kept.ofBelow hB (Nat.le_refl _)
  have hsl : s.data.toList.length = s.size := by simp
  have HR : Hid (Row w2 w.heap.size s.data.toList) := hrow
  clear h hB hrow
  go_enter Try.func19, Try.ntmps19
  go_wp2_with fail
  refine (l1Below _ _ _ c2).mono ?_
  rintro e w3 ⟨n, n0, n1, rfl, c3, k3⟩
  have r3 : Hid (Row w3 w.heap.size s.data.toList) := HR.out.kept k3 (by omega) (by omega)
  have g3 : w.heap.size < w3.heap.size := by have := k3.size; omega
  have k03 := k2.trans k3
  clear k2 k3 HR c2 hconv
  go_wp2_with fail
  go_loopw [5, 6] (fun v nv wr => ∃ (L : List UInt8) (g cap : Nat) (m : Int), 0 ≤ m ∧ m ≤ 2 ∧ (L.length : Int) + m ≤ (s.size : Int) + 2 ∧ v = .slice (some ⟨g, 0, none⟩) L.length cap ∧ L.length ≤ cap ∧ nv = .int .i64 m ∧ Hid (Row wr g L) ∧ w.heap.size ≤ g ∧ g < wr.heap.size ∧ Cur wr c ∧ Kept c w wr) (fun _ nv _ => (intOf nv).toNat)
  case atStart => exact ⟨s.data.toList, w.heap.size, cap, n, n0, by omega, by omega, by rw [hsl], by omega, rfl, r3, Nat.le_refl _, g3, c3, k03⟩
  case round =>
    clear r3 g3 c3 k03 hcap hsl
    obtain ⟨L, g, cap, m, m0, m2, hLm, rfl, hLc, rfl, hrow, hg, hgw, cr, kr⟩ := hrel
    by_cases hm : 0 < m
    · by_cases hL : 0 < L.length
      · have hLi : (0 : Int) < (L.length : Int) := by omega
        go_wp2_with fail
        refine (l1Below _ _ _ cr).mono ?_
        rintro e w4 ⟨k, k0, k1, rfl, c4, q4⟩
        have r4 : Hid (Row w4 g L) := hrow.out.kept q4 hgw (by omega)
        have g4 : g < w4.heap.size := by have := q4.size; omega
        have kk4 := kr.trans q4
        clear q4 kr hrow hgw cr
        obtain ⟨k, rfl⟩ := Int.eq_ofNat_of_zero_le k0
        have hkl : k < L.length := by omega
        clear k1
        go_wp2_with fail
        refine (l1Below _ _ _ c4).mono ?_
        rintro e w5 ⟨x, x0, x1, rfl, c5, q5⟩
        have r5 : Hid (Row w5 g L) := r4.out.kept q5 g4 (by omega)
        have g5 : g < w5.heap.size := by have := q5.size; omega
        have kk5 := kk4.trans q5
        clear q5 kk4 r4 g4 c4
        have hx : x = 0 ∨ x = 1 ∨ x = 2 ∨ x = 3 := by omega
        have i0 : (0 : Int) ≤ (k : Int) := by omega
        have i1 : (k : Int) < (L.length : Int) := by omega
        have i2 : (k : Int) ≤ (cap : Int) := by omega
        rcases hx with rfl | rfl | rfl | rfl
        · go_wp2_with fail
          refine (l1Byte _ _ c5).mono ?_
          rintro e w6 ⟨y, y0, y1, rfl, c6, q6⟩
          have r6 : Hid (Row w6 g L) := r5.out.kept q6 g5 (by omega)
          have g6 : g < w6.heap.size := by have := q6.size; omega
          have kk6 := kk5.trans q6
          clear q6 kk5 r5 g5 c5
          have f0 := (r6.out k hkl).2
          have c0 := (r6.out k hkl).1
          have e1 : IntKind.u8.wrap y = y := by rw [IntKind.wrap_u8]; omega
          go_wp2_with fail
          go_roundw
          case rel =>
            have hset := r6.out.set k hkl (UInt8.ofNat y.toNat)
            rw [u8_of y0 y1] at hset
            exact ⟨L.set k (UInt8.ofNat y.toNat), g, cap, m - 1, by omega, by omega, by simp; omega, by simp, by simpa using hLc, rfl, hset, hg, by simpa using g6, c6.setCell' (p := ⟨g, k, none⟩) (by show c < g; omega) _, kk6.setCell (.inr hg) _⟩
          case measure => simp [intOf]; omega
        · go_wp2_with fail
          go_roundw
          case rel =>
            exact ⟨L.take k, g, cap, m - 1, by omega, by omega, by simp; omega, by simp; omega, by simp; omega, rfl, r5.out.take k, hg, g5, c5, kk5⟩
          case measure => simp [intOf]; omega
        · have e1 : IntKind.i64.wrap ((k : Int) + 1) = (k : Int) + 1 := by rw [IntKind.wrap_i64]; omega
          have rowA : Row (w5.alloc (.cells #[] 5)).drew g L := (r5.out.below ((Below.refl w5.heap.size w5).alloc (Nat.le_refl _) _) g5).drew
          have hbA : w5.heap.size ≤ (w5.alloc (.cells #[] 5)).drew.heap.size := by show _ ≤ (w5.alloc _).heap.size; simp
          have hgA : g < (w5.alloc (.cells #[] 5)).drew.heap.size := Nat.lt_of_lt_of_le g5 hbA
          have hT : Hid (k = (L.take k).length) := by show _ = _; simp; omega
          have hD : Hid (L.length - (k + 1) = (L.drop (k + 1)).length) := by show _ = _; simp
          have hng : g ≠ w5.heap.size := by omega
          have l1 : Hid (k = 0 + k) := by show _ = _; omega
          have l2 : Hid (L.length - 1 = k + (L.length - (k + 1))) := by show _ = _; omega
          have l3 : k ≤ 1048576 := by omega
          have l4 : L.length - 1 ≤ 1048576 := by omega
          have i3 : (k : Int) + 1 ≤ (L.length : Int) := by omega
          have i4 : (k : Int) + 1 ≤ (cap : Int) := by omega
          have HRA : Hid (Row _ _ _) := rowA
          clear rowA
          have i5 : (0 : Int) ≤ (k : Int) + 1 := by omega
          by_cases hce : cap = k + 1
          · have hLk : L.length = k + 1 := by omega
            subst hce
            clear hD l2
            have i6 : (k : Int) ≤ (k : Int) + 1 := by omega
            go_wp2_with fail
            refine wp_region_noPanic ?_
            refine wp_region_held_drew (S := (fun w' => True)) (by kernel_rfl) ?_ (fun hHeld => ?_)
            focus ((try dsimp only) <;> (trivial))
            refine wpAnyH_take (i := 1) (v := ?_) rfl (by kernel_rfl) (by kernel_rfl) (by kernel_rfl) (fun _ _ _ h => h) (Or.inl ⟨by rfl, ?_⟩) (by assumption) ?_
            rotate_left 1
            focus (intro wS hSw; (try dsimp only at hSw); go_simp; first | done | (constructor <;> with_reducible rfl) | with_reducible rfl)
            (try simp only [Act.put, List.getElem_toArray, List.getElem_cons_zero, List.getElem_cons_succ, List.setIfInBounds_toArray, List.set_cons_zero, List.set_cons_succ])
            refine wpAnyH_take (i := 2) (v := ?_) rfl (by kernel_rfl) (by kernel_rfl) (by kernel_rfl) (fun _ _ _ h => h) (Or.inl ⟨by rfl, ?_⟩) (by assumption) ?_
            rotate_left 1
            focus (intro wS hSw; (try dsimp only at hSw); go_simp; first | done | (constructor <;> with_reducible rfl) | with_reducible rfl)
            (try simp only [Act.put, List.getElem_toArray, List.getElem_cons_zero, List.getElem_cons_succ, List.setIfInBounds_toArray, List.set_cons_zero, List.set_cons_succ])
            refine wpAnyH_take (i := 3) (v := ?_) rfl (by kernel_rfl) (by kernel_rfl) (by kernel_rfl) (fun _ _ _ h => h) (Or.inl ⟨by rfl, ?_⟩) (by assumption) ?_
            rotate_left 1
            focus (intro wS hSw; (try dsimp only at hSw); go_simp; first | done | (constructor <;> with_reducible rfl) | with_reducible rfl)
            (try simp only [Act.put, List.getElem_toArray, List.getElem_cons_zero, List.getElem_cons_succ, List.setIfInBounds_toArray, List.set_cons_zero, List.set_cons_succ])
            refine wpAnyH_take (i := 5) (v := ?_) rfl (by kernel_rfl) (by kernel_rfl) (by kernel_rfl) (fun _ _ _ h => h) (Or.inl ⟨by rfl, ?_⟩) (by assumption) ?_
            rotate_left 1
            focus (intro wS hSw; (try dsimp only at hSw); go_simp; first | done | (constructor <;> with_reducible rfl) | with_reducible rfl)
            (try simp only [Act.put, List.getElem_toArray, List.getElem_cons_zero, List.getElem_cons_succ, List.setIfInBounds_toArray, List.set_cons_zero, List.set_cons_succ])
            refine wpAnyH_take (i := 6) (v := ?_) rfl (by kernel_rfl) (by kernel_rfl) (by kernel_rfl) (fun _ _ _ h => h) (Or.inl ⟨by rfl, ?_⟩) (by assumption) ?_
            rotate_left 1
            focus (intro wS hSw; (try dsimp only at hSw); go_simp; first | done | (constructor <;> with_reducible rfl) | with_reducible rfl)
            (try simp only [Act.put, List.getElem_toArray, List.getElem_cons_zero, List.getElem_cons_succ, List.setIfInBounds_toArray, List.set_cons_zero, List.set_cons_succ])
            refine wpAnyH_take (i := 7) (v := ?_) rfl (by kernel_rfl) (by kernel_rfl) (by kernel_rfl) (fun _ _ _ h => h) (Or.inl ⟨by rfl, ?_⟩) (by assumption) ?_
            rotate_left 1
            focus (intro wS hSw; (try dsimp only at hSw); go_simp; first | done | (constructor <;> with_reducible rfl) | with_reducible rfl)
            (try simp only [Act.put, List.getElem_toArray, List.getElem_cons_zero, List.getElem_cons_succ, List.setIfInBounds_toArray, List.set_cons_zero, List.set_cons_succ])
            refine wpAnyH_take (i := 8) (v := ?_) rfl (by kernel_rfl) (by kernel_rfl) (by kernel_rfl) (fun _ _ _ h => h) (Or.inl ⟨by rfl, ?_⟩) (by assumption) ?_
            rotate_left 1
            focus (intro wS hSw; (try dsimp only at hSw); go_simp; first | done | (constructor <;> with_reducible rfl) | with_reducible rfl)
            (try simp only [Act.put, List.getElem_toArray, List.getElem_cons_zero, List.getElem_cons_succ, List.setIfInBounds_toArray, List.set_cons_zero, List.set_cons_succ])
            refine wpAnyH_ready (rs := [0]) (by kernel_rfl) (by simp) ?_
            refine AllReadyH.cons rfl (fun K hK => ?_) AllReadyH.nil
            go_simp
            refine hK.out _ _ ?_ (fun hHeld => ?_)
            focus ((try dsimp only) <;> (trivial))
            clear hK K
            (try simp only [Act.put, List.getElem_toArray, List.getElem_cons_zero, List.getElem_cons_succ, List.setIfInBounds_toArray, List.set_cons_zero, List.set_cons_succ])
            refine wpAnyH_ready (rs := [4]) (by kernel_rfl) (by simp) ?_
            refine AllReadyH.cons rfl (fun K hK => ?_) AllReadyH.nil
            (refine step_app (by rfl) _ _ (by rfl) w5.heap.size w5.heap.size 0 0 [] rfl (by rfl) (ownB_new w5) ⟨g, 0, none⟩ k (k + 1) (L.take k) hT.out (by rfl) (src_take HRA.out k (by omega)) k l1.out l3 hbA ?_; intro g1 cap1 w6 hown1 hgr1)
            refine hK.out _ _ ?_ (fun hHeld => ?_)
            focus ((try dsimp only) <;> (trivial))
            clear hK K
            (try simp only [Act.put, List.getElem_toArray, List.getElem_cons_zero, List.getElem_cons_succ, List.setIfInBounds_toArray, List.set_cons_zero, List.set_cons_succ])
            refine wpAnyH_ready (rs := [9]) (by kernel_rfl) (by simp) ?_
            refine AllReadyH.cons rfl (fun K hK => ?_) AllReadyH.nil
            (refine step_app (by rfl) _ _ (by rfl) w5.heap.size g1 k cap1 (L.take k) hT.out (by rfl) hown1 ⟨g, 0, none⟩ 0 0 [] rfl (by rfl) src_nil k (by omega) l3 (Nat.le_trans hbA hgr1.size) ?_; intro g2 cap2 w7 hown2 hgr2)
            refine hK.out _ _ ?_ (fun hHeld => ?_)
            focus ((try dsimp only) <;> (trivial))
            clear hK K
            (try simp only [Act.put, List.getElem_toArray, List.getElem_cons_zero, List.getElem_cons_succ, List.setIfInBounds_toArray, List.set_cons_zero, List.set_cons_succ])
            refine wpAnyH_take (i := 10) (v := ?_) rfl (by kernel_rfl) (by kernel_rfl) (by kernel_rfl) (fun _ _ _ h => h) (Or.inl ⟨by rfl, ?_⟩) (by assumption) ?_
            rotate_left 1
            focus (intro wS hSw; (try dsimp only at hSw); go_simp; first | done | (constructor <;> with_reducible rfl) | with_reducible rfl)
            (try simp only [Act.put, List.getElem_toArray, List.getElem_cons_zero, List.getElem_cons_succ, List.setIfInBounds_toArray, List.set_cons_zero, List.set_cons_succ])
            refine wpAnyH_done (by kernel_rfl) ?_ _
            refine NoPanic.normal ?_
            obtain ⟨o1, o2, o3, o4⟩ := hown1.row
            obtain ⟨p1, p2, p3, p4⟩ := hown2.row
            have c6 := ((c5.alloc _).drew).grownBy hgr1 (by omega)
            have c7 := c6.grownBy hgr2 (by omega)
            have kw : w.heap.size ≤ w5.heap.size := kk5.size
            have kk6 := ((kk5.alloc _).drew).grownBy hgr1 kw
            have kk7 := kk6.grownBy hgr2 (by omega)
            have P2 : Hid (Row w7 g2 (L.take k ++ [])) := p2
            have hlz : (L.take k ++ []).length = k := by simp; omega
            have HLZ : Hid _ := hlz
            clear hown1 hown2 hgr1 hgr2 o2 p2 hlz
            go_wp2_with fail
            go_roundw
            case rel =>
              exact ⟨L.take k ++ [], g2, cap2, m - 1, by omega, by omega, by rw [HLZ.out]; omega, by rw [HLZ.out], by rw [HLZ.out]; have := HLZ.out; omega, rfl, P2, by omega, p4, c7, kk7⟩
            case measure => simp [intOf]; omega
          · go_wp2_with fail
            refine wp_region_noPanic ?_
            refine wp_region_held_drew (S := (fun w' => True)) (by kernel_rfl) ?_ (fun hHeld => ?_)
            focus ((try dsimp only) <;> (trivial))
            refine wpAnyH_take (i := 1) (v := ?_) rfl (by kernel_rfl) (by kernel_rfl) (by kernel_rfl) (fun _ _ _ h => h) (Or.inl ⟨by rfl, ?_⟩) (by assumption) ?_
            rotate_left 1
            focus (intro wS hSw; (try dsimp only at hSw); go_simp; first | done | (constructor <;> with_reducible rfl) | with_reducible rfl)
            (try simp only [Act.put, List.getElem_toArray, List.getElem_cons_zero, List.getElem_cons_succ, List.setIfInBounds_toArray, List.set_cons_zero, List.set_cons_succ])
            refine wpAnyH_take (i := 2) (v := ?_) rfl (by kernel_rfl) (by kernel_rfl) (by kernel_rfl) (fun _ _ _ h => h) (Or.inl ⟨by rfl, ?_⟩) (by assumption) ?_
            rotate_left 1
            focus (intro wS hSw; (try dsimp only at hSw); go_simp; first | done | (constructor <;> with_reducible rfl) | with_reducible rfl)
            (try simp only [Act.put, List.getElem_toArray, List.getElem_cons_zero, List.getElem_cons_succ, List.setIfInBounds_toArray, List.set_cons_zero, List.set_cons_succ])
            refine wpAnyH_take (i := 3) (v := ?_) rfl (by kernel_rfl) (by kernel_rfl) (by kernel_rfl) (fun _ _ _ h => h) (Or.inl ⟨by rfl, ?_⟩) (by assumption) ?_
            rotate_left 1
            focus (intro wS hSw; (try dsimp only at hSw); go_simp; first | done | (constructor <;> with_reducible rfl) | with_reducible rfl)
            (try simp only [Act.put, List.getElem_toArray, List.getElem_cons_zero, List.getElem_cons_succ, List.setIfInBounds_toArray, List.set_cons_zero, List.set_cons_succ])
            refine wpAnyH_take (i := 5) (v := ?_) rfl (by kernel_rfl) (by kernel_rfl) (by kernel_rfl) (fun _ _ _ h => h) (Or.inl ⟨by rfl, ?_⟩) (by assumption) ?_
            rotate_left 1
            focus (intro wS hSw; (try dsimp only at hSw); go_simp; first | done | (constructor <;> with_reducible rfl) | with_reducible rfl)
            (try simp only [Act.put, List.getElem_toArray, List.getElem_cons_zero, List.getElem_cons_succ, List.setIfInBounds_toArray, List.set_cons_zero, List.set_cons_succ])
            refine wpAnyH_take (i := 6) (v := ?_) rfl (by kernel_rfl) (by kernel_rfl) (by kernel_rfl) (fun _ _ _ h => h) (Or.inl ⟨by rfl, ?_⟩) (by assumption) ?_
            rotate_left 1
            focus (intro wS hSw; (try dsimp only at hSw); go_simp; first | done | (constructor <;> with_reducible rfl) | with_reducible rfl)
            (try simp only [Act.put, List.getElem_toArray, List.getElem_cons_zero, List.getElem_cons_succ, List.setIfInBounds_toArray, List.set_cons_zero, List.set_cons_succ])
            refine wpAnyH_take (i := 7) (v := ?_) rfl (by kernel_rfl) (by kernel_rfl) (by kernel_rfl) (fun _ _ _ h => h) (Or.inl ⟨by rfl, ?_⟩) (by assumption) ?_
            rotate_left 1
            focus (intro wS hSw; (try dsimp only at hSw); go_simp; first | done | (constructor <;> with_reducible rfl) | with_reducible rfl)
            (try simp only [Act.put, List.getElem_toArray, List.getElem_cons_zero, List.getElem_cons_succ, List.setIfInBounds_toArray, List.set_cons_zero, List.set_cons_succ])
            refine wpAnyH_take (i := 8) (v := ?_) rfl (by kernel_rfl) (by kernel_rfl) (by kernel_rfl) (fun _ _ _ h => h) (Or.inl ⟨by rfl, ?_⟩) (by assumption) ?_
            rotate_left 1
            focus (intro wS hSw; (try dsimp only at hSw); go_simp; first | done | (constructor <;> with_reducible rfl) | with_reducible rfl)
            (try simp only [Act.put, List.getElem_toArray, List.getElem_cons_zero, List.getElem_cons_succ, List.setIfInBounds_toArray, List.set_cons_zero, List.set_cons_succ])
            refine wpAnyH_ready (rs := [0]) (by kernel_rfl) (by simp) ?_
            refine AllReadyH.cons rfl (fun K hK => ?_) AllReadyH.nil
            go_simp
            refine hK.out _ _ ?_ (fun hHeld => ?_)
            focus ((try dsimp only) <;> (trivial))
            clear hK K
            (try simp only [Act.put, List.getElem_toArray, List.getElem_cons_zero, List.getElem_cons_succ, List.setIfInBounds_toArray, List.set_cons_zero, List.set_cons_succ])
            refine wpAnyH_ready (rs := [4]) (by kernel_rfl) (by simp) ?_
            refine AllReadyH.cons rfl (fun K hK => ?_) AllReadyH.nil
            (refine step_app (by rfl) _ _ (by rfl) w5.heap.size w5.heap.size 0 0 [] rfl (by rfl) (ownB_new w5) ⟨g, 0, none⟩ k cap (L.take k) hT.out (by rfl) (src_take HRA.out k (by omega)) k l1.out l3 hbA ?_; intro g1 cap1 w6 hown1 hgr1)
            refine hK.out _ _ ?_ (fun hHeld => ?_)
            focus ((try dsimp only) <;> (trivial))
            clear hK K
            (try simp only [Act.put, List.getElem_toArray, List.getElem_cons_zero, List.getElem_cons_succ, List.setIfInBounds_toArray, List.set_cons_zero, List.set_cons_succ])
            refine wpAnyH_ready (rs := [9]) (by kernel_rfl) (by simp) ?_
            refine AllReadyH.cons rfl (fun K hK => ?_) AllReadyH.nil
            (refine step_app (by rfl) _ _ (by rfl) w5.heap.size g1 k cap1 (L.take k) hT.out (by rfl) hown1 ⟨g, k + 1, none⟩ (L.length - (k + 1)) (cap - (k + 1)) (L.drop (k + 1)) hD.out (by rfl) (src_drop (HRA.out.grownBy hgr1 hgA hng) (k + 1)) (L.length - 1) l2.out l4 (Nat.le_trans hbA hgr1.size) ?_; intro g2 cap2 w7 hown2 hgr2)
            refine hK.out _ _ ?_ (fun hHeld => ?_)
            focus ((try dsimp only) <;> (trivial))
            clear hK K
            (try simp only [Act.put, List.getElem_toArray, List.getElem_cons_zero, List.getElem_cons_succ, List.setIfInBounds_toArray, List.set_cons_zero, List.set_cons_succ])
            refine wpAnyH_take (i := 10) (v := ?_) rfl (by kernel_rfl) (by kernel_rfl) (by kernel_rfl) (fun _ _ _ h => h) (Or.inl ⟨by rfl, ?_⟩) (by assumption) ?_
            rotate_left 1
            focus (intro wS hSw; (try dsimp only at hSw); go_simp; first | done | (constructor <;> with_reducible rfl) | with_reducible rfl)
            (try simp only [Act.put, List.getElem_toArray, List.getElem_cons_zero, List.getElem_cons_succ, List.setIfInBounds_toArray, List.set_cons_zero, List.set_cons_succ])
            refine wpAnyH_done (by kernel_rfl) ?_ _
            refine NoPanic.normal ?_
            obtain ⟨o1, o2, o3, o4⟩ := hown1.row
            obtain ⟨p1, p2, p3, p4⟩ := hown2.row
            have c6 := ((c5.alloc _).drew).grownBy hgr1 (by omega)
            have c7 := c6.grownBy hgr2 (by omega)
            have kw : w.heap.size ≤ w5.heap.size := kk5.size
            have kk6 := ((kk5.alloc _).drew).grownBy hgr1 kw
            have kk7 := kk6.grownBy hgr2 (by omega)
            have P2 : Hid (Row w7 g2 (L.take k ++ L.drop (k + 1))) := p2
            have hlz : (L.take k ++ L.drop (k + 1)).length = L.length - 1 := by simp; omega
            have HLZ : Hid _ := hlz
            clear hown1 hown2 hgr1 hgr2 o2 p2 hlz
            go_wp2_with fail
            go_roundw
            case rel =>
              exact ⟨L.take k ++ L.drop (k + 1), g2, cap2, m - 1, by omega, by omega, by rw [HLZ.out]; omega, by rw [HLZ.out], by rw [HLZ.out]; have := HLZ.out; omega, rfl, P2, by omega, p4, c7, kk7⟩
            case measure => simp [intOf]; omega
        · have rowA : Row (w5.alloc (.cells #[] 5)).drew g L := (r5.out.below ((Below.refl w5.heap.size w5).alloc (Nat.le_refl _) _) g5).drew
          have hbA : w5.heap.size ≤ (w5.alloc (.cells #[] 5)).drew.heap.size := by show _ ≤ (w5.alloc _).heap.size; simp
          have hgA : g < (w5.alloc (.cells #[] 5)).drew.heap.size := Nat.lt_of_lt_of_le g5 hbA
          have hT : Hid (k = (L.take k).length) := by show _ = _; simp; omega
          have hD : Hid (L.length - k = (L.drop k).length) := by show _ = _; simp
          have hng : g ≠ w5.heap.size := by omega
          have l1 : Hid (k = 0 + k) := by show _ = _; omega
          have l2 : Hid (L.length + 1 = k + 1 + (L.length - k)) := by show _ = _; omega
          have l3 : k ≤ 1048576 := by omega
          have l4 : L.length + 1 ≤ 1048576 := by omega
          have l5 : k + 1 ≤ 1048576 := by omega
          have hce : ¬ cap = k := by omega
          have i3 : (k : Int) ≤ (L.length : Int) := by omega
          have HRA : Hid (Row _ _ _) := rowA
          clear rowA
          go_wp2_with fail
          refine wp_region_noPanic ?_
          refine wp_region_held_drew (S := (fun w' => True)) (by kernel_rfl) ?_ (fun hHeld => ?_)
          focus ((try dsimp only) <;> (trivial))
          refine wpAnyH_take (i := 1) (v := ?_) rfl (by kernel_rfl) (by kernel_rfl) (by kernel_rfl) (fun _ _ _ h => h) (Or.inl ⟨by rfl, ?_⟩) (by assumption) ?_
          rotate_left 1
          focus (intro wS hSw; (try dsimp only at hSw); go_simp; first | done | (constructor <;> with_reducible rfl) | with_reducible rfl)
          (try simp only [Act.put, List.getElem_toArray, List.getElem_cons_zero, List.getElem_cons_succ, List.setIfInBounds_toArray, List.set_cons_zero, List.set_cons_succ])
          refine wpAnyH_take (i := 2) (v := ?_) rfl (by kernel_rfl) (by kernel_rfl) (by kernel_rfl) (fun _ _ _ h => h) (Or.inl ⟨by rfl, ?_⟩) (by assumption) ?_
          rotate_left 1
          focus (intro wS hSw; (try dsimp only at hSw); go_simp; first | done | (constructor <;> with_reducible rfl) | with_reducible rfl)
          (try simp only [Act.put, List.getElem_toArray, List.getElem_cons_zero, List.getElem_cons_succ, List.setIfInBounds_toArray, List.set_cons_zero, List.set_cons_succ])
          refine wpAnyH_take (i := 3) (v := ?_) rfl (by kernel_rfl) (by kernel_rfl) (by kernel_rfl) (fun _ _ _ h => h) (Or.inl ⟨by rfl, ?_⟩) (by assumption) ?_
          rotate_left 1
          focus (intro wS hSw; (try dsimp only at hSw); go_simp; first | done | (constructor <;> with_reducible rfl) | with_reducible rfl)
          (try simp only [Act.put, List.getElem_toArray, List.getElem_cons_zero, List.getElem_cons_succ, List.setIfInBounds_toArray, List.set_cons_zero, List.set_cons_succ])
          refine wpAnyH_take (i := 5) (v := ?_) rfl (by kernel_rfl) (by kernel_rfl) (by kernel_rfl) (fun _ _ _ h => h) (Or.inl ⟨by rfl, ?_⟩) (by assumption) ?_
          rotate_left 1
          focus (intro wS hSw; (try dsimp only at hSw); go_simp; first | done | (constructor <;> with_reducible rfl) | with_reducible rfl)
          (try simp only [Act.put, List.getElem_toArray, List.getElem_cons_zero, List.getElem_cons_succ, List.setIfInBounds_toArray, List.set_cons_zero, List.set_cons_succ])
          refine wpAnyH_take (i := 10) (v := ?_) rfl (by kernel_rfl) (by kernel_rfl) (by kernel_rfl) (fun _ _ _ h => h) (Or.inl ⟨by rfl, ?_⟩) (by assumption) ?_
          rotate_left 1
          focus (intro wS hSw; (try dsimp only at hSw); go_simp; first | done | (constructor <;> with_reducible rfl) | with_reducible rfl)
          (try simp only [Act.put, List.getElem_toArray, List.getElem_cons_zero, List.getElem_cons_succ, List.setIfInBounds_toArray, List.set_cons_zero, List.set_cons_succ])
          refine wpAnyH_take (i := 11) (v := ?_) rfl (by kernel_rfl) (by kernel_rfl) (by kernel_rfl) (fun _ _ _ h => h) (Or.inl ⟨by rfl, ?_⟩) (by assumption) ?_
          rotate_left 1
          focus (intro wS hSw; (try dsimp only at hSw); go_simp; first | done | (constructor <;> with_reducible rfl) | with_reducible rfl)
          (try simp only [Act.put, List.getElem_toArray, List.getElem_cons_zero, List.getElem_cons_succ, List.setIfInBounds_toArray, List.set_cons_zero, List.set_cons_succ])
          refine wpAnyH_take (i := 12) (v := ?_) rfl (by kernel_rfl) (by kernel_rfl) (by kernel_rfl) (fun _ _ _ h => h) (Or.inl ⟨by rfl, ?_⟩) (by assumption) ?_
          rotate_left 1
          focus (intro wS hSw; (try dsimp only at hSw); go_simp; first | done | (constructor <;> with_reducible rfl) | with_reducible rfl)
          (try simp only [Act.put, List.getElem_toArray, List.getElem_cons_zero, List.getElem_cons_succ, List.setIfInBounds_toArray, List.set_cons_zero, List.set_cons_succ])
          refine wpAnyH_ready (rs := [0]) (by kernel_rfl) (by simp) ?_
          refine AllReadyH.cons rfl (fun K hK => ?_) AllReadyH.nil
          go_simp
          refine hK.out _ _ ?_ (fun hHeld => ?_)
          focus ((try dsimp only) <;> (trivial))
          clear hK K
          (try simp only [Act.put, List.getElem_toArray, List.getElem_cons_zero, List.getElem_cons_succ, List.setIfInBounds_toArray, List.set_cons_zero, List.set_cons_succ])
          refine wpAnyH_ready (rs := [4]) (by kernel_rfl) (by simp) ?_
          refine AllReadyH.cons rfl (fun K hK => ?_) AllReadyH.nil
          (refine step_app (by rfl) _ _ (by rfl) w5.heap.size w5.heap.size 0 0 [] rfl (by rfl) (ownB_new w5) ⟨g, 0, none⟩ k cap (L.take k) hT.out (by rfl) (src_take HRA.out k (by omega)) k l1.out l3 hbA ?_; intro g1 cap1 w6 hown1 hgr1)
          refine hK.out _ _ ?_ (fun hHeld => ?_)
          focus ((try dsimp only) <;> (trivial))
          clear hK K
          (try simp only [Act.put, List.getElem_toArray, List.getElem_cons_zero, List.getElem_cons_succ, List.setIfInBounds_toArray, List.set_cons_zero, List.set_cons_succ])
          refine wpAnyH_ready (rs := [6]) (by kernel_rfl) (by simp) ?_
          refine AllReadyH.cons rfl (fun K hK => ?_) AllReadyH.nil
          (have c6 := ((c5.alloc _).drew).grownBy hgr1 (by omega); go_simp; refine (l1Byte _ _ c6).mono ?_; rintro e w7 ⟨y, y0, y1, rfl, c7, q7⟩; have e1 : IntKind.u8.wrap y = y := (by rw [IntKind.wrap_u8]; omega); have HY : Hid ((UInt8.ofNat y.toNat).toNat = y) := u8_of y0 y1; have hown1' : OwnB w7 w5.heap.size g1 cap1 ([] ++ L.take k) := own_kept hown1 q7 (by omega))
          refine hK.out _ _ ?_ (fun hHeld => ?_)
          focus ((try dsimp only) <;> (trivial))
          clear hK K
          (try simp only [Act.put, List.getElem_toArray, List.getElem_cons_zero, List.getElem_cons_succ, List.setIfInBounds_toArray, List.set_cons_zero, List.set_cons_succ])
          refine wpAnyH_take (i := 7) (v := ?_) rfl (by kernel_rfl) (by kernel_rfl) (by kernel_rfl) (fun _ _ _ h => h) (Or.inl ⟨by rfl, ?_⟩) (by assumption) ?_
          rotate_left 1
          focus (intro wS hSw; (try dsimp only at hSw); go_simp; first | done | (constructor <;> with_reducible rfl) | with_reducible rfl)
          (try simp only [Act.put, List.getElem_toArray, List.getElem_cons_zero, List.getElem_cons_succ, List.setIfInBounds_toArray, List.set_cons_zero, List.set_cons_succ])
          refine wpAnyH_ready (rs := [8]) (by kernel_rfl) (by simp) ?_
          refine AllReadyH.cons rfl (fun K hK => ?_) AllReadyH.nil
          go_simp
          refine hK.out _ _ ?_ (fun hHeld => ?_)
          focus ((try dsimp only) <;> (trivial))
          clear hK K
          (try simp only [Act.put, List.getElem_toArray, List.getElem_cons_zero, List.getElem_cons_succ, List.setIfInBounds_toArray, List.set_cons_zero, List.set_cons_succ])
          refine wpAnyH_ready (rs := [9]) (by kernel_rfl) (by simp) ?_
          refine AllReadyH.cons rfl (fun K hK => ?_) AllReadyH.nil
          (refine step_app (by rfl) _ _ (by rfl) w5.heap.size g1 k cap1 (L.take k) hT.out (by rfl) (World.ownsRow.alloc hown1' _) ⟨w7.heap.size, 0, none⟩ 1 1 [UInt8.ofNat y.toNat] rfl (by rfl) (new_one HY.out) (k + 1) rfl l5 (by have := q7.size; have := hgr1.size; simp; omega) ?_; intro g2 cap2 w8 hown2 hgr2)
          refine hK.out _ _ ?_ (fun hHeld => ?_)
          focus ((try dsimp only) <;> (trivial))
          clear hK K
          (try simp only [Act.put, List.getElem_toArray, List.getElem_cons_zero, List.getElem_cons_succ, List.setIfInBounds_toArray, List.set_cons_zero, List.set_cons_succ])
          refine wpAnyH_ready (rs := [13]) (by kernel_rfl) (by simp) ?_
          refine AllReadyH.cons rfl (fun K hK => ?_) AllReadyH.nil
          (refine step_app (by rfl) _ _ (by rfl) w5.heap.size g2 (k + 1) cap2 (L.take k ++ [UInt8.ofNat y.toNat]) (by simp; omega) (by rfl) hown2 ⟨g, k, none⟩ (L.length - k) (cap - k) (L.drop k) hD.out (by rfl) (src_drop (Row.grownBy (Row.alloc' (Row.kept (HRA.out.grownBy hgr1 hgA hng) q7 (Nat.lt_of_lt_of_le hgA hgr1.size) (by omega)) (Nat.lt_of_lt_of_le (Nat.lt_of_lt_of_le hgA hgr1.size) q7.size) _) hgr2 (by have := q7.size; have := hgr1.size; simp; omega) (by have := hown1'.row.1; omega)) k) (L.length + 1) l2.out l4 (by have := q7.size; have := hgr1.size; have := hgr2.size; simp at this; omega) ?_; intro g3 cap3 w9 hown3 hgr3)
          refine hK.out _ _ ?_ (fun hHeld => ?_)
          focus ((try dsimp only) <;> (trivial))
          clear hK K
          (try simp only [Act.put, List.getElem_toArray, List.getElem_cons_zero, List.getElem_cons_succ, List.setIfInBounds_toArray, List.set_cons_zero, List.set_cons_succ])
          refine wpAnyH_take (i := 14) (v := ?_) rfl (by kernel_rfl) (by kernel_rfl) (by kernel_rfl) (fun _ _ _ h => h) (Or.inl ⟨by rfl, ?_⟩) (by assumption) ?_
          rotate_left 1
          focus (intro wS hSw; (try dsimp only at hSw); go_simp; first | done | (constructor <;> with_reducible rfl) | with_reducible rfl)
          (try simp only [Act.put, List.getElem_toArray, List.getElem_cons_zero, List.getElem_cons_succ, List.setIfInBounds_toArray, List.set_cons_zero, List.set_cons_succ])
          refine wpAnyH_done (by kernel_rfl) ?_ _
          refine NoPanic.normal ?_
          obtain ⟨o1, o2, o3, o4⟩ := hown1'.row
          obtain ⟨p1, p2, p3, p4⟩ := hown2.row
          obtain ⟨r1, r2, r3, r4⟩ := hown3.row
          have c8 := (c7.alloc _).grownBy hgr2 (by omega)
          have c9 := c8.grownBy hgr3 (by omega)
          have kw : w.heap.size ≤ w5.heap.size := kk5.size
          have kk6 := ((kk5.alloc _).drew).grownBy hgr1 kw
          have kk8 := ((kk6.trans q7).alloc _).grownBy hgr2 (by omega)
          have kk9 := kk8.grownBy hgr3 (by omega)
          have P2 : Hid (Row w9 g3 (L.take k ++ [UInt8.ofNat y.toNat] ++ L.drop k)) := r2
          have hlz : (L.take k ++ [UInt8.ofNat y.toNat] ++ L.drop k).length = L.length + 1 := by simp; omega
          have HLZ : Hid _ := hlz
          clear hown1 hown1' hown2 hown3 hgr1 hgr2 hgr3 o2 p2 r2 hlz q7
          go_wp2_with fail
          go_roundw
          case rel =>
            exact ⟨L.take k ++ [UInt8.ofNat y.toNat] ++ L.drop k, g3, cap3, m - 1, by omega, by omega, by rw [HLZ.out]; simp; omega, by rw [HLZ.out], by rw [HLZ.out]; have := HLZ.out; omega, rfl, P2, by omega, r4, c9, kk9⟩
          case measure => simp [intOf]; omega
      · have hL0 : L.length = 0 := by omega
        obtain rfl : L = [] := List.eq_nil_of_length_eq_zero hL0
        have hback := text_byteRow hrow.out 0 cap rfl
        go_wp2_with fail
        go_ret
        exact ⟨⟨#[]⟩, by show 0 ≤ _; omega, rfl, cr, kr⟩
    · have hback := text_byteRow hrow.out L.length cap rfl
      go_wp2_with fail
      go_ret
      exact ⟨⟨L.toArray⟩, by show L.length ≤ _; omega, rfl, cr, kr⟩

end Go.Proofs.Ytecgfnpniklhhaa.Draw
