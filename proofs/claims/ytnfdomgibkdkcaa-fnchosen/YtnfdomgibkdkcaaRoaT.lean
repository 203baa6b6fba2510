/- Contract of the program's OpenOnes (chapter 10): the map is gone through in whatever order; lists of at most 2^21 roads. -/
import Derived.Test.YtnfdomgibkdkcaaRoaP
import Derived.Test.YtnfdomgibkdkcaaRoaS
namespace Go.Proofs.Ytnfdomgibkdkcaa.Roa
open Go.RowKit RowG
set_option linter.unusedVariables false
set_option linter.unusedSimpArgs false

theorem openN_rise : ∀ (l : List Rd) (k : Nat), (openN k l).Pairwise (· ≤ ·) ∧ ∀ x ∈ openN k l, (k : Int) ≤ x
  | [], k => ⟨List.Pairwise.nil, fun x hx => by simp [openN] at hx⟩
  | a :: l, k => by
    obtain ⟨h1, h2⟩ := openN_rise l (k + 1)
    simp only [openN]
    split
    · refine ⟨List.pairwise_cons.2 ⟨fun x hx => by have := h2 x hx; omega, h1⟩, fun x hx => ?_⟩
      rcases List.mem_cons.1 hx with q | q
      · omega
      · have := h2 x q; omega
    · exact ⟨h1, fun x hx => by have := h2 x hx; omega⟩
theorem openL_rise (l : List Rd) : (openL l).Pairwise (· ≤ ·) := by
  unfold openL
  split
  · exact (openN_rise l 0).1
  · exact List.Pairwise.nil
theorem openL_len (l : List Rd) : (openL l).length ≤ 4 := by
  unfold openL
  split
  · rename_i h
    have := openN_len l 0
    simp only [roadsB, Bool.and_eq_true, decide_eq_true_eq] at h
    omega
  · simp
/-- What was gone through: the numbers at these entries. -/
def seenL (G : List Gr) (S : List Nat) : List Int := S.flatMap fun j => (G[j]?.map openX).getD []
theorem range_flat : ∀ (G : List Gr) (k : Nat) (F : Nat → List Int), (∀ i, i < G.length → F (k + i) = (G[i]?.map openX).getD []) → (List.range' k G.length).flatMap F = openG G
  | [], k, F, _ => rfl
  | x :: G, k, F, h => by
    have h0 := h 0 (by simp)
    have ih := range_flat G (k + 1) F (fun i hi => by
      have := h (i + 1) (by simpa using hi)
      rw [show k + 1 + i = k + (i + 1) by omega, this]
      simp)
    simp only [List.length_cons, List.range'_succ, List.flatMap_cons, openG]
    rw [show openG G = List.flatMap openX G from rfl] at ih
    rw [ih]
    simp at h0
    rw [h0]
theorem seen_all {G : List Gr} {S : List Nat} (hn : S.Nodup) (hl : ∀ j ∈ S, j < G.length) (hall : ∀ j, j < G.length → j ∈ S) : (seenL G S).Perm (openG G) := by
  have hp : S.Perm (List.range' 0 G.length) := (List.perm_ext_iff_of_nodup hn List.nodup_range').2 fun a => by
    rw [List.mem_range'_1]
    exact ⟨fun h => ⟨Nat.zero_le _, by have := hl a h; omega⟩, fun h => hall a (by omega)⟩
  have e := range_flat G 0 (fun j => (G[j]?.map openX).getD []) (fun i _ => by rw [Nat.zero_add])
  rw [← e]
  exact hp.flatMap_right _
/-- How many were gone through. -/
def seenN (w : World) (r : Nat) : Nat := match w.heap[r]? with | some (.mapIter _ _ s _) => s.size | _ => 0

/-- The next of a map that is gone through. -/
theorem next_at {w : World} {B b m r : Nat} {G : List Gr} {S : List Nat} (M : MapAt w B b G m) (hr : w.heap[r]? = some (.mapIter (some b) m S.toArray m)) (ty : TypeId) :
    ((∀ j, j < G.length → j ∈ S) ∧ (Instr.next (.pointer (some ⟨r, 0, none⟩)) false ty).run Try.prog w = .ok (.tuple #[.bool false]) w) ∨
    ∃ (j : Nat) (x : Gr) (w' : World), G[j]? = some x ∧ j ∉ S ∧ (Instr.next (.pointer (some ⟨r, 0, none⟩)) false ty).run Try.prog w = .ok (.tuple #[.bool true, x.key.v, x.val]) w' ∧ (Instr.entry (.pointer (some ⟨r, 0, none⟩))).run Try.prog w' = .ok (.tuple #[x.key.v, x.val]) w' ∧ MapAt w' B b G m ∧ w'.heap[r]? = some (.mapIter (some b) m (S ++ [j]).toArray m) ∧ w.grownBy w' (some r) ∧ w'.heap.size = w.heap.size := by
  have hold : ∀ x ∈ (ents 0 G).toArray.toList, x.born < m := by
    intro x hx
    obtain ⟨i, y, hi, rfl⟩ := ents_mem (by simpa using hx)
    have h1 := (List.getElem?_eq_some_iff.1 hi).1
    have h2 := M.clock
    simp only [ent]
    omega
  have hne : r ≠ b := by
    intro e
    have := M.blk
    rw [← e, hr] at this
    cases this
  rcases run_next_at (P := Try.prog) w ty r b m m S.toArray (ents 0 G).toArray m hr M.blk hold (Nat.le_refl _) with ⟨h0, hrun⟩ | ⟨e, he, w1, hw1, hrun⟩
  · refine .inl ⟨fun j hj => ?_, hrun⟩
    have hmem : ent j G[j] ∈ ents 0 G := List.mem_of_getElem? (i := j) (by rw [ents_at, List.getElem?_eq_getElem hj]; simp)
    have hz : leftOf (ents 0 G).toArray S.toArray = #[] := Array.eq_empty_of_size_eq_zero h0
    unfold leftOf at hz
    rw [Array.filter_eq_empty_iff] at hz
    have := hz (ent j G[j]) (by simpa using hmem)
    simpa [ent] using this
  · have he' : e ∈ (ents 0 G).toArray ∧ (!S.toArray.contains e.born) = true := by
      unfold leftOf at he
      have := Array.mem_filter.1 (Array.mem_toList_iff.1 he)
      exact this
    obtain ⟨j, x, hj, rfl⟩ := ents_mem (k := 0) (G := G) (by simpa using he'.1)
    have hjS : j ∉ S := by
      have := he'.2
      simpa [ent] using this
    have hr1 : w1.heap[r]? = some (.mapIter (some b) m S.toArray m) := by rcases hw1 with rfl | rfl <;> exact hr
    have M1 : MapAt w1 B b G m := by
      rcases hw1 with rfl | rfl
      · exact M
      · exact ⟨M.blk, M.own, M.apart, M.keys, M.right, M.clock⟩
    have g1 : w.grownBy w1 (some r) := by
      rcases hw1 with rfl | rfl
      · exact ⟨rfl, rfl, rfl, Nat.le_refl _, fun _ _ _ => rfl⟩
      · exact ⟨rfl, rfl, rfl, Nat.le_refl _, fun _ _ _ => rfl⟩
    have s1 : w1.heap.size = w.heap.size := by rcases hw1 with rfl | rfl <;> rfl
    obtain ⟨g2, b2, s2⟩ := setBlock_grown (o' := .mapIter (some b) m (S.toArray.push (ent (0 + j) x).born) m) hr1
    have hxr : ∀ y ∈ G, y.g ≠ r := by
      intro y hy e
      obtain ⟨cs, hcs⟩ := own_rowS (M1.own y hy)
      rw [e, hr1] at hcs
      cases hcs
    have M2 : MapAt (ChangeMaps.setBlock w1 r (.mapIter (some b) m (S.toArray.push (ent (0 + j) x).born) m)) B b G m :=
      ⟨(g2.block b M1.lt (by simpa using Ne.symm hne)).trans M1.blk, fun y hy => (M1.own y hy).grown g2 (fun z hz => by cases hz; simpa using hxr y hy), M1.apart, M1.keys, M1.right, M1.clock⟩
    have hpush : (S.toArray.push (ent (0 + j) x).born) = (S ++ [j]).toArray := by simp [ent]
    refine .inr ⟨j, x, _, hj, hjS, hrun, ?_, M2, ?_, g1.trans g2, s2.trans s1⟩
    · exact run_entry_at (P := Try.prog) _ r b m S.toArray (ents 0 G).toArray m (ent (0 + j) x) b2 M2.blk (by simpa using he'.1) (by
        have := ents_born G 0
        simp only
        rw [this]
        exact List.nodup_range')
    · rw [b2, hpush]

/-- Some elements more behind a row that is not nil: where the row lies then. -/
theorem wpList_appM {α : Type} {E : El α} {P : Program} {tS T : TypeId} {bytes : Nat} (ty : Typ P tS T E bytes) (hby : bytes ≤ 1024) {w : World} {ops : Array Oper} {rest : List Oper} {o : Oper} {a : Act} {Q : Exit → Act → World → Prop} (hgd : o.guard = none) (s x : Operand)
    (ho : o.op = .call { callee := .builtin .append, args := #[s, x], argTypes := #[tS, tS] })
    (B g : Nat) (c n : Nat) (l1 l2 : List α) (hn : n = l1.length) (hs : a.eval s = .slice (some ⟨g, 0, none⟩) n c) (hown : E.Own T w B (some ⟨g, 0, none⟩) c l1) (hB : B ≤ w.heap.size)
    (sp : Addr) (m cap : Nat) (hm : m = l2.length) (hx : a.eval x = .slice (some sp) m cap) (hsp : E.Lies w (some sp) l2) (hl : l1.length + l2.length ≤ 4194304)
    (h : ∀ g' c' w', E.Own T w' B (some ⟨g', 0, none⟩) c' (l1 ++ l2) → w.grownBy w' (some g) → (g' = g ∨ g' = w.heap.size) → wpList P ops Q rest (a.put o.dst (.slice (some ⟨g', 0, none⟩) (n + m) c')) w') : wpList P ops Q (o :: rest) a w := by
  subst hn hm
  obtain ⟨hu, i, z, hi, hz0, hz1, hz2, hz3⟩ := ty
  refine wpList_append_own_at w hgd s x tS ho B T i z E.size bytes hu hi hz0 hz1 hz2 hz3 E.pos _ l1.length (E.vals l1) hs hown sp l2.length cap (E.vals l2) hx (E.vals_len l2) (hsp.src rfl) (E.vals_cells l2) (by unfold maxLen; omega) ?_ hB ?_
  · have : (l1.length + l2.length) * bytes ≤ 4194304 * 1024 := Nat.mul_le_mul hl hby
    omega
  · intro v' w' h1 h3 h4 h5
    rw [own_blk] at h3 h5
    rcases h1.2 with ⟨hv, q⟩ | ⟨g', cap', cur, hv, _⟩
    · exact absurd (h4.1 hv).1 (by simp)
    · subst hv
      refine h _ cap' w' ?_ h3 ?_
      · unfold El.Own
        rw [List.length_append, E.vals_append]
        exact h1
      · rcases h5 with q | q
        · exact .inl (by simpa [Value.ownBlock, blk] using q)
        · exact .inr (by simpa [Value.ownBlock] using q)
theorem seen_len {G : List Gr} {S : List Nat} (hn : S.Nodup) (hl : ∀ j ∈ S, j < G.length) : (seenL G S).length ≤ (openG G).length := by
  have hT : ((List.range' 0 G.length).filter (fun j => decide (j ∉ S))).Nodup := List.Pairwise.filter _ List.nodup_range'
  have hST : (S ++ (List.range' 0 G.length).filter (fun j => decide (j ∉ S))).Nodup := by
    refine List.nodup_append.2 ⟨hn, hT, fun a ha c hc e => ?_⟩
    subst e
    simp at hc
    exact hc.2 ha
  have hp := seen_all (G := G) (S := S ++ (List.range' 0 G.length).filter (fun j => decide (j ∉ S))) hST
    (fun j hj => by
      rcases List.mem_append.1 hj with q | q
      · exact hl j q
      · simp at q; omega)
    (fun j hj => by
      by_cases q : j ∈ S
      · exact List.mem_append.2 (.inl q)
      · refine List.mem_append.2 (.inr ?_)
        simp
        exact ⟨hj, q⟩)
  rw [← hp.length_eq]
  simp only [seenL, List.flatMap_append, List.length_append]
  omega
theorem nodup_len {n : Nat} {S : List Nat} (hn : S.Nodup) (hl : ∀ j ∈ S, j < n) : S.length ≤ n := by
  have hT : ((List.range' 0 n).filter (fun j => decide (j ∉ S))).Nodup := List.Pairwise.filter _ List.nodup_range'
  have hST : (S ++ (List.range' 0 n).filter (fun j => decide (j ∉ S))).Nodup := by
    refine List.nodup_append.2 ⟨hn, hT, fun a ha c hc e => ?_⟩
    subst e
    simp at hc
    exact hc.2 ha
  have hp : (S ++ (List.range' 0 n).filter (fun j => decide (j ∉ S))).Perm (List.range' 0 n) := (List.perm_ext_iff_of_nodup hST List.nodup_range').2 fun j => by
    constructor
    · intro hj
      rcases List.mem_append.1 hj with q | q
      · have := hl j q; simp; omega
      · simp at q; simp; omega
    · intro hj
      simp at hj
      by_cases q : j ∈ S
      · exact List.mem_append.2 (.inl q)
      · refine List.mem_append.2 (.inr ?_)
        simp
        exact ⟨hj, q⟩
  have := hp.length_eq
  rw [List.length_append, List.length_range'] at this
  omega
theorem seen_snoc {G : List Gr} {S : List Nat} {j : Nat} {x : Gr} (hj : G[j]? = some x) : seenL G (S ++ [j]) = seenL G S ++ openX x := by
  simp [seenL, hj]

theorem run_rangeMap {P : Program} {w : World} {b m : Nat} {es : Array MapEntry} {t k e : TypeId} (hu : P.underlying t = some (.map k e)) (h : w.heap[b]? = some (.map es m)) : (Instr.range t (.map (some b))).run P w = .ok (.pointer (some ⟨w.heap.size, 0, none⟩)) (w.alloc (.mapIter (some b) m #[] m)) := by
  simp [Instr.range, run_underlying hu, MapKept.run_getObj_map h, Result.andThen]

set_option maxRecDepth 10000 in
set_option maxHeartbeats 4000000 in
theorem implOpenOnes (a : Option Addr) (n cap : Nat) (l : List Rd) (w : World) (hn : n = l.length) (h : E.Lies w a l) (hl : l.length ≤ 2097152) :
    Calls Try.prog 31 #[.slice a n cap] w fun x w' => ∃ g c, x = .returned (.slice (some ⟨g, 0, none⟩) (openL l).length c) ∧ OwnI w' w.heap.size g c (openL l) ∧ Below w.heap.size w w' := by
  subst hn
  have b0 : Below w.heap.size w (w.alloc (.cells #[] 2)) := (Below.refl _ _).alloc (Nat.le_refl _) _
  have o0 := ownI_empty w
  have L0 := h.alloc (.cells #[] 2)
  have hs0 : (w.alloc (.cells #[] 2)).heap.size = w.heap.size + 1 := by simp
  go_enter Try.func31, Try.ntmps31
  go_wp2_with fail
  refine (numbersByRoad _ _ _ l _ rfl L0 hl).mono ?_
  rintro x w1 ⟨b, rfl, G, m, M1, hb, hiff, hperm, b1⟩
  rw [hs0] at M1 hb
  have o1 : EI.Own 2 w1 w.heap.size (some ⟨w.heap.size, 0, none⟩) 0 [] := o0.later b1
  have B1 := b0.trans (b1.mono b0.size)
  have HP : Hid ((openG G).Perm (openL l)) := hperm
  have hrg := run_rangeMap (P := Try.prog) Try.underlying63 M1.blk
  have hw1 : w.heap.size + 1 ≤ w1.heap.size := by have := b1.size; rw [hs0] at this; exact this
  clear b0 o0 L0 b1 hiff hperm h hs0
  have M2 := M1.alloc (.mapIter (some b) m #[] m)
  have o2 := o1.alloc (.mapIter (some b) m #[] m)
  have B2 := B1.alloc B1.size (.mapIter (some b) m #[] m)
  have r2 : (w1.alloc (.mapIter (some b) m #[] m)).heap[w1.heap.size]? = some (.mapIter (some b) m ([] : List Nat).toArray m) := heap_alloc_new w1 _
  have hgG : ∀ x ∈ G, x.g ≠ w.heap.size := fun x hx => by have := ((M1.own x hx).lt _ rfl).1; simp only at this; omega
  clear M1 o1 B1
  generalize hrr : w1.heap.size = r at *
  generalize w1.alloc (.mapIter (some b) m #[] m) = w2 at *
  have hrw : w.heap.size ≤ r := by omega
  clear hrr hw1
  go_wp2_with fail
  go_loopw [3] (fun v wr => ∃ (S : List Nat) (g c : Nat) (out : List Int), v = .slice (some ⟨g, 0, none⟩) out.length c ∧ EI.Own 2 wr w.heap.size (some ⟨g, 0, none⟩) c out ∧ MapAt wr (w.heap.size + 1) b G m ∧ wr.heap[r]? = some (.mapIter (some b) m S.toArray m) ∧ Hid (out = seenL G S ∧ S.Nodup ∧ (∀ j ∈ S, j < G.length) ∧ (∀ x ∈ G, x.g ≠ g)) ∧ Below w.heap.size w wr) (fun _ wr => G.length - seenN wr r)
  case atStart => exact ⟨[], _, _, [], rfl, o2, M2, r2, ⟨rfl, List.nodup_nil, fun j hj => by simp at hj, hgG⟩, B2⟩
  case round =>
    clear o2 M2 r2 B2 hgG hrg
    obtain ⟨S, g, c, out, rfl, o1, M1, r1, hh, B1⟩ := hrel
    have hlen := seen_len hh.out.2.1 hh.out.2.2.1
    rw [← hh.out.1] at hlen
    have hlo : (openG G).length ≤ 4 := by rw [HP.out.length_eq]; exact openL_len l
    have hgr : g ≠ r := by
      intro e
      obtain ⟨cs, hcs⟩ := own_rowS o1
      rw [e, r1] at hcs
      cases hcs
    rcases next_at M1 r1 0 with ⟨hall, hnx⟩ | ⟨j, x, w3, hj, hjS, hnx, hen, M3, r3, g3, s3⟩
    · have hpo : out.Perm (openL l) := by
        rw [hh.out.1]
        exact (seen_all hh.out.2.1 hh.out.2.2.1 hall).trans HP.out
      have HPO : Hid _ := hpo
      have hgw := (o1.lt _ rfl).1
      clear hall M1 r1 hh hpo
      go_wp2_with fail
      refine (sortInts w.heap.size g c _ out _ rfl o1 (by omega)).mono ?_
      rintro x w4 ⟨rfl, ⟨l', p', s', o'⟩, k'⟩
      have e : l' = openL l := List.Perm.eq_of_pairwise (le := (· ≤ ·)) (fun a b _ _ h1 h2 => by omega) s' (openL_rise l) (p'.trans HPO.out)
      have hel : out.length = (openL l).length := HPO.out.length_eq
      subst e
      have B4 := B1.trans (k'.below hgw B1.size)
      have HEL : Hid _ := hel
      clear p' s' k' o1 hnx HPO hel hlen
      go_wp2_with fail
      go_ret
      exact ⟨g, c, by rw [← HEL.out]; rfl, o', B4⟩
    · have o3 := own_grownS o1 g3 hgr
      have hgl := (o1.lt _ rfl).1
      have hrl : w.heap.size ≤ r := hrw
      have B3 := grown_below B1 (Nat.le_refl _) (fun t ht => by cases ht; exact hrl) g3
      have hn' : (S ++ [j]).Nodup := List.nodup_append.2 ⟨hh.out.2.1, by simp, fun p hp q hq e => by simp at hq; subst hq; subst e; exact hjS hp⟩
      have hl' : ∀ t ∈ S ++ [j], t < G.length := fun t ht => by
        rcases List.mem_append.1 ht with q | q
        · exact hh.out.2.2.1 t q
        · simp at q; rw [q]; exact (List.getElem?_eq_some_iff.1 hj).1
      have hsn : seenL G (S ++ [j]) = out ++ openX x := by rw [seen_snoc (S := S) hj, hh.out.1]
      have hlen' := seen_len hn' hl'
      rw [hsn] at hlen'
      have hx := List.mem_of_getElem? hj
      have hox := M3.own x hx
      have hgG := hh.out.2.2.2
      have hms : seenN w3 r = (S ++ [j]).length := by simp [seenN, r3]
      have hms1 : seenN wr r = S.length := by simp [seenN, r1]
      have hjl := (List.getElem?_eq_some_iff.1 hj).1
      have hSl : S.length < G.length := by
        have h1 := nodup_len hn' hl'
        simp at h1
        omega
      have hxg := hgG x hx
      obtain ⟨⟨ro, rc, rs, rl⟩, ns, gx, cx⟩ := x
      dsimp only [Rd.v, Gr.val, openX] at hnx hen hlen' hsn hox hxg
      have HN : Hid (out ++ (if ro = true then ns else []) = seenL G (S ++ [j]) ∧ (S ++ [j]).Nodup ∧ (∀ t ∈ S ++ [j], t < G.length) ∧ (∀ x ∈ G, x.g ≠ g)) := ⟨hsn.symm, hn', hl', hgG⟩
      have HMS : Hid (seenN w3 r = S.length + 1 ∧ seenN wr r = S.length) := ⟨by rw [hms]; simp, hms1⟩
      clear hms hms1
      clear M1 r1 o1 B1 hh hj hsn hn' hl' hx hgG hlen
      have M4 := M3.alloc (.cells #[.bool ro, .int .i64 rc, .int .i64 rs, .int .i64 rl] 36)
      have r4 := (Below.heap_alloc w3 (.cells #[.bool ro, .int .i64 rc, .int .i64 rs, .int .i64 rl] 36) r (Array.getElem?_eq_some_iff.1 r3).1).trans r3
      have o4 := o3.alloc (.cells #[.bool ro, .int .i64 rc, .int .i64 rs, .int .i64 rl] 36)
      have ox4 := hox.alloc (.cells #[.bool ro, .int .i64 rc, .int .i64 rs, .int .i64 rl] 36)
      have B4 := B3.alloc B3.size (.cells #[.bool ro, .int .i64 rc, .int .i64 rs, .int .i64 rl] 36)
      have v4 : Var 36 (w3.alloc (.cells #[.bool ro, .int .i64 rc, .int .i64 rs, .int .i64 rl] 36)) w3.heap.size [.bool ro, .int .i64 rc, .int .i64 rs, .int .i64 rl] := Var.new w3 _
      have HM4 : Hid (seenN (w3.alloc (.cells #[.bool ro, .int .i64 rc, .int .i64 rs, .int .i64 rl] 36)) r = S.length + 1) := by
        show _ = _
        simp [seenN, r4]
      clear M3 r3 o3 hox B3 g3 s3
      cases ro
      · have HF : Hid (out = seenL G (S ++ [j]) ∧ (S ++ [j]).Nodup ∧ (∀ t ∈ S ++ [j], t < G.length) ∧ (∀ x ∈ G, x.g ≠ g)) := by
          have := HN.out
          simp only [Bool.false_eq_true, if_false, List.append_nil] at this
          exact this
        clear HN hlen' ox4
        go_wp2_with fail
        go_roundw
        case rel => exact ⟨S ++ [j], g, c, out, rfl, o4, M4, r4, HF, B4⟩
        case measure =>
          rw [HM4.out, HMS.out.2]
          omega
      · have HF : Hid (out ++ ns = seenL G (S ++ [j]) ∧ (S ++ [j]).Nodup ∧ (∀ t ∈ S ++ [j], t < G.length) ∧ (∀ x ∈ G, x.g ≠ g)) := by
          have := HN.out
          simp only [if_true] at this
          exact this
        simp only [if_true, List.length_append] at hlen'
        clear HN
        have n4 := B4.size
        have L4 := ox4.lies
        go_wp2_with (at_builtin; refine wpList_appM tyI (by decide) (by rfl) _ _ (by rfl) w.heap.size g c _ out ns rfl (by rfl) o4 n4 ⟨gx, 0, none⟩ _ cx rfl (by rfl) L4 (by omega) ?_; intro g5 c5 w5 q5 gr5 loc5; refine stand ?_)
        have M5 : MapAt w5 (w.heap.size + 1) b G m := by
          refine ⟨(gr5.block b M4.lt ?_).trans M4.blk, fun y hy => (M4.own y hy).grown gr5 (fun z hz => by cases hz; simpa using HF.out.2.2.2 y hy), M4.apart, M4.keys, M4.right, M4.clock⟩
          intro e
          obtain ⟨cs, hcs⟩ := own_rowS o4
          have hb4 := M4.blk
          cases e
          rw [hcs] at hb4
          cases hb4
        have r5 := (gr5.block r (Array.getElem?_eq_some_iff.1 r4).1 (by simpa using Ne.symm hgr)).trans r4
        have B5 := grown_below B4 (Nat.le_refl _) (fun t ht => by cases ht; exact hgl) gr5
        have HM5 : Hid (seenN w5 r = S.length + 1) := by
          show _ = _
          simp [seenN, r5]
        have HG : Hid (out ++ ns = seenL G (S ++ [j]) ∧ (S ++ [j]).Nodup ∧ (∀ t ∈ S ++ [j], t < G.length) ∧ (∀ x ∈ G, x.g ≠ g5)) := by
          refine ⟨HF.out.1, HF.out.2.1, HF.out.2.2.1, fun y hy => ?_⟩
          rcases loc5 with e | e
          · rw [e]; exact HF.out.2.2.2 y hy
          · have := ((M4.own y hy).lt _ rfl).2
            simp only at this
            omega
        have hlo5 : (out ++ ns).length = out.length + ns.length := List.length_append
        have HLO : Hid _ := hlo5
        clear HM4 M4 r4 o4 B4 gr5 loc5 L4 ox4 v4 HF hlen' hlo5
        show wpList _ _ _ _ _ _
        go_wp2_with fail
        go_roundw
        case rel => exact ⟨S ++ [j], g5, c5, out ++ ns, by rw [HLO.out], q5, M5, r5, HG, B5⟩
        case measure =>
          rw [HM5.out, HMS.out.2]
          omega

end Go.Proofs.Ytnfdomgibkdkcaa.Roa
