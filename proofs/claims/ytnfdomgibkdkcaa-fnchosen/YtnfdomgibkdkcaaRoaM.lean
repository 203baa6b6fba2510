/- A map from roads to rows of numbers in memory (chapter 10): a road as a key; an entry taken and stored; cleared; gone through; plain. -/
import Derived.Test.YtnfdomgibkdkcaaRoaB
import Derived.DeepKeys5
import Derived.WideKeyEntry
import Derived.Maps.RangeRun
import Derived.Maps.RangeWalk
import Derived.Maps.AppendAt
namespace Go.Proofs.Ytnfdomgibkdkcaa.Roa
open Go.RowKit RowG
set_option linter.unusedVariables false
set_option linter.unusedSimpArgs false

theorem keyLaw : WideMaps.KeyLaw Try.prog 36 := deep_law_gate (by kernel_rfl) (Nat.le_of_ble_eq_true (by kernel_rfl)) (Nat.le_of_ble_eq_true (by kernel_rfl)) (by kernel_rfl) (by kernel_rfl)
theorem wf_pl {n : Int} (h0 : 0 ≤ n) (h1 : n ≤ 1000000000) : (Lit.int .i64 n).wf = true := WalkArith.wf_i64 (by omega)
theorem keyRoad (r : Rd) (h : rdB r = true) : ∃ l, keyOf Try.prog 36 r.v = some l := by
  obtain ⟨o, co, se, lo⟩ := r
  simp only [rdB, Bool.and_eq_true, decide_eq_true_eq, Num.plB] at h
  have w1 := wf_pl (n := co) (by omega) (by omega)
  have w2 := wf_pl (n := se) (by omega) (by omega)
  have w3 := wf_pl (n := lo) (by omega) (by omega)
  have hu := Try.underlying36
  have ub : Try.prog.underlying 4 = some .bool := by kernel_rfl
  have ui : Try.prog.underlying 2 = some (.int .i64) := by kernel_rfl
  have cb : Try.prog.cellsOf 4 = 1 := by kernel_rfl
  have ci : Try.prog.cellsOf 2 = 1 := by kernel_rfl
  have cr : Try.prog.cellsOf 36 = 4 := by kernel_rfl
  have hk : Try.prog.keyType 36 = true := by kernel_rfl
  have hf : (Rd.v ⟨o, co, se, lo⟩).formed Try.prog 36 = true := by
    simp [Value.formed, hu, cr]
  have e1 : ∀ d, Try.prog.keyLits (d + 1) 4 [.bool o] = some [.bool o] := fun d => by simp [Program.keyLits, ub]
  have e2 : ∀ d n, (Lit.int .i64 n).wf = true → Try.prog.keyLits (d + 1) 2 [.int .i64 n] = some [.int .i64 n] := fun d n hw => by simp [Program.keyLits, ui, hw]
  have e3 : ∀ d, Try.prog.keyLits (d + 1 + 1) 36 [.bool o, .int .i64 co, .int .i64 se, .int .i64 lo] = some [.bool o, .int .i64 co, .int .i64 se, .int .i64 lo] := fun d => by
    unfold Program.keyLits
    rw [hu]
    simp [ cr, cb, ci, e1, e2 _ _ w1, e2 _ _ w2, e2 _ _ w3]
  obtain ⟨d, hd⟩ : ∃ d, Try.prog.types.size = d + 1 := ⟨Try.prog.types.size - 1, by kernel_rfl⟩
  refine ⟨.string (keyBytes [.bool o, .int .i64 co, .int .i64 se, .int .i64 lo]), ?_⟩
  unfold keyOf
  rw [hu]
  simp only [hk, hf, Bool.and_self, if_true]
  show Option.map _ (Try.prog.keyLits (Try.prog.types.size + 1) 36 [.bool o, .int .i64 co, .int .i64 se, .int .i64 lo]) = _
  rw [hd, e3]
  rfl

theorem Rd.v_inj {a b : Rd} (h : a.v = b.v) : a = b := by
  cases a; cases b
  simp [Rd.v] at h
  simp [h]

/-- A road, its numbers, and where these lie. -/
structure Gr where
  key : Rd
  ns : List Int
  g : Nat
  c : Nat
def Gr.val (x : Gr) : Value := .slice (some ⟨x.g, 0, none⟩) x.ns.length x.c
def ent (i : Nat) (x : Gr) : MapEntry := ⟨x.key.v, x.val, i⟩
def ents : Nat → List Gr → List MapEntry
  | _, [] => []
  | k, x :: G => ent k x :: ents (k + 1) G
theorem ents_len : ∀ (G : List Gr) (k : Nat), (ents k G).length = G.length
  | [], _ => rfl
  | x :: G, k => by simp [ents, ents_len G (k + 1)]
theorem ents_at : ∀ (G : List Gr) (k i : Nat), (ents k G)[i]? = G[i]?.map (ent (k + i))
  | [], k, i => by simp [ents]
  | x :: G, k, 0 => by simp [ents]
  | x :: G, k, i + 1 => by
    simp only [ents, List.getElem?_cons_succ]
    rw [ents_at G (k + 1) i, show k + 1 + i = k + (i + 1) by omega]
theorem ents_append : ∀ (G : List Gr) (k : Nat) (x : Gr), ents k (G ++ [x]) = ents k G ++ [ent (k + G.length) x]
  | [], k, x => by simp [ents]
  | y :: G, k, x => by
    simp only [List.cons_append, ents, List.length_cons]
    rw [ents_append G (k + 1) x, show k + 1 + G.length = k + (G.length + 1) by omega]
theorem ents_set (G : List Gr) (k j : Nat) (x : Gr) : ents k (G.set j x) = (ents k G).set j (ent (k + j) x) := by
  apply List.ext_getElem?
  intro i
  rw [ents_at, List.getElem?_set, List.getElem?_set, ents_at, ents_len]
  by_cases e : j = i
  · subst e
    by_cases h : j < G.length <;> simp [h]
  · simp [e]
theorem ents_mem {G : List Gr} {k : Nat} {e : MapEntry} (h : e ∈ ents k G) : ∃ i x, G[i]? = some x ∧ e = ent (k + i) x := by
  obtain ⟨i, hi⟩ := List.mem_iff_getElem?.1 h
  rw [ents_at] at hi
  cases q : G[i]? with
  | none => rw [q] at hi; simp at hi
  | some x => rw [q] at hi; exact ⟨i, x, q, by simpa using hi.symm⟩
theorem ents_born : ∀ (G : List Gr) (k : Nat), (ents k G).map (·.born) = List.range' k G.length
  | [], k => rfl
  | x :: G, k => by simp [ents, ent, ents_born G (k + 1), List.range'_succ]

/-- The map lies in block b, its clock at m; the rows are the call's own, no two in one block. -/
structure MapAt (w : World) (B b : Nat) (G : List Gr) (m : Nat) : Prop where
  blk : w.heap[b]? = some (.map (ents 0 G).toArray m)
  own : ∀ x ∈ G, EI.Own 2 w B (some ⟨x.g, 0, none⟩) x.c x.ns
  apart : G.Pairwise (fun x y => x.g ≠ y.g)
  keys : G.Pairwise (fun x y => x.key ≠ y.key)
  right : ∀ x ∈ G, rdB x.key = true
  clock : G.length ≤ m
theorem MapAt.later {w w' : World} {B b m : Nat} {G : List Gr} (h : MapAt w B b G m) (hb : Below w.heap.size w w') : MapAt w' B b G m :=
  ⟨(hb.block b (Array.getElem?_eq_some_iff.1 h.blk).1).trans h.blk, fun x hx => (h.own x hx).later hb, h.apart, h.keys, h.right, h.clock⟩
theorem MapAt.alloc {w : World} {B b m : Nat} {G : List Gr} (h : MapAt w B b G m) (o : Obj) : MapAt (w.alloc o) B b G m :=
  ⟨(Below.heap_alloc _ _ _ (Array.getElem?_eq_some_iff.1 h.blk).1).trans h.blk, fun x hx => (h.own x hx).alloc o, h.apart, h.keys, h.right, h.clock⟩
theorem MapAt.lt {w : World} {B b m : Nat} {G : List Gr} (h : MapAt w B b G m) : b < w.heap.size := (Array.getElem?_eq_some_iff.1 h.blk).1
theorem MapAt.ne {w : World} {B b m : Nat} {G : List Gr} (h : MapAt w B b G m) {x : Gr} (hx : x ∈ G) : x.g ≠ b := by
  intro e
  obtain ⟨cs, hcs⟩ := own_rowS (h.own x hx)
  have := h.blk
  rw [← e, hcs] at this
  cases this
theorem mapAt_new (w : World) (B : Nat) : MapAt (w.alloc (.map #[] 0)) B w.heap.size [] 0 :=
  ⟨heap_alloc_new w _, fun x hx => by simp at hx, List.Pairwise.nil, List.Pairwise.nil, fun x hx => by simp at hx, Nat.le_refl _⟩

theorem setBlock_same {w : World} {b : Nat} {o : Obj} (h : w.heap[b]? = some o) : ChangeMaps.setBlock w b o = w := by
  have e : w.heap.setIfInBounds b o = w.heap := by
    apply Array.ext_getElem?
    intro i
    rw [Array.getElem?_setIfInBounds]
    by_cases q : b = i
    · subst q
      obtain ⟨lt, e⟩ := Array.getElem?_eq_some_iff.1 h
      simp [lt]
      exact e.symm
    · simp [q]
  unfold ChangeMaps.setBlock
  rw [e]
theorem setBlock_grown {w : World} {b : Nat} {o o' : Obj} (h : w.heap[b]? = some o) : w.grownBy (ChangeMaps.setBlock w b o') (some b) ∧ (ChangeMaps.setBlock w b o').heap[b]? = some o' ∧ (ChangeMaps.setBlock w b o').heap.size = w.heap.size := by
  refine ⟨⟨rfl, rfl, rfl, by simp [ChangeMaps.setBlock], fun i hi hne => (MapKept.heap_set h).2 i (fun e => hne (by rw [e]))⟩, (MapKept.heap_set h).1, by simp [ChangeMaps.setBlock]⟩

/-- The entry of a road, or a new one with nothing. -/
theorem run_entry_old {w : World} {B b m : Nat} {G : List Gr} (h : MapAt w B b G m) {r : Rd} {j : Nat} {x : Gr} (hj : G[j]? = some x) (hr : x.key = r) :
    (Instr.mapEntry 63 (.map (some b)) r.v).run Try.prog w = .ok (.tuple #[x.val, goInt j]) w := by
  subst hr
  have hu := Try.underlying63
  obtain ⟨kl, hkey⟩ := keyRoad x.key (h.right x (List.mem_of_getElem? hj))
  have hall : ∀ e ∈ (ents 0 G).toArray.toList, ∃ l, keyOf Try.prog 36 e.key = some l := by
    intro e he
    obtain ⟨i, y, hi, rfl⟩ := ents_mem (by simpa using he)
    exact keyRoad y.key (h.right y (List.mem_of_getElem? hi))
  have hat : (ents 0 G)[j]? = some (ent j x) := by rw [ents_at, hj]; simp
  rcases keyLaw.find w hkey _ hall with ⟨h1, h2⟩ | ⟨i, e, h1, h2, h3⟩
  · exact absurd rfl (h2 (ent j x) (by simpa using List.mem_of_getElem? hat))
  · have h2' : (ents 0 G)[i]? = some e := by simpa using h2
    rw [ents_at] at h2'
    cases q : G[i]? with
    | none => rw [q] at h2'; simp at h2'
    | some y =>
      rw [q] at h2'
      have e1 : e = ent i y := by simpa using h2'.symm
      subst e1
      have hk : y.key = x.key := Rd.v_inj h3
      have hij : i = j := by
        have hi' := (List.getElem?_eq_some_iff.1 q)
        have hj' := (List.getElem?_eq_some_iff.1 hj)
        obtain ⟨li, ei⟩ := hi'
        obtain ⟨lj, ej⟩ := hj'
        have hp := List.pairwise_iff_getElem.1 h.keys
        rcases Nat.lt_trichotomy i j with q1 | q1 | q1
        · exact absurd (by rw [ei, ej]; exact hk) (hp i j li lj q1)
        · exact q1
        · exact absurd (by rw [ei, ej]; exact hk.symm) (hp j i lj li q1)
      subst hij
      rw [hj] at q
      cases q
      have hsame : (ents 0 G).modify i (fun e => { e with key := x.key.v }) = ents 0 G := by
        apply List.ext_getElem?
        intro t
        rw [List.getElem?_modify]
        by_cases q : i = t
        · subst q; rw [hat]; simp [ent]
        · simp [q]
      have hst := keyLaw.stays w hkey
      have hrun : (Instr.mapEntry 63 (.map (some b)) x.key.v).run Try.prog w = .ok (.tuple #[x.val, goInt i]) (ChangeMaps.setBlock w b (.map (ents 0 G).toArray m)) := by
        simp [Instr.mapEntry, run_underlying hu, MapKept.run_getObj_map h.blk, keyLaw.check w false hkey, h1, hat, h3, ent, hst, hsame, MapKept.run_setObj_map _ h.blk, Result.andThen, ChangeMaps.setBlock]
      rw [setBlock_same h.blk] at hrun
      exact hrun
theorem zeroRow (w : World) : (zeroValue 32).run Try.prog w = .ok (.slice none 0 0) w := by kernel_rfl
theorem run_entry_new {w : World} {B b m : Nat} {G : List Gr} (h : MapAt w B b G m) {r : Rd} (hright : rdB r = true) (hr : ∀ x ∈ G, x.key ≠ r) :
    (Instr.mapEntry 63 (.map (some b)) r.v).run Try.prog w = .ok (.tuple #[.slice none 0 0, goInt m]) (ChangeMaps.setBlock w b (.map (ents 0 G ++ [({ key := r.v, val := .slice none 0 0, born := m } : MapEntry)]).toArray (m + 1))) := by
  have hu := Try.underlying63
  obtain ⟨kl, hkey⟩ := keyRoad r hright
  have hall : ∀ e ∈ (ents 0 G).toArray.toList, ∃ l, keyOf Try.prog 36 e.key = some l := by
    intro e he
    obtain ⟨i, y, hi, rfl⟩ := ents_mem (by simpa using he)
    exact keyRoad y.key (h.right y (List.mem_of_getElem? hi))
  rcases keyLaw.find w hkey _ hall with ⟨h1, h2⟩ | ⟨i, e, h1, h2, h3⟩
  · simp [Instr.mapEntry, run_underlying hu, MapKept.run_getObj_map h.blk, keyLaw.check w false hkey, h1, zeroRow, MapKept.run_setObj_map _ h.blk, Result.andThen, ChangeMaps.setBlock]
  · have h2' : (ents 0 G)[i]? = some e := by simpa using h2
    obtain ⟨t, y, ht, rfl⟩ := ents_mem (List.mem_of_getElem? h2')
    exact absurd (Rd.v_inj h3) (hr y (List.mem_of_getElem? ht))
/-- A value stored at an entry: the j-th was born j-th. -/
theorem run_store {w : World} {b m j : Nat} {es : List MapEntry} (h : w.heap[b]? = some (.map es.toArray m)) (hborn : es.map (·.born) = List.range' 0 es.length) (hj : j < es.length) (t : TypeId) (v : Value) :
    (Instr.entryStore t (.map (some b)) (goInt j) v).run Try.prog w = .ok () (ChangeMaps.setBlock w b (.map (es.modify j fun e => { e with val := v }).toArray m)) := by
  have hb : es[j].born = j := by
    have : (es.map (·.born))[j]? = some j := by rw [hborn, List.getElem?_range' (by exact hj)]; simp
    rw [List.getElem?_map, List.getElem?_eq_getElem hj] at this
    simpa using this
  have hidx : es.toArray.findIdx? (fun e => ((e.born : Nat) : Int) == ((j : Nat) : Int)) = some j := by
    rw [WideElems.findIdx_arr]
    have := WideElems.findIdx_born (l := es) (by rw [hborn]; exact List.nodup_range') (j := j) (e0 := es[j]) (List.getElem?_eq_getElem hj)
    rw [hb] at this
    exact this
  have hmod : es.toArray.modify j (fun e => { e with val := v }) = (es.modify j fun e => { e with val := v }).toArray := by simp
  simp [Instr.entryStore, MapKept.run_getObj_map h, asInt, asIntOf, goInt, hidx, MapKept.run_setObj_map _ h, Result.andThen, ChangeMaps.setBlock]

/-- One element more, or some: where the row lies then. -/
theorem wpList_appL {α : Type} {E : El α} {P : Program} {tS T : TypeId} {bytes : Nat} (ty : Typ P tS T E bytes) (hby : bytes ≤ 1024) {w : World} {ops : Array Oper} {rest : List Oper} {o : Oper} {a : Act} {Q : Exit → Act → World → Prop} (hgd : o.guard = none) (s x : Operand)
    (ho : o.op = .call { callee := .builtin .append, args := #[s, x], argTypes := #[tS, tS] })
    (B : Nat) (ao : Option Addr) (c n : Nat) (l1 l2 : List α) (hn : n = l1.length) (hs : a.eval s = .slice ao n c) (hown : E.Own T w B ao c l1) (hB : B ≤ w.heap.size)
    (sp : Addr) (m cap : Nat) (hm : m = l2.length) (hx : a.eval x = .slice (some sp) m cap) (hsp : E.Lies w (some sp) l2) (h2 : l2 ≠ []) (hl : l1.length + l2.length ≤ 4194304)
    (h : ∀ g' c' w', E.Own T w' B (some ⟨g', 0, none⟩) c' (l1 ++ l2) → w.grownBy w' (blk ao) → (some g' = blk ao ∨ g' = w.heap.size) → wpList P ops Q rest (a.put o.dst (.slice (some ⟨g', 0, none⟩) (n + m) c')) w') : wpList P ops Q (o :: rest) a w := by
  subst hn hm
  obtain ⟨hu, i, z, hi, hz0, hz1, hz2, hz3⟩ := ty
  refine wpList_append_own_at w hgd s x tS ho B T i z E.size bytes hu hi hz0 hz1 hz2 hz3 E.pos _ l1.length (E.vals l1) hs hown sp l2.length cap (E.vals l2) hx (E.vals_len l2) (hsp.src rfl) (E.vals_cells l2) (by unfold maxLen; omega) ?_ hB ?_
  · have : (l1.length + l2.length) * bytes ≤ 4194304 * 1024 := Nat.mul_le_mul hl hby
    omega
  · intro v' w' h1 h3 h4 h5
    rw [own_blk] at h3 h5
    rcases h1.2 with ⟨hv, q⟩ | ⟨g', cap', cur, hv, _⟩
    · have : l2.length = 0 := by omega
      exact absurd (List.eq_nil_of_length_eq_zero this) h2
    · subst hv
      refine h _ cap' w' ?_ h3 ?_
      · unfold El.Own
        rw [List.length_append, E.vals_append]
        exact h1
      · rcases h5 with q | q
        · exact .inl q
        · exact .inr (by simpa [Value.ownBlock] using q)

theorem ents_modify {G : List Gr} {k j : Nat} {x : Gr} (hj : G[j]? = some x) (ns : List Int) (g c : Nat) : (ents k G).modify j (fun e => { e with val := .slice (some ⟨g, 0, none⟩) ns.length c }) = ents k (G.set j ⟨x.key, ns, g, c⟩) := by
  rw [ents_set]
  apply List.ext_getElem?
  intro i
  rw [List.getElem?_modify, List.getElem?_set]
  by_cases e : j = i
  · subst e
    have hl := (List.getElem?_eq_some_iff.1 hj).1
    rw [ents_at, hj, if_pos rfl, if_pos (by rw [ents_len]; exact hl)]
    simp [ent, Gr.val]
  · simp [e]
theorem own_setBlock {α : Type} {E : El α} {T : TypeId} {w : World} {B b c : Nat} {g : Nat} {l : List α} {o o' : Obj} (h : E.Own T w B (some ⟨g, 0, none⟩) c l) (hb : w.heap[b]? = some o) (hne : g ≠ b) : E.Own T (ChangeMaps.setBlock w b o') B (some ⟨g, 0, none⟩) c l :=
  h.grown (setBlock_grown hb).1 (fun x hx => by cases hx; simpa using hne)
theorem MapAt.put_old {w w3 : World} {B b m j : Nat} {G : List Gr} {x : Gr} (h : MapAt w B b G m) (hj : G[j]? = some x) (gr : w.grownBy w3 (some x.g)) {g c : Nat} {ns : List Int} (own3 : EI.Own 2 w3 B (some ⟨g, 0, none⟩) c ns) (loc : g = x.g ∨ g = w.heap.size) :
    w3.heap[b]? = some (.map (ents 0 G).toArray m) ∧ MapAt (ChangeMaps.setBlock w3 b (.map ((ents 0 G).modify j fun e => { e with val := .slice (some ⟨g, 0, none⟩) ns.length c }).toArray m)) B b (G.set j ⟨x.key, ns, g, c⟩) m := by
  have hx := List.mem_of_getElem? hj
  have hb3 : w3.heap[b]? = some (.map (ents 0 G).toArray m) := (gr.block b h.lt (fun e => h.ne hx (by simpa using e.symm))).trans h.blk
  have hlj := (List.getElem?_eq_some_iff.1 hj).1
  have hgl : ∀ y ∈ G, y.g < w.heap.size := fun y hy => ((h.own y hy).lt _ rfl).2
  have hgb : g ≠ b := by
    rcases loc with e | e
    · rw [e]; exact h.ne hx
    · have := h.lt; omega
  have hoth : ∀ i y, G[i]? = some y → i ≠ j → y.g ≠ x.g := by
    intro i y hi hne
    have hli := (List.getElem?_eq_some_iff.1 hi).1
    have e1 := (List.getElem?_eq_some_iff.1 hi).2
    have e2 := (List.getElem?_eq_some_iff.1 hj).2
    have hp := List.pairwise_iff_getElem.1 h.apart
    rcases Nat.lt_or_gt_of_ne hne with q | q
    · have := hp i j hli hlj q; rw [e1, e2] at this; exact this
    · have := hp j i hlj hli q; rw [e1, e2] at this; exact Ne.symm this
  have hset : ∀ i y, (G.set j ⟨x.key, ns, g, c⟩)[i]? = some y → (i = j ∧ y = ⟨x.key, ns, g, c⟩) ∨ (i ≠ j ∧ G[i]? = some y) := by
    intro i y hi
    rw [List.getElem?_set] at hi
    by_cases e : j = i
    · subst e; rw [if_pos rfl, if_pos hlj] at hi; exact .inl ⟨rfl, by simpa using hi.symm⟩
    · rw [if_neg e] at hi; exact .inr ⟨fun q => e q.symm, hi⟩
  refine ⟨hb3, ?_, ?_, ?_, ?_, ?_, ?_⟩
  · rw [(setBlock_grown hb3).2.1, ents_modify hj]
  · intro y hy
    obtain ⟨i, hi⟩ := List.mem_iff_getElem?.1 hy
    rcases hset i y hi with ⟨_, rfl⟩ | ⟨hne, hi'⟩
    · exact own_setBlock own3 hb3 hgb
    · have hy' := List.mem_of_getElem? hi'
      refine own_setBlock ((h.own y hy').grown gr (fun z hz => by cases hz; simpa using hoth i y hi' hne)) hb3 (h.ne hy')
  · rw [List.pairwise_iff_getElem]
    intro i i' hi hi' hlt
    have q1 := hset i _ (List.getElem?_eq_getElem hi)
    have q2 := hset i' _ (List.getElem?_eq_getElem hi')
    have frs : ∀ t y, G[t]? = some y → t ≠ j → y.g ≠ g := by
      intro t y ht hne
      rcases loc with e | e
      · rw [e]; exact hoth t y ht hne
      · have := hgl y (List.mem_of_getElem? ht); omega
    rcases q1 with ⟨e1, e1'⟩ | ⟨e1, e1'⟩ <;> rcases q2 with ⟨e2, e2'⟩ | ⟨e2, e2'⟩
    · omega
    · rw [e1']; exact Ne.symm (frs i' _ e2' e2)
    · rw [e2']; exact frs i _ e1' e1
    · have hp := List.pairwise_iff_getElem.1 h.apart
      have l1 := (List.getElem?_eq_some_iff.1 e1').1
      have l2 := (List.getElem?_eq_some_iff.1 e2').1
      have := hp i i' l1 l2 hlt
      rw [(List.getElem?_eq_some_iff.1 e1').2, (List.getElem?_eq_some_iff.1 e2').2] at this
      exact this
  · have hk : (G.set j ⟨x.key, ns, g, c⟩).map (·.key) = G.map (·.key) := by
      rw [List.map_set]
      apply List.ext_getElem?
      intro i
      rw [List.getElem?_set]
      by_cases e : j = i
      · subst e; simp [hlj]; rw [(List.getElem?_eq_some_iff.1 hj).2]
      · simp [e]
    have hp : (G.map (·.key)).Pairwise (· ≠ ·) := List.pairwise_map.2 h.keys
    rw [← hk] at hp
    exact List.pairwise_map.1 hp
  · intro y hy
    obtain ⟨i, hi⟩ := List.mem_iff_getElem?.1 hy
    rcases hset i y hi with ⟨_, rfl⟩ | ⟨hne, hi'⟩
    · exact h.right x hx
    · exact h.right y (List.mem_of_getElem? hi')
  · rw [List.length_set]; exact h.clock
theorem MapAt.put_new {w w3 : World} {B b : Nat} {G : List Gr} {r : Rd} (h : MapAt w B b G G.length) (hright : rdB r = true) (hr : ∀ x ∈ G, x.key ≠ r)
    (gr : (ChangeMaps.setBlock w b (.map (ents 0 G ++ [({ key := r.v, val := .slice none 0 0, born := G.length } : MapEntry)]).toArray (G.length + 1))).grownBy w3 none) {g c : Nat} {ns : List Int} (own3 : EI.Own 2 w3 B (some ⟨g, 0, none⟩) c ns) (loc : g = w.heap.size) :
    w3.heap[b]? = some (.map (ents 0 G ++ [({ key := r.v, val := .slice none 0 0, born := G.length } : MapEntry)]).toArray (G.length + 1)) ∧ MapAt (ChangeMaps.setBlock w3 b (.map ((ents 0 G ++ [({ key := r.v, val := .slice none 0 0, born := G.length } : MapEntry)]).modify G.length fun e => { e with val := .slice (some ⟨g, 0, none⟩) ns.length c }).toArray (G.length + 1))) B b (G ++ [⟨r, ns, g, c⟩]) (G.length + 1) := by
  obtain ⟨gr1, hb1, hs1⟩ := setBlock_grown (o' := .map (ents 0 G ++ [({ key := r.v, val := .slice none 0 0, born := G.length } : MapEntry)]).toArray (G.length + 1)) h.blk
  have hb3 : w3.heap[b]? = some (.map (ents 0 G ++ [({ key := r.v, val := .slice none 0 0, born := G.length } : MapEntry)]).toArray (G.length + 1)) := (gr.block b (by rw [hs1]; exact h.lt) (by simp)).trans hb1
  have hgl : ∀ y ∈ G, y.g < w.heap.size := fun y hy => ((h.own y hy).lt _ rfl).2
  have hgb : g ≠ b := by have := h.lt; omega
  refine ⟨hb3, ?_, ?_, ?_, ?_, ?_, ?_⟩
  · rw [(setBlock_grown hb3).2.1, ents_append]
    have := WideElems.modify_last (fun e : MapEntry => { e with val := .slice (some ⟨g, 0, none⟩) ns.length c }) ({ key := r.v, val := .slice none 0 0, born := G.length } : MapEntry) (ents 0 G)
    rw [ents_len] at this
    rw [this]
    simp [ent, Gr.val]
  · intro y hy
    rcases List.mem_append.1 hy with hy | hy
    · have o1 := own_setBlock (o' := .map (ents 0 G ++ [({ key := r.v, val := .slice none 0 0, born := G.length } : MapEntry)]).toArray (G.length + 1)) (h.own y hy) h.blk (h.ne hy)
      exact own_setBlock (o1.grown gr (fun z hz => by simp)) hb3 (h.ne hy)
    · simp at hy
      subst hy
      exact own_setBlock own3 hb3 hgb
  · refine List.pairwise_append.2 ⟨h.apart, by simp, fun y hy z hz => ?_⟩
    simp at hz
    subst hz
    have := hgl y hy
    simp only
    omega
  · refine List.pairwise_append.2 ⟨h.keys, by simp, fun y hy z hz => ?_⟩
    simp at hz
    subst hz
    exact hr y hy
  · intro y hy
    rcases List.mem_append.1 hy with hy | hy
    · exact h.right y hy
    · simp at hy
      subst hy
      exact hright
  · simp
theorem MapAt.clear {w : World} {B b m : Nat} {G : List Gr} (h : MapAt w B b G m) : MapAt (ChangeMaps.setBlock w b (.map #[] m)) B b [] m :=
  ⟨(setBlock_grown h.blk).2.1, fun x hx => by simp at hx, List.Pairwise.nil, List.Pairwise.nil, fun x hx => by simp at hx, Nat.zero_le _⟩

/-- The numbers of the open roads of a map. -/
def openX (x : Gr) : List Int := if x.key.op then x.ns else []
def openG (G : List Gr) : List Int := G.flatMap openX
theorem openG_new (G : List Gr) (r : Rd) (k : Int) (g c : Nat) : openG (G ++ [⟨r, [k], g, c⟩]) = openG G ++ (if r.op then [k] else []) := by simp [openG, openX]
theorem openG_old {G : List Gr} {j : Nat} {x : Gr} (hj : G[j]? = some x) (k : Int) (g c : Nat) : (openG (G.set j ⟨x.key, x.ns ++ [k], g, c⟩)).Perm (openG G ++ (if x.key.op then [k] else [])) := by
  have hl := (List.getElem?_eq_some_iff.1 hj).1
  have e : G = G.take j ++ x :: G.drop (j + 1) := by
    have := List.drop_eq_getElem_cons hl
    rw [(List.getElem?_eq_some_iff.1 hj).2] at this
    rw [← this, List.take_append_drop]
  have e1 : openG G = openG (G.take j) ++ (openX x ++ openG (G.drop (j + 1))) := by
    conv => lhs; rw [e]
    simp [openG]
  have e2 : openG (G.set j ⟨x.key, x.ns ++ [k], g, c⟩) = openG (G.take j) ++ ((openX x ++ (if x.key.op then [k] else [])) ++ openG (G.drop (j + 1))) := by
    rw [List.set_eq_take_append_cons_drop, if_pos hl]
    simp only [openG, List.flatMap_append, List.flatMap_cons, openX]
    split <;> simp
  rw [e1, e2, List.append_assoc, List.append_assoc, List.append_assoc]
  exact (List.perm_append_comm.append_left _).append_left _

end Go.Proofs.Ytnfdomgibkdkcaa.Roa
