/- Contracts of this seat's functions, and their mathematics (TakH Rng). -/
import Derived.Test.YtldghgadkncehaaM8
import Derived.Test.YtldghgadkncehaaM7
import Derived.RangeFuncNested
import Derived.RangeFuncBound
import Derived.RangeFuncCalls
import Derived.RangeFuncLeaves
import Derived.OrdersIn
import Derived.Deep.Quiet
set_option linter.unusedVariables false
set_option linter.unusedSimpArgs false
namespace Go.Proofs.Ytldghgadkncehaa.Tak
open Go.RowKit RowG
/-- What Takes answers. -/
def takes (t : Tk) (p : Int) (bz : ByteArray) (e : Bool) : Tk × Bool := if t.ok then takeT t p bz e else (zeroK, false)
/-- A taker that is right is small. -/
theorem scan_bd {nx lim : Int} (hn : 0 ≤ nx) (hm : lim ≤ 2000000000) : ∀ {l : List Pt} {last out : Int}, scan nx lim last l = some out → Bd l
  | [], _, _, _ => fun p hp => by cases hp
  | q :: r, last, out, h => by
    rw [scan] at h
    split at h
    next hq =>
      intro p hp
      rcases List.mem_cons.1 hp with rfl | hp
      · have h1 := hq.1
        have h2 := hq.2.1
        have h3 := hq.2.2.2
        unfold endP at h3
        exact ⟨by omega, by omega, by omega⟩
      · exact scan_bd hn hm h p hp
    next => cases h
theorem scan_tot {nx lim : Int} : ∀ {l : List Pt} {last out : Int}, scan nx lim last l = some out → tot l ≤ 40 * l.length
  | [], _, _, _ => Nat.zero_le _
  | q :: r, last, out, h => by
    rw [scan] at h
    split at h
    next hq =>
      have := scan_tot h
      have h1 := hq.1.2
      simp only [tot, List.length_cons]
      omega
    next => cases h
theorem ok_scan {t : Tk} (h : t.ok = true) : inT t.nx t.bs t.l t.cp ∧ ∃ last, scan t.nx (limT t.nx t.bs t.cp) t.nx t.l = some last ∧ endB t.fi last t.nx t.en = true := by
  simp only [Tk.ok, takerB, Bool.and_eq_true, decide_eq_true_eq] at h
  refine ⟨h.1, ?_⟩
  have h2 := h.2
  split at h2
  · cases h2
  · rename_i last hl
    exact ⟨last, hl, h2⟩
theorem ok_small {t : Tk} (h : t.ok = true) : Bd t.l ∧ t.bs.size + tot t.l ≤ 1000000 := by
  obtain ⟨hin, last, hs, _⟩ := ok_scan h
  obtain ⟨⟨h1, h2⟩, ⟨h3, h4⟩, ⟨h5, h6⟩, h7⟩ := hin
  have hlim : limT t.nx t.bs t.cp ≤ 2000000000 := by unfold limT; omega
  have ht := scan_tot hs
  exact ⟨scan_bd h3 hlim hs, by omega⟩
end Go.Proofs.Ytldghgadkncehaa.Tak
namespace Go.Proofs.Ytldghgadkncehaa.Rng
open Go.RowKit Go.Proofs.Ytldghgadkncehaa.RowG
/-- Of the blocks of A only those of which m holds may have turned; new ones may lie behind. -/
structure Chg (m : Nat → Obj → Prop) (A B : World) : Prop where
  os : B.os = A.os
  tape : B.tape = A.tape
  output : B.output = A.output
  size : A.heap.size ≤ B.heap.size
  same : ∀ k o, A.heap[k]? = some o → ¬ m k o → B.heap[k]? = some o
variable {m m' : Nat → Obj → Prop} {A B C : World}
theorem Chg.refl (m : Nat → Obj → Prop) (A : World) : Chg m A A := ⟨rfl, rfl, rfl, Nat.le_refl _, fun _ _ h _ => h⟩
theorem Chg.trans (h : Chg m A B) (g : Chg m B C) : Chg m A C :=
  ⟨g.os.trans h.os, g.tape.trans h.tape, g.output.trans h.output, Nat.le_trans h.size g.size, fun k o hk hn => g.same k o (h.same k o hk hn) hn⟩
theorem Chg.mono (h : Chg m A B) (hm : ∀ k o, m k o → m' k o) : Chg m' A B :=
  ⟨h.os, h.tape, h.output, h.size, fun k o hk hn => h.same k o hk (fun e => hn (hm k o e))⟩
theorem lt_some {k : Nat} {o : Obj} (h : A.heap[k]? = some o) : k < A.heap.size := (Array.getElem?_eq_some_iff.1 h).1
theorem Chg.later (h : Below A.heap.size A B) : Chg m A B := ⟨h.os, h.tape, h.output, h.size, fun k o hk _ => (h.block k (lt_some hk)).trans hk⟩
theorem Chg.kept {c : Nat} (h : Draw.Kept c A B) (hc : ∀ o, A.heap[c]? = some o → m c o) : Chg m A B :=
  ⟨h.os, h.tape, h.output, h.size, fun k o hk hn => (h.block k (lt_some hk) (fun e => hn (by subst e; exact hc o hk))).trans hk⟩
theorem Chg.grown {r : Option Nat} (h : A.grownBy B r) (hc : ∀ g o, r = some g → A.heap[g]? = some o → m g o) : Chg m A B :=
  ⟨h.os, h.tape, h.output, h.size, fun k o hk hn => (h.block k (lt_some hk) (fun e => hn (hc k o e.symm hk))).trans hk⟩
theorem Chg.below {D : Nat} (h : Chg m A B) (hs : D ≤ A.heap.size) (hm : ∀ k o, k < D → ¬ m k o) : Below D A B :=
  ⟨h.os, h.tape, h.output, h.size, fun k hk => by
    have e : A.heap[k]? = some A.heap[k] := Array.getElem?_eq_getElem (by omega)
    rw [h.same k _ e (hm k _ hk), e]⟩
theorem Chg.put (A : World) {l : Nat} {o o' : Obj} (h : A.heap[l]? = some o) (hm : m l o) : Chg m A (A.putObj l o') :=
  Chg.grown (grownBy_putObj' A l o') (fun g x e hg => by cases e; rw [h] at hg; cases hg; exact hm)
/-- Cells lie as they lay, and whatever lies below b. -/
abbrev Std (b : Nat) : World → World → Prop := Chg (fun k o => b ≤ k ∧ o.isCells = false)
theorem Chg.var {T : TypeId} {k : Nat} {vs : List Value} (h : Chg m A B) (hv : Var T A k vs) (hn : ∀ o, o.isCells = true → ¬ m k o) : Var T B k vs := h.same k _ hv (hn _ rfl)
theorem Chg.cell {p : Addr} {v : Value} (h : Chg m A B) (hv : A.cell? p = some v) (hn : ∀ o, o.isCells = true → ¬ m p.block o) : B.heap[p.block]? = A.heap[p.block]? := by
  unfold World.cell? at hv
  cases ho : A.heap[p.block]? with
  | none => simp [ho] at hv
  | some o => exact h.same _ _ ho (hn o (by cases o <;> simp_all [Obj.isCells]))
theorem Chg.read {p : Addr} {v : Value} (h : Chg m A B) (hv : A.cell? p = some v) (hn : ∀ o, o.isCells = true → ¬ m p.block o) : B.cell? p = some v := (World.cell?_of_block (h.cell hv hn)).trans hv
theorem std_no {b k : Nat} : ∀ o : Obj, o.isCells = true → ¬ (b ≤ k ∧ o.isCells = false) := fun o h e => by rw [h] at e; cases e.2
theorem std_var {b : Nat} {T : TypeId} {k : Nat} {vs : List Value} (h : Std b A B) (hv : Var T A k vs) : Var T B k vs := h.var hv std_no
theorem std_lies {α : Type} {E : El α} {b : Nat} {a : Option Addr} {l : List α} (h : Std b A B) (hl : E.Lies A a l) : E.Lies B a l := by
  rcases hl with e | ⟨k, off, rfl, hc⟩
  · exact .inl e
  · exact .inr ⟨k, off, rfl, fun j u hu => h.read (hc j u hu) std_no⟩
def noDefer (o : Oper) : Bool := match o.op with
  | .defer _ => false
  | _ => true
theorem op_round {P : Program} {o : Oper} {a : Act} {w : World} {next : Act → World → Prop} {Q : Exit → Act → World → Prop} {l n : Nat} (hd : noDefer o = true) (h : o.wp P a w next Q) : o.wpIn (Fence.wide.inRound l) n P a w next Q := by
  refine ⟨fun _ _ => trivial, ?_⟩
  rw [Oper.semAt_eq _ _ _ (fun c e => by simp [noDefer, e] at hd)]
  unfold Oper.wp at h
  generalize (execOp a.eval o).run P w = r at *
  cases r with
  | ok x w' =>
    cases x <;> simp only [Oper.upon, Oper.uponIn] at h ⊢
    all_goals first
      | exact h
      | exact ⟨fun e => (by cases e), CallsIn.inRound l (callsIn_wide.2 h)⟩
      | exact ⟨fun e => (by cases e), fun c cs _ => let ⟨v, w2, r, s⟩ := h c cs; ⟨v, w2, r, stepsIn_wide.2 s⟩⟩
      | exact h.elim
  | halt x w' => cases x <;> simp only [Oper.upon, Oper.uponIn] at h ⊢ <;> exact h
theorem list_round {P : Program} {ops : Array Oper} {Q : Exit → Act → World → Prop} {l n : Nat} (hQ : ¬ LetsOut Q) : ∀ (ls : List Oper) (a : Act) (w : World), ls.all noDefer = true → wpList P ops Q ls a w → wpListIn (Fence.wide.inRound l) n P ops Q ls a w
  | [], a, w, _, h => h
  | o :: ls, a, w, hd, h => by
    simp only [List.all_cons, Bool.and_eq_true] at hd
    unfold wpListIn
    unfold wpList at h
    split
    · rename_i hw
      rw [if_pos hw] at h
      rcases h with h | ⟨_, h⟩
      · exact op_round hd.1 (Oper.wp_mono (fun a w h => list_round hQ ls a w hd.2 h) h)
      · exact absurd h hQ
    · rename_i hw
      rw [if_neg hw] at h
      exact ⟨fun _ _ => trivial, list_round hQ ls _ _ hd.2 h⟩
/-- A region inside a round, walked as outside of one. -/
theorem region_round {P : Program} {id : Nat} {ls : List Oper} {Q : Exit → Act → World → Prop} {a : Act} {w : World} {l n : Nat} (hd : ls.all noDefer = true) (hQ : ¬ LetsOut Q) (h : wpList P ls.toArray Q ls a w) : (Code.region id ls.toArray false).wpIn (Fence.wide.inRound l) n P Q a w :=
  wpIn_region_lit (list_round hQ ls a w hd h)
theorem any_round {P : Program} {md : Region.Mode} {ops : Array Oper} {Q : Exit → Act → World → Prop} {l n : Nat} (hQ : ¬ LetsOut Q) (hd : ops.toList.all noDefer = true) : ∀ (fuel : Nat) (listed : Array Bool) (a : Act) (w : World), wpAny P md ops Q fuel listed a w → wpAnyIn (Fence.wide.inRound l) n P md ops Q fuel listed a w
  | 0, listed, a, w, h => h
  | fuel + 1, listed, a, w, h => ⟨h.1, fun i hi => by
      have h2 := h.2 i hi
      unfold wpOpIn
      unfold wpOp at h2
      cases ho : ops[i]? with
      | none => simp only [ho] at h2 ⊢; exact any_round hQ hd fuel _ _ _ h2
      | some o =>
        have hdo : noDefer o = true := (List.all_eq_true.1 hd) o (by
          have := Array.mem_of_getElem? ho
          exact Array.mem_toList_iff.2 this)
        simp only [ho] at h2 ⊢
        split
        · rename_i hw
          rw [if_pos hw] at h2
          rcases h2 with h2 | ⟨_, h2⟩
          · exact op_round hdo (Oper.wp_mono (fun a w h => any_round hQ hd fuel _ a w h) h2)
          · exact absurd h2 hQ
        · rename_i hw
          rw [if_neg hw] at h2
          exact ⟨fun _ _ => trivial, any_round hQ hd fuel _ _ _ h2⟩⟩
/-- A region inside a round that draws its order and only reads. -/
theorem region_round_later {P : Program} {id : Nat} {Q : Exit → Act → World → Prop} {a : Act} {w : World} {ls : List Oper} {l n : Nat} (hm : P.follows .mixedOrders = true) (hB : Region.lexB .any ls.toArray = true) (hd : ls.all noDefer = true) (hQ : ¬ LetsOut Q)
    (h : wpQuiet P ls.toArray (fun w' => ∃ p : Draw.Later w, w' = p.v) (fun a' => ∀ w', (∃ p : Draw.Later w, w' = p.v) → Q .normal a' w') ls a) : (Code.region id ls.toArray true).wpIn (Fence.wide.inRound l) n P Q a w := by
  simp only [Region.lexB, Bool.and_eq_true] at hB
  refine wpIn_region_any hm (any_round hQ (by simpa using hd) _ _ _ _ (wpAny_of_quiet (C := fun w' => ∃ p : Draw.Later w, w' = p.v) (Q := fun a' => ∀ w', (∃ p : Draw.Later w, w' = p.v) → Q .normal a' w') (fun _ w' hw' h => h w' hw') _ _ _ _ ⟨⟨w.drew, (Below.refl _ _).drew⟩, rfl⟩ ?_))
  have := wpAnyQ_lex (C := fun w' => ∃ p : Draw.Later w, w' = p.v) (md := .any) hB.1 ls.toArray.toList 0 (Array.replicate ls.toArray.size false) a (by simp) (by simpa using hB.2) (by simpa using h)
  simpa using this
/-- The function value (g, lb) yields xs, whatever the loop does that turns blocks of 'mine' alone. -/
def Gives {α : Type} (P : Program) (g : Nat) (lb : Array Value) (encs : α → Array Value) (xs : List α) (mine : Nat → Obj → Prop) (w : World) : Prop :=
  ∀ (l : Nat) (J : Nat → World → Prop) (Jx : World → Prop) (W : World), Below w.heap.size w W → w.heap.size + 2 ≤ W.heap.size →
    (∀ i A B, J i A → Std W.heap.size A B → J i B) → (∀ A B, Jx A → Std W.heap.size A B → Jx B) →
    (∀ i x W1, xs[i]? = some x → J i W1 → YieldAt Fence.wide 0 P l (encs x) W1 fun e W' => (e = .returned (.bool true) ∧ J (i + 1) W' ∧ Chg mine W1 W') ∨ (e = .returned (.bool false) ∧ Jx W' ∧ Chg mine W1 W')) →
    J 0 W → CallsIn Fence.wide 0 P g (#[.func (.yield l) #[] #[]] ++ lb) W fun e W' => (∃ v, e = .returned v) ∧ (J xs.length W' ∨ Jx W')
/-- How a round's body may be left. -/
def left (mb : Nat → Obj → Prop) (I : Nat → World → Prop) (Ix : Code → World → Prop) (i : Nat) (W : World) : Exit → Act → World → Prop
  | .normal, _, W' => Chg mb W W' ∧ I (i + 1) W'
  | .ret, _, W' => Chg mb W W' ∧ Ix .ret W'
  | .exit id, _, W' => Chg mb W W' ∧ Ix (.exit id) W'
  | .goto t, _, W' => Chg mb W W' ∧ Ix (.goto t) W'
  | .panic _, _, _ => False
  | .outgrown, _, _ => False
theorem left_out (mb : Nat → Obj → Prop) (I : Nat → World → Prop) (Ix : Code → World → Prop) (i : Nat) (W : World) : ¬ LetsOut (left mb I Ix i W) := fun ⟨_, _, h⟩ => h
theorem then_out {K : Act → World → Prop} {Q : Exit → Act → World → Prop} (h : ¬ LetsOut Q) : ¬ LetsOut (Exit.then K Q) := fun ⟨a, w, e⟩ => h ⟨a, w, e⟩
theorem false_out : ¬ LetsOut (fun _ _ _ => False) := fun ⟨_, _, h⟩ => h
/-- The statement 'for .. := range g { .. }', where g yields xs. -/
theorem wp_range {α : Type} {P : Program} {g : Operand} {ps : Array Tmp} {assign body : Code} {Q : Exit → Act → World → Prop} {a : Act} {w : World} {gf : Nat} {lb : Array Value}
    (hg : a.eval g = .func (.func gf) #[] lb) (eg : ∀ args w, (callFunc gf args).run P w = .ok (.enter gf args) w)
    {encs : α → Array Value} {xs : List α} {mb : Nat → Obj → Prop} (hseq : Gives P gf lb encs xs (fun k o => mb k o ∨ (k = w.heap.size + 1 ∧ o.isCells = false)) w)
    (hmb : ∀ o, o.isCells = false → ¬ mb w.heap.size o ∧ ¬ mb (w.heap.size + 1) o) (hps : ∀ x, (encs x).size = ps.size)
    (I : Nat → World → Prop) (Ix : Code → World → Prop) (hI : ∀ i A B, I i A → Std (w.heap.size + 1) A B → I i B) (hIx : ∀ c A B, Ix c A → Std (w.heap.size + 1) A B → Ix c B)
    (h0 : I 0 w) (Ax : α → World → Act → World → Prop) (hAx : ∀ x W a' A B, Ax x W a' A → Std (w.heap.size + 1) A B → Ax x W a' B)
    (hassign : ∀ (i : Nat) (x : α) (W : World), xs[i]? = some x → I i W → w.heap.size + 2 ≤ W.heap.size →
      assign.wpIn (Fence.wide.inRound (w.heap.size + 1)) 0 P (Exit.then (fun a' W' => Ax x W a' W' ∧ Below W.heap.size W W') (fun _ _ _ => False)) { tmps := (ps.zip (encs x)).foldl (fun t (p, v) => t.setIfInBounds p v) a.tmps, defers := [] } W)
    (hbody : ∀ (i : Nat) (x : α) (a' : Act) (W0 W : World), xs[i]? = some x → I i W → Ax x W0 a' W → w.heap.size + 2 ≤ W0.heap.size → W0.heap.size ≤ W.heap.size → body.wpIn (Fence.wide.inRound (w.heap.size + 1)) 0 P (left mb I Ix i W) a' W)
    (hdone : ∀ (W : World), I xs.length W → W.heap[w.heap.size]? = some (.deferred (some [])) → Q .normal { a with defers := { target := .collected w.heap.size, args := #[] } :: a.defers } W)
    (hstop : ∀ (c : Code) (W : World), Ix c W → W.heap[w.heap.size]? = some (.deferred (some [])) → c.wpIn Fence.wide 0 P Q { a with defers := { target := .collected w.heap.size, args := #[] } :: a.defers } W) :
    (Code.rangeFunc g ps assign body).wpIn Fence.wide 0 P Q a w := by
  refine wpIn_rangeFunc ?_
  intro fn hfn
  obtain ⟨rec, hrec⟩ : ∃ rec : LoopState → Option Code → Loop, rec = fun st pe => { state := st, pending := pe, fn, tmps := a.tmps, params := ps, assign, body, defers := w.heap.size } := ⟨_, rfl⟩
  obtain ⟨W1, hW1⟩ : ∃ W1, (w.alloc (.deferred (some []))).alloc (.loop (rec .ready none)) = W1 := ⟨_, rfl⟩
  have hs1 : W1.heap.size = w.heap.size + 2 := by rw [← hW1]; simp
  have hB1 : Below w.heap.size w W1 := by rw [← hW1]; exact ((Below.refl _ w).alloc (Nat.le_refl _) _).alloc (by simp) _
  have hL1 : W1.heap[w.heap.size + 1]? = some (.loop (rec .ready none)) := by
    rw [← hW1]
    have e := World.alloc_heap_new (w.alloc (.deferred (some []))) (.loop (rec .ready none))
    rwa [World.size_alloc] at e
  have hD1 : W1.heap[w.heap.size]? = some (.deferred (some [])) := by
    rw [← hW1]
    exact (Below.heap_alloc _ _ _ (by simp)).trans (World.alloc_heap_new w _)
  have hnl : ∀ (k : Nat) (o : Obj), (W1.heap.size ≤ k ∧ o.isCells = false) → (w.heap.size + 1 ≤ k ∧ o.isCells = false) := fun k o h => ⟨by omega, h.2⟩
  refine ⟨w.heap.size + 1, [{ target := .collected w.heap.size, args := #[] }], W1, { target := .fn (.func gf) lb, args := #[.func (.yield (w.heap.size + 1)) #[] #[]] }, W1, gf, #[.func (.yield (w.heap.size + 1)) #[] #[]] ++ lb, W1, ?_, ?_, ?_, ?_, ?_, ?_⟩
  · rw [← hW1, hrec]; exact run_enterLoop_outer _ _ _ _ _
  · simp only [resolve, hg]
    simp [go_sem]
  · intro _ _; trivial
  · simp [invoke, go_sem, eg]
  · intro h; cases h
  have rec_cells : ∀ r : Loop, (Obj.loop r).isCells = false := fun _ => rfl
  refine (hseq (w.heap.size + 1) (fun i W => I i W ∧ W.heap[w.heap.size + 1]? = some (.loop (rec .ready none)) ∧ W.heap[w.heap.size]? = some (.deferred (some [])))
    (fun W => ∃ c, Ix c W ∧ W.heap[w.heap.size + 1]? = some (.loop (rec .done (some c))) ∧ W.heap[w.heap.size]? = some (.deferred (some []))) W1 hB1 (by omega) ?_ ?_ ?_ ⟨hI 0 _ _ h0 (Chg.later hB1), hL1, hD1⟩).mono ?_
  · rintro i A B ⟨h1, h2, h3⟩ hs
    exact ⟨hI i _ _ h1 (hs.mono hnl), hs.same _ _ h2 (fun e => by omega), hs.same _ _ h3 (fun e => by omega)⟩
  · rintro A B ⟨c, h1, h2, h3⟩ hs
    exact ⟨c, hIx c _ _ h1 (hs.mono hnl), hs.same _ _ h2 (fun e => by omega), hs.same _ _ h3 (fun e => by omega)⟩
  · rintro i x W hx ⟨hi, hl, hd⟩
    have hsz : w.heap.size + 2 ≤ W.heap.size := by have := lt_some hl; omega
    have hy := run_yield (P := P) (args := encs x) hl (by rw [hrec]; exact hps x)
    rw [hrec] at hy
    refine ⟨fn, _, assign, body, hy, roundIn_of_wpIn trivial (wpIn_mono (hassign i x W hx hi hsz) ?_)⟩
    intro e a' Wa he
    cases e with
    | normal =>
      obtain ⟨hax, hba⟩ := he
      have hla := (hba.block _ (lt_some hl)).trans hl
      have hda := (hba.block _ (lt_some hd)).trans hd
      refine ⟨_, run_beginRound hla (by rw [hrec]), ?_⟩
      obtain ⟨W2, hW2⟩ : ∃ W2, Wa.putObj (w.heap.size + 1) (.loop { rec .ready none with state := .busy }) = W2 := ⟨_, rfl⟩
      rw [hW2]
      have hl2 : W2.heap[w.heap.size + 1]? = some (.loop { rec .ready none with state := .busy }) := by rw [← hW2]; exact World.putObj_heap_same (lt_some hla)
      have hd2 : W2.heap[w.heap.size]? = some (.deferred (some [])) := by rw [← hW2]; exact (World.putObj_heap_other (by omega)).trans hda
      have c2 : Std (w.heap.size + 1) Wa W2 := by rw [← hW2]; exact Chg.put _ hla ⟨Nat.le_refl _, rfl⟩
      have m2 : Chg (fun k o => mb k o ∨ (k = w.heap.size + 1 ∧ o.isCells = false)) Wa W2 := by rw [← hW2]; exact Chg.put _ hla (.inr ⟨rfl, rfl⟩)
      have i2 := hI i _ _ (hI i _ _ hi (Chg.later hba)) c2
      have hs2 : W.heap.size ≤ W2.heap.size := Nat.le_trans hba.size m2.size
      refine wpIn_mono (hbody i x a' W W2 hx i2 (hAx _ _ _ _ _ hax c2) hsz hs2) ?_
      have fin : ∀ (jump : Option Code) (W3 : World), Chg mb W2 W3 →
          (Instr.endRound (w.heap.size + 1) jump).run P W3 = .ok (.bool jump.isNone) (W3.putObj (w.heap.size + 1) (.loop (rec (if jump.isNone then .ready else .done) jump))) ∧
          Std (w.heap.size + 1) W3 (W3.putObj (w.heap.size + 1) (.loop (rec (if jump.isNone then .ready else .done) jump))) ∧
          (W3.putObj (w.heap.size + 1) (.loop (rec (if jump.isNone then .ready else .done) jump))).heap[w.heap.size + 1]? = some (.loop (rec (if jump.isNone then .ready else .done) jump)) ∧
          (W3.putObj (w.heap.size + 1) (.loop (rec (if jump.isNone then .ready else .done) jump))).heap[w.heap.size]? = some (.deferred (some [])) ∧
          Chg (fun k o => mb k o ∨ (k = w.heap.size + 1 ∧ o.isCells = false)) W3 (W3.putObj (w.heap.size + 1) (.loop (rec (if jump.isNone then .ready else .done) jump))) := fun jump W3 hc => by
        have hl3 := hc.same _ _ hl2 (hmb _ rfl).2
        have hd3 := hc.same _ _ hd2 (hmb _ rfl).1
        have e := run_endRound (P := P) jump hl3
        rw [hrec] at e hl3 ⊢
        exact ⟨e, Chg.put _ hl3 ⟨Nat.le_refl _, rfl⟩, World.putObj_heap_same (lt_some hl3), (World.putObj_heap_other (by omega)).trans hd3, Chg.put _ hl3 (.inr ⟨rfl, rfl⟩)⟩
      rintro e a3 W3 hp
      cases e with
      | normal =>
        obtain ⟨hc, hi3⟩ := hp
        obtain ⟨f1, f2, f3, f4, f5⟩ := fin none W3 hc
        exact ⟨_, _, f1, .inl ⟨rfl, ⟨hI _ _ _ hi3 f2, f3, f4⟩, ((Chg.later hba).trans m2).trans ((hc.mono (fun k o => .inl)).trans f5)⟩⟩
      | ret =>
        obtain ⟨hc, hi3⟩ := hp
        obtain ⟨f1, f2, f3, f4, f5⟩ := fin (some .ret) W3 hc
        exact ⟨_, _, f1, .inr ⟨rfl, ⟨.ret, hIx _ _ _ hi3 f2, f3, f4⟩, ((Chg.later hba).trans m2).trans ((hc.mono (fun k o => .inl)).trans f5)⟩⟩
      | exit id =>
        obtain ⟨hc, hi3⟩ := hp
        obtain ⟨f1, f2, f3, f4, f5⟩ := fin (some (.exit id)) W3 hc
        exact ⟨_, _, f1, .inr ⟨rfl, ⟨.exit id, hIx _ _ _ hi3 f2, f3, f4⟩, ((Chg.later hba).trans m2).trans ((hc.mono (fun k o => .inl)).trans f5)⟩⟩
      | goto t =>
        obtain ⟨hc, hi3⟩ := hp
        obtain ⟨f1, f2, f3, f4, f5⟩ := fin (some (.goto t)) W3 hc
        exact ⟨_, _, f1, .inr ⟨rfl, ⟨.goto t, hIx _ _ _ hi3 f2, f3, f4⟩, ((Chg.later hba).trans m2).trans ((hc.mono (fun k o => .inl)).trans f5)⟩⟩
      | panic ch => exact hp.elim
      | outgrown => exact hp.elim
    | ret => exact he.elim
    | exit id => exact he.elim
    | goto t => exact he.elim
    | panic ch => exact he.elim
    | outgrown => exact he.elim
  · rintro e W2 ⟨⟨v, rfl⟩, ⟨hi, hl, hd⟩ | ⟨c, hi, hl, hd⟩⟩
    · have e := run_endLoop (P := P) hl (by rw [hrec]; simp)
      rw [hrec] at e hl
      exact ⟨none, _, e, hdone _ (hI _ _ _ hi (Chg.put _ hl ⟨Nat.le_refl _, rfl⟩)) ((World.putObj_heap_other (by omega)).trans hd)⟩
    · have e := run_endLoop (P := P) hl (by rw [hrec]; simp)
      rw [hrec] at e hl
      exact ⟨some c, _, e, hstop c _ (hIx _ _ _ hi (Chg.put _ hl ⟨Nat.le_refl _, rfl⟩)) ((World.putObj_heap_other (by omega)).trans hd)⟩
/-- A return behind one range over a function. -/
theorem ret_marks {P : Program} {fn : Func} {R : Ending → World → Prop} {tmps : Array Value} {D : Nat} {W : World} (v : Value) (hK : W.heap[D]? = some (.deferred (some []))) (hres : (results fn tmps).run P (W.putObj D (.deferred none)) = .ok v (W.putObj D (.deferred none)))
    (hR : R (.returned v) (W.putObj D (.deferred none))) : bodyPostM Fence.wide 0 P fn R .ret { tmps, defers := [{ target := .collected D, args := #[] }] } W :=
  ⟨by simp, .inl ⟨_, _, rfl, run_takeDeferred hK, ⟨v, hres, hR⟩⟩⟩
theorem end_marks {P : Program} {fn : Func} {R : Ending → World → Prop} {tmps : Array Value} {D : Nat} {W : World} (v : Value) (hK : W.heap[D]? = some (.deferred (some []))) (hres : (results fn tmps).run P (W.putObj D (.deferred none)) = .ok v (W.putObj D (.deferred none)))
    (hR : R (.returned v) (W.putObj D (.deferred none))) : bodyPostM Fence.wide 0 P fn R .normal { tmps, defers := [{ target := .collected D, args := #[] }] } W :=
  ⟨by simp, .inl ⟨_, _, rfl, run_takeDeferred hK, ⟨v, hres, hR⟩⟩⟩
theorem var_put {T : TypeId} {W : World} {k D : Nat} {vs : List Value} {o : Obj} (h : Var T W k vs) (hk : k ≠ D) : Var T (W.putObj D o) k vs := (World.putObj_heap_other hk).trans h
theorem below_put {B D : Nat} {w W : World} {o : Obj} (h : Below B w W) (hD : B ≤ D) : Below B w (W.putObj D o) :=
  ⟨h.os, h.tape, h.output, by simpa using h.size, fun k hk => (World.putObj_heap_other (by omega)).trans (h.block k hk)⟩
theorem heap_cell {W : World} {p : Addr} {v : Value} {D : Nat} {o : Obj} (h : W.heap[D]? = some o) (hp : p.block ≠ D) : (W.setCell p v).heap[D]? = some o := (Below.heap_setCell _ _ _ _ (fun e => hp e.symm)).trans h
end Go.Proofs.Ytldghgadkncehaa.Rng
