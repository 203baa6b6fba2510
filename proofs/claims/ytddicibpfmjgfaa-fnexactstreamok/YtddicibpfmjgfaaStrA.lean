/- Streams (chapter 15): contracts of the specification's l15Grow, l15Read, l15Tell, through a pointer into whatever block; texts of at most 2^21 bytes. -/
import Derived.Test.YtddicibpfmjgfaaWin
import Derived.Test.YtddicibpfmjgfaaTakA
import Derived.Test.YtddicibpfmjgfaaGivB
import Derived.Test.YtddicibpfmjgfaaFrame
import Derived.Laws.Strings
namespace Go.Proofs.Ytddicibpfmjgfaa.Str
open Go.RowKit RowG
set_option linter.unusedVariables false
set_option linter.unusedSimpArgs false

theorem beq_text (x y : ByteArray) : (x.toList == y.toList) = decide (x = y) := by
  rw [ByteArray.toList_eq, ByteArray.toList_eq]
  by_cases e : x = y
  · rw [e]
    simp
  · rw [decide_eq_false e]
    refine beq_eq_false_iff_ne.2 fun q => e ?_
    cases x
    cases y
    congr 1
    exact Array.toList_inj.1 q
structure Sm where
  tx : ByteArray
  rd : Int
  en : Bool
  dn : Bool
  sn : Bool
abbrev Sm.c (s : Sm) : List Value := [.string s.tx, .int .i64 s.rd, .bool s.en, .bool s.dn, .bool s.sn]
abbrev Sm.v (s : Sm) : Value := .agg #[.string s.tx, .int .i64 s.rd, .bool s.en, .bool s.dn, .bool s.sn]
def growB (s : Sm) (b : ByteArray) : Bool := !(s.en || decide (2000 < (s.tx.size : Int) + b.size))
def growS (s : Sm) (b : ByteArray) : Sm := if growB s b then { s with tx := s.tx ++ b } else s
def readB (s : Sm) (b : ByteArray) : Bool := !(decide ((s.tx.size : Int) < s.rd + b.size) || decide (s.tx.extract s.rd.toNat (s.rd + b.size).toNat ≠ b))
def readS (s : Sm) (b : ByteArray) : Sm := if readB s b then { s with rd := s.rd + b.size } else s
def tellB (s : Sm) (seen : Bool) : Bool := s.en && !(seen && (s.sn || decide (s.rd < (s.tx.size : Int)))) && !(!seen && s.dn)
def tellS (s : Sm) (seen : Bool) : Sm := if tellB s seen then (if seen then { s with sn := true } else { s with dn := true }) else s

end Go.Proofs.Ytddicibpfmjgfaa.Str
