import PyProof.Rows.All
import Wide.All
import OpenK.AllK
import Wide.FinOn
import KE.KStateDown
import KE.OsHead
import KE.KExcInit
import Lean
import HandS.ForMost
import HandS.ForExc
import HandS.ForSpec
import HandS.Flow
import HandS.Defaults
import HandS.TryMany
import HandS.SortInts
import HandS.TupAny
import HandS.TupMul
import HandS.Evl
import HandS.Head0
import HandS.Head1
import HandS.Head2
import HandS.Head3
import HandS.Head4
import HandS.HeadHook1
import HandS.HeadHook2
import HandS.HeadHook3
import HandS.HeadHook4
import HandS.ExcInit
import HandS.ExcOwn
import HandS.TryOnly
import HandS.More
import HandS.Spec
import HandS.Walk
import HandS.Zip
import HandS.Codes
import KE.GoesEnumKw
import KE.GoesZip
import KE.GoesNew
import KE.KDictKeyed
import KE.KDictDisplayH
import HandS.RaiseMore
import KE.IntTextLaws
import HandS.ExcField
import PySem.Challenge.RW_batchworks_s01_works
section
set_option autoImplicit false
/-! The texts: signs, words, lines, names, numbers, by plain lists of numbers. -/
namespace Bw
open Vbwbzz (Bytes)

/-- the sign that stands for a byte -/
def sg (c : Nat) : Nat := if c = 10 ∨ c = 32 ∨ (97 ≤ c ∧ c ≤ 122) ∨ (48 ≤ c ∧ c ≤ 57) then c else 63

theorem sg_eq {c d : Nat} (h : sg c = d) (hd : d ≠ 63) : c = d := by
  unfold sg at h
  split at h
  · exact h
  · exact absurd h.symm hd
theorem sg_of {c : Nat} (h : sg c ≠ 63) : sg c = c := by
  unfold sg at *
  split at h <;> simp_all
theorem sg_letter {c : Nat} (h : Vbwbab.letter c = true) : sg c = c := by
  unfold Vbwbab.letter at h; unfold sg
  have := of_decide_eq_true h
  rw [if_pos]; omega
theorem sg_digit {c : Nat} (h : Vbwbab.digit c = true) : sg c = c := by
  unfold Vbwbab.digit at h; unfold sg
  have := of_decide_eq_true h
  rw [if_pos]; omega
theorem letter_sg (c : Nat) : Vbwbab.letter (sg c) = Vbwbab.letter c := by
  unfold Vbwbab.letter sg
  split
  · rfl
  · rename_i h
    simp only [decide_eq_decide]; omega
theorem digit_sg (c : Nat) : Vbwbab.digit (sg c) = Vbwbab.digit c := by
  unfold Vbwbab.digit sg
  split
  · rfl
  · rename_i h
    simp only [decide_eq_decide]; omega
theorem sg_ten {c : Nat} : sg c = 10 ↔ c = 10 := ⟨fun h => sg_eq h (by decide), fun h => by subst h; rfl⟩
theorem sg_blank {c : Nat} : sg c = 32 ↔ c = 32 := ⟨fun h => sg_eq h (by decide), fun h => by subst h; rfl⟩

/-- a text without the sign 63 is told apart -/
theorem map_sg_eq : ∀ {w k : Bytes}, w.map sg = k → (∀ c ∈ k, c ≠ 63) → w = k
  | [], k, h, _ => h
  | c :: r, k, h, hk => by
    subst h
    have e := map_sg_eq (w := r) rfl (fun d hd => hk d (List.mem_cons_of_mem _ hd))
    have e1 : c = sg c := sg_eq rfl (hk (sg c) (List.mem_cons_self ..))
    show c :: r = sg c :: r.map sg
    rw [← e, ← e1]

/-! ### words -/
/-- runs that hold neither of the parting numbers -/
def runs (p : Nat → Bool) : Bytes → Bytes → List Bytes
  | [], got => if got = [] then [] else [got]
  | c :: r, got => if p c = true then (if got = [] then runs p r [] else got :: runs p r []) else runs p r (got ++ [c])
def isB (c : Nat) : Bool := decide (c = 32)
def isBL (c : Nat) : Bool := decide (c = 32) || decide (c = 10)
/-- the words of a whole text -/
def toks (b : Bytes) : List Bytes := runs isBL b []
/-- the words of a line -/
def lwords (b : Bytes) : List Bytes := runs isB b []

theorem runs_ne {p : Nat → Bool} : ∀ (b got : Bytes), ∀ w ∈ runs p b got, w ≠ []
  | [], got, w, h => by
    unfold runs at h
    split at h
    · cases h
    · rw [List.mem_singleton] at h; subst h; assumption
  | c :: r, got, w, h => by
    unfold runs at h
    split at h
    · split at h
      · exact runs_ne r [] w h
      · rcases List.mem_cons.mp h with e | e
        · subst e; assumption
        · exact runs_ne r [] w e
    · exact runs_ne r _ w h
theorem runs_sg {p : Nat → Bool} (hp : ∀ c, p (sg c) = p c) : ∀ b got : Bytes, runs p (b.map sg) (got.map sg) = (runs p b got).map (List.map sg)
  | [], got => by
    show runs p [] _ = _
    unfold runs
    by_cases h : got = []
    · subst h; rfl
    · rw [if_neg h, if_neg (by simpa using h)]; rfl
  | c :: r, got => by
    show runs p (sg c :: r.map sg) _ = _
    unfold runs
    rw [hp]
    by_cases hc : p c = true
    · rw [if_pos hc, if_pos hc]
      by_cases h : got = []
      · subst h
        exact runs_sg hp r []
      · rw [if_neg h, if_neg (by simpa using h), List.map_cons]
        exact congrArg _ (runs_sg hp r [])
    · rw [if_neg hc, if_neg hc]
      have := runs_sg hp r (got ++ [c])
      rw [List.map_append] at this
      exact this
theorem isB_sg (c : Nat) : isB (sg c) = isB c := by
  unfold isB; rw [decide_eq_decide]; exact sg_blank
theorem isBL_sg (c : Nat) : isBL (sg c) = isBL c := by
  unfold isBL
  rw [show decide (sg c = 32) = decide (c = 32) from decide_eq_decide.mpr sg_blank, show decide (sg c = 10) = decide (c = 10) from decide_eq_decide.mpr sg_ten]
theorem toks_sg (b : Bytes) : toks (b.map sg) = (toks b).map (List.map sg) := runs_sg isBL_sg b []
theorem lwords_sg (b : Bytes) : lwords (b.map sg) = (lwords b).map (List.map sg) := runs_sg isB_sg b []

/-- the specification's words with their places -/
theorem tokens_eq : ∀ (b got : Bytes) (at_ begin_ : Nat), (Vbwbab.wordsFrom at_ begin_ b got).map (·.1) = runs isBL b got ++ [[]]
  | [], got, a, g => by
    unfold Vbwbab.wordsFrom runs
    cases got with
    | nil => rfl
    | cons x r => rfl
  | c :: r, got, a, g => by
    unfold Vbwbab.wordsFrom runs
    by_cases h : c = 32 ∨ c = 10
    · have hp : isBL c = true := by unfold isBL; rcases h with h | h <;> subst h <;> rfl
      rw [if_pos h, if_pos hp]
      cases got with
      | nil => exact tokens_eq r [] _ _
      | cons x y =>
        rw [if_neg (by simp), if_neg (by simp), List.map_cons, tokens_eq r [] _ _]
        rfl
    · have hp : ¬ isBL c = true := by
        unfold isBL; intro z
        rw [Bool.or_eq_true, decide_eq_true_eq, decide_eq_true_eq] at z
        exact h z
      rw [if_neg h, if_neg hp]
      exact tokens_eq r _ _ _
theorem tokens_toks (b : Bytes) : (Vbwbab.tokens b).map (·.1) = toks b ++ [[]] := tokens_eq b [] 0 0

/-- splitting -/
theorem splitBy_ne (s : Nat) : ∀ b : Bytes, Vbwbzz.splitBy s b ≠ []
  | [] => by simp [Vbwbzz.splitBy]
  | c :: r => by
    unfold Vbwbzz.splitBy
    split
    · simp
    · split <;> simp
/-- the parts, with what was got already in front of the first -/
theorem splitBy_runs : ∀ (b got : Bytes), ((match Vbwbzz.splitBy 32 b with
    | [] => [got]
    | x :: l => (got ++ x) :: l).filter fun w => w.isEmpty == false) = runs isB b got
  | [], got => by
    unfold Vbwbzz.splitBy runs
    cases got <;> simp
  | c :: r, got => by
    unfold Vbwbzz.splitBy runs
    by_cases h : c = 32
    · have hp : isB c = true := by subst h; rfl
      rw [if_pos h, if_pos hp]
      have ih := splitBy_runs r []
      have e : (match Vbwbzz.splitBy 32 r with
        | [] => [[]]
        | x :: l => (([] : Bytes) ++ x) :: l) = Vbwbzz.splitBy 32 r := by
        cases h2 : Vbwbzz.splitBy 32 r with
        | nil => exact absurd h2 (splitBy_ne 32 r)
        | cons x l => rfl
      rw [e] at ih
      cases got with
      | nil =>
        rw [if_pos rfl, ← ih]
        rfl
      | cons x y =>
        rw [if_neg (by simp), ← ih]
        simp
    · have hp : ¬ isB c = true := by unfold isB; simpa using h
      rw [if_neg h, if_neg hp, ← splitBy_runs r (got ++ [c])]
      cases h2 : Vbwbzz.splitBy 32 r with
      | nil => simp
      | cons x l => simp
theorem wordsOf_eq (b : Bytes) : Vbwbzz.wordsOf b = lwords b := by
  have h := splitBy_runs b []
  unfold lwords Vbwbzz.wordsOf
  rw [← h]
  cases h2 : Vbwbzz.splitBy 32 b with
  | nil => exact absurd h2 (splitBy_ne 32 b)
  | cons x l => rfl
/-- a line holds no line end -/
theorem splitBy_no (s : Nat) : ∀ b : Bytes, ∀ l ∈ Vbwbzz.splitBy s b, s ∉ l
  | [], l, h => by
    unfold Vbwbzz.splitBy at h
    rw [List.mem_singleton] at h; subst h; simp
  | c :: r, l, h => by
    unfold Vbwbzz.splitBy at h
    have ih := splitBy_no s r
    split at h
    · rcases List.mem_cons.mp h with e | e
      · subst e; simp
      · exact ih l e
    · rename_i hc
      split at h
      · rw [List.mem_singleton] at h; subst h
        simpa using fun e => hc e.symm
      · rename_i x y e2
        rcases List.mem_cons.mp h with e | e
        · subst e
          intro z
          rcases List.mem_cons.mp z with z | z
          · exact hc z.symm
          · exact ih x (by rw [e2]; exact List.mem_cons_self ..) z
        · exact ih l (by rw [e2]; exact List.mem_cons_of_mem _ e)
theorem splitBy_sg : ∀ b : Bytes, Vbwbzz.splitBy 10 (b.map sg) = (Vbwbzz.splitBy 10 b).map (List.map sg)
  | [] => rfl
  | c :: r => by
    show Vbwbzz.splitBy 10 (sg c :: r.map sg) = _
    unfold Vbwbzz.splitBy
    rw [splitBy_sg r]
    by_cases h : c = 10
    · rw [if_pos h, if_pos (sg_ten.mpr h)]; rfl
    · rw [if_neg h, if_neg (fun z => h (sg_ten.mp z))]
      cases Vbwbzz.splitBy 10 r <;> rfl

/-! ### names, numbers -/
theorem isName_sg (w : Bytes) : Vbwbab.isName (w.map sg) = Vbwbab.isName w := by
  unfold Vbwbab.isName
  have h1 : (w.map sg).head?.any Vbwbab.letter = w.head?.any Vbwbab.letter := by
    cases w with
    | nil => rfl
    | cons c r => simp [letter_sg]
  have h2 : (w.map sg).all (fun c => Vbwbab.letter c || Vbwbab.digit c) = w.all (fun c => Vbwbab.letter c || Vbwbab.digit c) := by
    rw [List.all_map]; congr 1; funext c; simp [letter_sg, digit_sg]
  rw [h1, h2, List.length_map]
  by_cases ha : w.all (fun c => Vbwbab.letter c || Vbwbab.digit c) = true
  · have e : w.map sg = w := by
      rw [List.all_eq_true] at ha
      conv => rhs; rw [← List.map_id w]
      refine List.map_congr_left fun c hc => ?_
      have := ha c hc
      rw [Bool.or_eq_true] at this
      rcases this with h | h
      · exact sg_letter h
      · exact sg_digit h
    rw [e]
  · have hf : w.all (fun c => Vbwbab.letter c || Vbwbab.digit c) = false := by simpa using ha
    rw [hf]; simp
/-- of a name the signs are the bytes -/
theorem name_sg {w : Bytes} (h : Vbwbab.isName w = true) : w.map sg = w := by
  unfold Vbwbab.isName at h
  simp only [Bool.and_eq_true, List.all_eq_true, Bool.or_eq_true] at h
  conv => rhs; rw [← List.map_id w]
  refine List.map_congr_left fun c hc => ?_
  rcases h.2.1 c hc with h | h
  · exact sg_letter h
  · exact sg_digit h
theorem numOf_same (w : Bytes) : Vbwbzz.numOf w = Vbwbab.numOf w := rfl
theorem numOf_sg (w : Bytes) : Vbwbab.numOf (w.map sg) = Vbwbab.numOf w := by
  unfold Vbwbab.numOf
  have h2 : (w.map sg).all Vbwbab.digit = w.all Vbwbab.digit := by
    rw [List.all_map]; congr 1; funext c; exact digit_sg c
  by_cases ha : w.all Vbwbab.digit = true
  · have e : w.map sg = w := by
      rw [List.all_eq_true] at ha
      conv => rhs; rw [← List.map_id w]
      exact List.map_congr_left fun c hc => sg_digit (ha c hc)
    rw [e]
  · have hf : w.all Vbwbab.digit = false := by simpa using ha
    rw [h2, hf]
    simp
end Bw
end

section
set_option autoImplicit false
/-! The recipes' reader as a machine over words: a stack of parts that are not ended yet. -/
namespace Bw
open Vbwbzz (Bytes)
abbrev kw (s : String) : Bytes := Vbwbab.text s
inductive Wd where
  | recipe | do_ | use | if_ | either | both | again
  deriving DecidableEq
def Wd.s : Wd → String
  | .recipe => "recipe" | .do_ => "do" | .use => "use" | .if_ => "if" | .either => "either" | .both => "both" | .again => "again"
inductive T where
  | mk (w : Wd) (n things : Nat) (bodies : List (List T))
def T.w : T → Wd | .mk w _ _ _ => w
def T.n : T → Nat | .mk _ n _ _ => n
def T.things : T → Nat | .mk _ _ h _ => h
def T.bodies : T → List (List T) | .mk _ _ _ b => b
structure Bk where
  recs : List (Bytes × T)
  steps : List (Bytes × Nat × Nat)
  conds : List Bytes
  ei : Bool
def Bk.empty : Bk := ⟨[], [], [], false⟩
structure RS where
  t : List Bytes
  st : List T
  nm : Bytes
  bk : Bk
def idx (l : List Bytes) (w : Bytes) : Option Nat := Vbwbab.indexOf l w
def Bk.names (k : Bk) : List Bytes := k.recs.map (·.1)
def Bk.snames (k : Bk) : List Bytes := k.steps.map (·.1)
def thBody (b : List T) : Nat := if b = [] then 1 else (b.map T.things).sum
def T.counted : T → T
  | .mk w n _ bs => .mk w n (((bs.map fun b => match b with | [] => 1 | x :: r => ((x :: r).map T.things).sum).sum) + (match w with | .both => bs.length - 1 | .recipe => 0 | _ => 1)) bs
def condOf (k : Bk) (c : Bytes) : Option (Nat × Bk) := match idx k.conds c with
  | some i => some (i, k)
  | none => if k.conds.length = 12 then none else some (k.conds.length, { k with conds := k.conds ++ [c] })
def stepOf (k : Bk) (s : Bytes) (tm : Option (Nat × Nat)) : Option (Nat × Bk) := match idx k.snames s with
  | some i => (match tm with
    | none => some (i, k)
    | some p => if (k.steps[i]?.map (·.2)) = some p then some (i, k) else none)
  | none => if k.steps.length = 30 then none else some (k.steps.length, { k with steps := k.steps ++ [(s, tm.getD (0, 0))] })
def addRec (k : Bk) (n : Bytes) (p : T) : Option Bk := if k.recs.length = 10 ∨ 30 < p.things then none else some { k with recs := k.recs ++ [(n, p)] }
def nextWord (r : RS) : Option (Bytes × RS) := match r.t with
  | [] => none
  | w :: t => some (w, { r with t := t })
def nextName (r : RS) : Option (Bytes × RS) := match nextWord r with
  | none => none
  | some x => if Vbwbab.isName x.1 = true then some x else none
def nextTime (lo : Nat) (r : RS) : Option (Nat × RS) := match nextWord r with
  | none => none
  | some x => match Vbwbab.numOf x.1 with
    | none => none
    | some n => if lo ≤ n ∧ n ≤ 1000000 then some (n, x.2) else none
def expect (w : Bytes) (r : RS) : Option RS := match nextWord r with
  | none => none
  | some x => if x.1 = w then some x.2 else none
def push (p : T) (r : RS) : RS := { r with st := .mk p.w p.n p.things (p.bodies ++ [[]]) :: r.st }
/-- into the last body of the part on top -/
def addLast : List (List T) → T → List (List T)
  | [], _ => []
  | [b], x => [b ++ [x]]
  | b :: r, x => b :: addLast r x
def addPart (x : T) (r : RS) : Option RS := match r.st with
  | [] => none
  | .mk w n h bs :: s => some { r with st := .mk w n h (addLast bs x) :: s }
def putAway (r : RS) : Option RS := match r.st with
  | [] => none
  | p :: s => if p.w = .recipe then (addRec r.bk r.nm p.counted).map fun k => { r with st := s, bk := k } else addPart p.counted { r with st := s }
def readStep (r : RS) : Option RS := match nextName r with
  | none => none
  | some x =>
    if x.2.t.head? = some (kw "takes") then match expect (kw "takes") x.2 with
      | none => none
      | some r1 => match nextTime 0 r1 with
        | none => none
        | some (lo, r2) => match expect (kw "to") r2 with
          | none => none
          | some r3 => match nextTime lo r3 with
            | none => none
            | some (hi, r4) => match stepOf r4.bk x.1 (some (lo, hi)) with
              | none => none
              | some (i, k) => addPart (.mk .do_ i 1 []) { r4 with bk := k }
    else match stepOf x.2.bk x.1 none with
      | none => none
      | some (i, k) => addPart (.mk .do_ i 1 []) { x.2 with bk := k }
def readUse (r : RS) : Option RS := match nextName r with
  | none => none
  | some x => match idx x.2.bk.names x.1 with
    | none => none
    | some i => addPart (.mk .use i ((x.2.bk.recs[i]?.map fun p => p.2.things).getD 0) []) x.2
def beginPart (w : Wd) (r : RS) : Option RS := match w with
  | .if_ => (match nextName r with
    | none => none
    | some x => match condOf x.2.bk x.1 with
      | none => none
      | some (i, k) => match expect (kw "then") { x.2 with bk := k } with
        | none => none
        | some r2 => some (push (.mk .if_ i 0 []) r2))
  | .either => some (push (.mk .either 0 0 []) { r with bk := { r.bk with ei := true } })
  | w => some (push (.mk w 0 0 []) r)
def betw : Wd → Option Bytes
  | .if_ => some (kw "else")
  | .either => some (kw "or")
  | .both => some (kw "and")
  | _ => none
def beginBody (w : Bytes) (r : RS) : Option RS := match r.st with
  | [] => none
  | .mk v n h bs :: s => if betw v ≠ some w then none else if v ≠ .both ∧ bs.length = 2 then none else some { r with st := .mk v n h (bs ++ [[]]) :: s }
def endAgain (r : RS) : Option RS := match r.st with
  | [] => none
  | .mk v _ h bs :: s => if v ≠ .again then none else match nextName r with
    | none => none
    | some x => match condOf x.2.bk x.1 with
      | none => none
      | some (i, k) => match expect (kw "end") { x.2 with bk := k, st := .mk v i h bs :: s } with
        | none => none
        | some r2 => putAway r2
def endPart (r : RS) : Option RS := match r.st with
  | [] => none
  | .mk v _ _ bs :: _ => if v = .again ∨ ((betw v).isSome = true ∧ bs.length < 2) then none else putAway r
def goOn (w : Bytes) (r : RS) : Option RS :=
  if w = kw "do" then readStep r
  else if w = kw "use" then readUse r
  else if w = kw "again" then beginPart .again r
  else if w = kw "if" then beginPart .if_ r
  else if w = kw "either" then beginPart .either r
  else if w = kw "both" then beginPart .both r
  else if w = kw "until" then endAgain r
  else if w = kw "end" then endPart r
  else beginBody w r
def beginRecipe (r : RS) : Option RS := match expect (kw "recipe") r with
  | none => none
  | some r1 => match nextName r1 with
    | none => none
    | some x => if (x.2.bk.names.contains x.1) = true then none else some (push (.mk .recipe x.2.bk.recs.length 0 []) { x.2 with nm := x.1 })
def turnR (r : RS) : Option RS := match r.st with
  | [] => beginRecipe r
  | _ => match nextWord r with
    | none => none
    | some x => goOn x.1 x.2
def loopR : Nat → RS → Option RS
  | 0, r => if r.t = [] then some r else none
  | n + 1, r => if r.t = [] then some r else match turnR r with
    | none => none
    | some r2 => loopR n r2
def readAll (r : RS) : Option RS := match loopR r.t.length r with
  | none => none
  | some r2 => if r2.st.length = 0 ∧ r2.bk.recs.length ≠ 0 then some r2 else none
end Bw
end

section
set_option autoImplicit false
/-! What stays true of the reader, turn by turn. -/
namespace Bw
open Vbwbzz (Bytes)
def fw (t : T) : Nat := 1 + (t.bodies.map fun b => 1 + b.length).sum
def wt (st : List T) : Nat := (st.map fw).sum
def Shape (r : RS) : Prop := r.st = [] ∨ ∃ i b, r.st = i ++ [b] ∧ b.w = .recipe ∧ (∀ u ∈ i, u.w ≠ .recipe) ∧ b.n = r.bk.recs.length ∧ idx r.bk.names r.nm = none
structure J (M : Nat) (r : RS) : Prop where
  shape : Shape r
  wt : wt r.st + 2 * r.t.length ≤ M
  recs : r.bk.recs.length ≤ 10
  steps : r.bk.steps.length ≤ 30
  conds : r.bk.conds.length ≤ 12
/-- all that the tops' words, numbers, the names and the recipes tell is the same -/
theorem nextWord_eq {r r' : RS} {x : Bytes} (h : nextWord r = some (x, r')) : r.t = x :: r'.t ∧ r' = { r with t := r'.t } := by
  unfold nextWord at h
  cases e : r.t with
  | nil => rw [e] at h; cases h
  | cons w t => rw [e] at h; cases h; exact ⟨rfl, rfl⟩
theorem J.word {M : Nat} {r r' : RS} {x : Bytes} (h : J M r) (e : nextWord r = some (x, r')) : J (M - 2) r' ∧ 2 ≤ M ∧ r'.t.length + 1 = r.t.length := by
  obtain ⟨e1, e2⟩ := nextWord_eq e
  have hl : r'.t.length + 1 = r.t.length := by rw [e1]; rfl
  have hw := h.wt
  refine ⟨⟨?_, ?_, ?_, ?_, ?_⟩, by omega, hl⟩
  · have := h.shape; rw [e2]; exact this
  · have : r'.st = r.st := by rw [e2]
    rw [this]; omega
  · rw [e2]; exact h.recs
  · rw [e2]; exact h.steps
  · rw [e2]; exact h.conds
theorem J.name {M : Nat} {r r' : RS} {x : Bytes} (h : J M r) (e : nextName r = some (x, r')) : J (M - 2) r' ∧ 2 ≤ M ∧ r'.t.length + 1 = r.t.length := by
  unfold nextName at e
  cases e1 : nextWord r with
  | none => rw [e1] at e; cases e
  | some y =>
    rw [e1] at e
    have e' : (if Vbwbab.isName y.1 = true then some y else none) = some (x, r') := e
    split at e'
    · cases e'; exact h.word e1
    · cases e'
theorem J.time {M : Nat} {r r' : RS} {lo n : Nat} (h : J M r) (e : nextTime lo r = some (n, r')) : J (M - 2) r' ∧ 2 ≤ M ∧ r'.t.length + 1 = r.t.length := by
  unfold nextTime at e
  cases e1 : nextWord r with
  | none => rw [e1] at e; cases e
  | some y =>
    rw [e1] at e
    have e' : (match Vbwbab.numOf y.1 with | none => none | some n => if lo ≤ n ∧ n ≤ 1000000 then some (n, y.2) else none) = some (n, r') := e
    cases e2 : Vbwbab.numOf y.1 with
    | none => rw [e2] at e'; cases e'
    | some m =>
      rw [e2] at e'
      have e3 : (if lo ≤ m ∧ m ≤ 1000000 then some (m, y.2) else none) = some (n, r') := e'
      split at e3
      · cases e3; exact h.word (x := y.1) e1
      · cases e3
theorem J.expect {M : Nat} {r r' : RS} {k : Bytes} (h : J M r) (e : expect k r = some r') : J (M - 2) r' ∧ 2 ≤ M ∧ r'.t.length + 1 = r.t.length := by
  unfold Bw.expect at e
  cases e1 : nextWord r with
  | none => rw [e1] at e; cases e
  | some y =>
    rw [e1] at e
    have e' : (if y.1 = k then some y.2 else none) = some r' := e
    split at e'
    · cases e'; exact h.word (x := y.1) e1
    · cases e'
theorem J.more {M N : Nat} {r : RS} (h : J M r) (hn : M ≤ N) : J N r := ⟨h.shape, Nat.le_trans h.wt hn, h.recs, h.steps, h.conds⟩
theorem condOf_J {M : Nat} {r : RS} {c : Bytes} {i : Nat} {k : Bk} (h : J M r) (e : condOf r.bk c = some (i, k)) : J M { r with bk := k } := by
  unfold condOf at e
  split at e
  · cases e; exact h
  · split at e
    · cases e
    · rename_i hc
      cases e
      exact ⟨h.shape, h.wt, h.recs, h.steps, by have := h.conds; simp; omega⟩
theorem stepOf_J {M : Nat} {r : RS} {c : Bytes} {tm : Option (Nat × Nat)} {i : Nat} {k : Bk} (h : J M r) (e : stepOf r.bk c tm = some (i, k)) : J M { r with bk := k } := by
  unfold stepOf at e
  split at e
  · split at e
    · cases e; exact h
    · split at e
      · cases e; exact h
      · cases e
  · split at e
    · cases e
    · rename_i hc
      cases e
      exact ⟨h.shape, h.wt, h.recs, by have := h.steps; simp; omega, h.conds⟩
theorem fw_last (w : Wd) (n h : Nat) : ∀ (bs : List (List T)) (x : T), (bs ≠ [] → fw (.mk w n h (addLast bs x)) = fw (.mk w n h bs) + 1) ∧ (bs = [] → fw (.mk w n h (addLast bs x)) = fw (.mk w n h bs))
  | [], x => ⟨fun z => absurd rfl z, fun _ => rfl⟩
  | [b], x => ⟨fun _ => by simp [fw, T.bodies, addLast]; omega, fun z => by cases z⟩
  | b :: c :: r, x => ⟨fun _ => by
      have ih := (fw_last w n h (c :: r) x).1 (by simp)
      unfold fw at ih ⊢
      simp only [T.bodies] at ih ⊢
      show 1 + (((b :: addLast (c :: r) x)).map fun b => 1 + b.length).sum = _
      rw [List.map_cons, List.sum_cons, List.map_cons, List.sum_cons]
      omega, fun z => by cases z⟩
theorem addPart_J {M : Nat} {r r' : RS} {x : T} (h : J M r) (e : addPart x r = some r') : J (M + 1) r' ∧ r'.t = r.t := by
  unfold addPart at e
  obtain ⟨t, st, nm, bk⟩ := r
  cases st with
  | nil => cases e
  | cons u s =>
    obtain ⟨w, n, hh, bs⟩ := u
    cases e
    refine ⟨⟨?_, ?_, h.recs, h.steps, h.conds⟩, rfl⟩
    · rcases h.shape with z | ⟨i, b, z, hw, hi, hn, hx⟩
      · cases z
      · cases i with
        | nil =>
          simp at z
          obtain ⟨rfl, rfl⟩ := z
          exact .inr ⟨[], _, rfl, hw, by simp, hn, hx⟩
        | cons v i =>
          simp at z
          obtain ⟨rfl, rfl⟩ := z
          refine .inr ⟨.mk w n hh (addLast bs x) :: i, b, rfl, hw, fun u hu => ?_, hn, hx⟩
          rcases List.mem_cons.mp hu with e | hu
          · subst e; exact hi (.mk w n hh bs) (List.mem_cons_self ..)
          · exact hi u (List.mem_cons_of_mem _ hu)
    · have hwt := h.wt
      have := fw_last w n hh bs x
      simp only [wt, List.map_cons, List.sum_cons] at hwt ⊢
      by_cases hb : bs = []
      · rw [this.2 hb]; omega
      · rw [this.1 hb]; omega
theorem push_J {M : Nat} {r : RS} {w : Wd} {n h : Nat} (hw : w ≠ .recipe) (hne : r.st ≠ []) (j : J M r) : J (M + 2) (push (.mk w n h []) r) := by
  refine ⟨?_, ?_, j.recs, j.steps, j.conds⟩
  · rcases j.shape with z | ⟨i, b, z, hb, hi, hn, hx⟩
    · exact absurd z hne
    · refine .inr ⟨.mk w n h [[]] :: i, b, ?_, hb, fun u hu => ?_, hn, hx⟩
      · show T.mk w n h ([] ++ [[]]) :: r.st = _
        rw [z]; rfl
      · rcases List.mem_cons.mp hu with e | hu
        · subst e; exact hw
        · exact hi u hu
  · have := j.wt
    show wt (T.mk w n h ([] ++ [[]]) :: r.st) + _ ≤ _
    simp only [wt, List.map_cons, List.sum_cons, fw, T.bodies] at this ⊢
    simp
    show _ + 2 * r.t.length ≤ _
    omega
theorem readStep_J {M : Nat} {r r' : RS} (h : J M r) (e : readStep r = some r') : J (M - 1) r' ∧ r'.t.length < r.t.length := by
  unfold readStep at e
  cases e1 : nextName r with
  | none => rw [e1] at e; cases e
  | some y =>
    obtain ⟨x, r1⟩ := y
    rw [e1] at e
    obtain ⟨j1, m1, l1⟩ := h.name e1
    have e' : (if r1.t.head? = some (kw "takes") then _ else _) = some r' := e
    split at e'
    · cases e2 : Bw.expect (kw "takes") r1 with
      | none => rw [e2] at e'; cases e'
      | some r2 =>
        rw [e2] at e'
        obtain ⟨j2, m2, l2⟩ := j1.expect e2
        have e3 : (match nextTime 0 r2 with | none => none | some (lo, r2) => _) = some r' := e'
        cases e4 : nextTime 0 r2 with
        | none => rw [e4] at e3; cases e3
        | some y =>
          obtain ⟨lo, r3⟩ := y
          rw [e4] at e3
          obtain ⟨j3, m3, l3⟩ := j2.time e4
          have e5 : (match Bw.expect (kw "to") r3 with | none => none | some r3 => _) = some r' := e3
          cases e6 : Bw.expect (kw "to") r3 with
          | none => rw [e6] at e5; cases e5
          | some r4 =>
            rw [e6] at e5
            obtain ⟨j4, m4, l4⟩ := j3.expect e6
            have e7 : (match nextTime lo r4 with | none => none | some (hi, r4) => _) = some r' := e5
            cases e8 : nextTime lo r4 with
            | none => rw [e8] at e7; cases e7
            | some y =>
              obtain ⟨hi, r5⟩ := y
              rw [e8] at e7
              obtain ⟨j5, m5, l5⟩ := j4.time e8
              have e9 : (match stepOf r5.bk x (some (lo, hi)) with | none => none | some (i, k) => addPart (.mk .do_ i 1 []) { r5 with bk := k }) = some r' := e7
              cases e10 : stepOf r5.bk x (some (lo, hi)) with
              | none => rw [e10] at e9; cases e9
              | some y =>
                obtain ⟨i, k⟩ := y
                rw [e10] at e9
                have e11 : addPart (.mk .do_ i 1 []) { r5 with bk := k } = some r' := e9
                obtain ⟨j6, t6⟩ := addPart_J (stepOf_J j5 e10) e11
                refine ⟨j6.more (by omega), ?_⟩
                rw [t6]; show r5.t.length < _; omega
    · have e9 : (match stepOf r1.bk x none with | none => none | some (i, k) => addPart (.mk .do_ i 1 []) { r1 with bk := k }) = some r' := e'
      cases e10 : stepOf r1.bk x none with
      | none => rw [e10] at e9; cases e9
      | some y =>
        obtain ⟨i, k⟩ := y
        rw [e10] at e9
        have e11 : addPart (.mk .do_ i 1 []) { r1 with bk := k } = some r' := e9
        obtain ⟨j6, t6⟩ := addPart_J (stepOf_J j1 e10) e11
        refine ⟨j6.more (by omega), ?_⟩
        rw [t6]; show r1.t.length < _; omega
theorem readUse_J {M : Nat} {r r' : RS} (h : J M r) (e : readUse r = some r') : J (M - 1) r' ∧ r'.t.length < r.t.length := by
  unfold readUse at e
  cases e1 : nextName r with
  | none => rw [e1] at e; cases e
  | some y =>
    obtain ⟨x, r1⟩ := y
    rw [e1] at e
    obtain ⟨j1, m1, l1⟩ := h.name e1
    have e2 : (match idx r1.bk.names x with | none => none | some i => addPart _ r1) = some r' := e
    cases e3 : idx r1.bk.names x with
    | none => rw [e3] at e2; cases e2
    | some i =>
      rw [e3] at e2
      obtain ⟨j6, t6⟩ := addPart_J j1 e2
      refine ⟨j6.more (by omega), ?_⟩
      rw [t6]; omega
theorem beginPart_J {M : Nat} {r r' : RS} {w : Wd} (hw : w = .if_ ∨ w = .either ∨ w = .both ∨ w = .again) (hne : r.st ≠ []) (h : J M r) (e : beginPart w r = some r') : J (M + 2) r' ∧ r'.t.length ≤ r.t.length := by
  rcases hw with rfl | rfl | rfl | rfl
  · unfold beginPart at e
    cases e1 : nextName r with
    | none => rw [e1] at e; cases e
    | some y =>
      obtain ⟨x, r1⟩ := y
      rw [e1] at e
      obtain ⟨j1, m1, l1⟩ := h.name e1
      have es : r1.st = r.st := by
        unfold nextName at e1
        cases e2 : nextWord r with
        | none => rw [e2] at e1; cases e1
        | some y =>
          rw [e2] at e1
          have e' : (if Vbwbab.isName y.1 = true then some y else none) = some (x, r1) := e1
          split at e'
          · cases e'; rw [(nextWord_eq e2).2]
          · cases e'
      have e2 : (match condOf r1.bk x with | none => none | some (i, k) => _) = some r' := e
      cases e3 : condOf r1.bk x with
      | none => rw [e3] at e2; cases e2
      | some y =>
        obtain ⟨i, k⟩ := y
        rw [e3] at e2
        have e4 : (match Bw.expect (kw "then") { r1 with bk := k } with | none => none | some r2 => some (push (.mk .if_ i 0 []) r2)) = some r' := e2
        cases e5 : Bw.expect (kw "then") { r1 with bk := k } with
        | none => rw [e5] at e4; cases e4
        | some r2 =>
          rw [e5] at e4
          cases e4
          obtain ⟨j2, m2, l2⟩ := (condOf_J j1 e3).expect e5
          have es2 : r2.st = r1.st := by
            unfold Bw.expect at e5
            cases e6 : nextWord { r1 with bk := k } with
            | none => rw [e6] at e5; cases e5
            | some y =>
              rw [e6] at e5
              have e' : (if y.1 = kw "then" then some y.2 else none) = some r2 := e5
              split at e'
              · cases e'; rw [(nextWord_eq (x := y.1) e6).2]
              · cases e'
          refine ⟨(push_J (by decide) (by rw [es2, es]; exact hne) j2).more (by omega), ?_⟩
          show r2.t.length ≤ _
          have : ({ r1 with bk := k } : RS).t.length = r1.t.length := rfl
          omega
  · cases e
    exact ⟨push_J (by decide) hne ⟨h.shape, h.wt, h.recs, h.steps, h.conds⟩, Nat.le_refl _⟩
  · cases e
    exact ⟨push_J (by decide) hne h, Nat.le_refl _⟩
  · cases e
    exact ⟨push_J (by decide) hne h, Nat.le_refl _⟩
theorem beginBody_J {M : Nat} {r r' : RS} {x : Bytes} (h : J M r) (e : beginBody x r = some r') : J (M + 1) r' ∧ r'.t = r.t := by
  unfold beginBody at e
  obtain ⟨t, st, nm, bk⟩ := r
  cases st with
  | nil => cases e
  | cons u s =>
    obtain ⟨w, n, hh, bs⟩ := u
    have e' : (if betw w ≠ some x then none else if w ≠ .both ∧ bs.length = 2 then none else some (⟨t, .mk w n hh (bs ++ [[]]) :: s, nm, bk⟩ : RS)) = some r' := e
    split at e'
    · cases e'
    · split at e'
      · cases e'
      · cases e'
        refine ⟨⟨?_, ?_, h.recs, h.steps, h.conds⟩, rfl⟩
        · rcases h.shape with z | ⟨i, b, z, hw, hi, hn, hx⟩
          · cases z
          · cases i with
            | nil =>
              simp at z
              obtain ⟨rfl, rfl⟩ := z
              exact .inr ⟨[], _, rfl, hw, by simp, hn, hx⟩
            | cons v i =>
              simp at z
              obtain ⟨rfl, rfl⟩ := z
              refine .inr ⟨.mk w n hh (bs ++ [[]]) :: i, b, rfl, hw, fun u hu => ?_, hn, hx⟩
              rcases List.mem_cons.mp hu with e | hu
              · subst e; exact hi (.mk w n hh bs) (List.mem_cons_self ..)
              · exact hi u (List.mem_cons_of_mem _ hu)
        · have hwt := h.wt
          simp only [wt, List.map_cons, List.sum_cons, fw, T.bodies, List.map_append, List.sum_append] at hwt ⊢
          simp
          omega
theorem addRec_len {k k' : Bk} {n : Bytes} {p : T} (e : addRec k n p = some k') : k'.recs.length ≤ 10 ∨ 10 < k.recs.length := by
  unfold addRec at e
  split at e
  · cases e
  · rename_i hc
    cases e
    simp
    omega
theorem putAway_J {M : Nat} {r r' : RS} (h : J M r) (e : putAway r = some r') : J (M + 1) r' ∧ r'.t = r.t := by
  unfold putAway at e
  obtain ⟨t, st, nm, bk⟩ := r
  cases st with
  | nil => cases e
  | cons u s =>
    have e' : (if u.w = .recipe then (addRec bk nm u.counted).map fun k => (⟨t, s, nm, k⟩ : RS) else addPart u.counted ⟨t, s, nm, bk⟩) = some r' := e
    have hwt := h.wt
    have fw1 : 1 ≤ fw u := by unfold fw; omega
    split at e'
    · rename_i hw
      cases e2 : addRec bk nm u.counted with
      | none => rw [e2] at e'; cases e'
      | some k =>
        rw [e2] at e'
        cases e'
        have hs : s = [] := by
          rcases h.shape with z | ⟨i, b, z, hb, hi, hn, hx⟩
          · cases z
          · cases i with
            | nil => simp at z; exact z.2
            | cons v i =>
              simp at z
              exact absurd hw (hi u (by rw [z.1]; exact List.mem_cons_self ..))
        subst hs
        have hk : k.steps = bk.steps ∧ k.conds = bk.conds := by
          unfold addRec at e2
          split at e2
          · cases e2
          · cases e2; exact ⟨rfl, rfl⟩
        refine ⟨⟨.inl rfl, ?_, ?_, by rw [hk.1]; exact h.steps, by rw [hk.2]; exact h.conds⟩, rfl⟩
        · simp only [wt, List.map_nil, List.sum_nil]
          show 0 + 2 * t.length ≤ _
          simp only at hwt
          omega
        · rcases addRec_len e2 with z | z
          · exact z
          · have : bk.recs.length ≤ 10 := h.recs
            omega
    · rename_i hw
      have j0 : J (M - 1) ⟨t, s, nm, bk⟩ := by
        refine ⟨?_, ?_, h.recs, h.steps, h.conds⟩
        · rcases h.shape with z | ⟨i, b, z, hb, hi, hn, hx⟩
          · cases z
          · cases i with
            | nil => simp at z; exact absurd (z.1 ▸ hb) hw
            | cons v i =>
              simp at z
              obtain ⟨rfl, rfl⟩ := z
              exact .inr ⟨i, b, rfl, hb, fun u hu => hi u (List.mem_cons_of_mem _ hu), hn, hx⟩
        · simp only [wt, List.map_cons, List.sum_cons] at hwt ⊢
          omega
      obtain ⟨j, ht⟩ := addPart_J j0 e'
      exact ⟨j.more (by omega), ht⟩
theorem endAgain_J {M : Nat} {r r' : RS} (h : J M r) (e : endAgain r = some r') : J (M + 1) r' ∧ r'.t.length ≤ r.t.length := by
  unfold endAgain at e
  obtain ⟨t, st, nm, bk⟩ := r
  cases st with
  | nil => cases e
  | cons u s =>
    obtain ⟨w, n, hh, bs⟩ := u
    have e' : (if w ≠ .again then none else match nextName ⟨t, .mk w n hh bs :: s, nm, bk⟩ with | none => none | some x => _) = some r' := e
    split at e'
    · cases e'
    · rename_i hw
      have hw : w = .again := Classical.not_not.mp hw
      cases e1 : nextName ⟨t, .mk w n hh bs :: s, nm, bk⟩ with
      | none => rw [e1] at e'; cases e'
      | some y =>
        obtain ⟨x, r1⟩ := y
        rw [e1] at e'
        obtain ⟨j1, m1, l1⟩ := h.name e1
        have es : r1.st = .mk w n hh bs :: s := by
          unfold nextName at e1
          cases e2 : nextWord ⟨t, .mk w n hh bs :: s, nm, bk⟩ with
          | none => rw [e2] at e1; cases e1
          | some y =>
            rw [e2] at e1
            have e' : (if Vbwbab.isName y.1 = true then some y else none) = some (x, r1) := e1
            split at e'
            · cases e'; rw [(nextWord_eq e2).2]
            · cases e'
        have e2 : (match condOf r1.bk x with | none => none | some (i, k) => match Bw.expect (kw "end") { r1 with bk := k, st := .mk w i hh bs :: s } with | none => none | some r2 => putAway r2) = some r' := e'
        cases e3 : condOf r1.bk x with
        | none => rw [e3] at e2; cases e2
        | some y =>
          obtain ⟨i, k⟩ := y
          rw [e3] at e2
          have e4 : (match Bw.expect (kw "end") { r1 with bk := k, st := .mk w i hh bs :: s } with | none => none | some r2 => putAway r2) = some r' := e2
          have jc := condOf_J j1 e3
          have jn : J (M - 2) { r1 with bk := k, st := .mk w i hh bs :: s } := by
            refine ⟨?_, ?_, jc.recs, jc.steps, jc.conds⟩
            · rcases jc.shape with z | ⟨i0, b, z, hb, hi, hn, hx⟩
              · have z' : r1.st = [] := z
                rw [es] at z'; cases z'
              · have z' : r1.st = i0 ++ [b] := z
                rw [es] at z'
                cases i0 with
                | nil => simp at z'; rw [← z'.1] at hb; rw [show (T.mk w n hh bs).w = w from rfl, hw] at hb; cases hb
                | cons v i0 =>
                  simp at z'
                  obtain ⟨rfl, rfl⟩ := z'
                  refine .inr ⟨.mk w i hh bs :: i0, b, rfl, hb, fun u hu => ?_, hn, hx⟩
                  rcases List.mem_cons.mp hu with e | hu
                  · subst e; rw [show (T.mk w i hh bs).w = w from rfl, hw]; decide
                  · exact hi u (List.mem_cons_of_mem _ hu)
            · have := jc.wt
              have hs : ({ r1 with bk := k } : RS).st = .mk w n hh bs :: s := es
              rw [hs] at this
              exact this
          cases e5 : Bw.expect (kw "end") { r1 with bk := k, st := .mk w i hh bs :: s } with
          | none => rw [e5] at e4; cases e4
          | some r2 =>
            rw [e5] at e4
            obtain ⟨j2, m2, l2⟩ := jn.expect e5
            obtain ⟨j3, t3⟩ := putAway_J j2 e4
            refine ⟨j3.more (by omega), ?_⟩
            rw [t3]
            have h1 : ({ r1 with bk := k, st := .mk w i hh bs :: s } : RS).t.length = r1.t.length := rfl
            show r2.t.length ≤ t.length
            have h2 : (⟨t, .mk w n hh bs :: s, nm, bk⟩ : RS).t.length = t.length := rfl
            omega
theorem endPart_J {M : Nat} {r r' : RS} (h : J M r) (e : endPart r = some r') : J (M + 1) r' ∧ r'.t = r.t := by
  unfold endPart at e
  cases hs : r.st with
  | nil => rw [hs] at e; cases e
  | cons u s =>
    rw [hs] at e
    obtain ⟨w, n, hh, bs⟩ := u
    have e' : (if w = .again ∨ ((betw w).isSome = true ∧ bs.length < 2) then none else putAway r) = some r' := e
    split at e'
    · cases e'
    · exact putAway_J h e'
theorem goOn_J {M : Nat} {r r' : RS} {x : Bytes} (hne : r.st ≠ []) (h : J M r) (e : goOn x r = some r') : J (M + 2) r' ∧ r'.t.length ≤ r.t.length := by
  unfold goOn at e
  repeat' split at e
  · have := readStep_J h e; exact ⟨this.1.more (by omega), by omega⟩
  · have := readUse_J h e; exact ⟨this.1.more (by omega), by omega⟩
  · exact beginPart_J (.inr (.inr (.inr rfl))) hne h e
  · exact beginPart_J (.inl rfl) hne h e
  · exact beginPart_J (.inr (.inl rfl)) hne h e
  · exact beginPart_J (.inr (.inr (.inl rfl))) hne h e
  · have := endAgain_J h e; exact ⟨this.1.more (by omega), this.2⟩
  · have := endPart_J h e; exact ⟨this.1.more (by omega), by rw [this.2]; exact Nat.le_refl _⟩
  · have := beginBody_J h e; exact ⟨this.1.more (by omega), by rw [this.2]; exact Nat.le_refl _⟩
theorem beginRecipe_J {M : Nat} {r r' : RS} (hs : r.st = []) (h : J M r) (e : beginRecipe r = some r') : J M r' ∧ r'.t.length < r.t.length := by
  unfold beginRecipe at e
  cases e1 : Bw.expect (kw "recipe") r with
  | none => rw [e1] at e; cases e
  | some r1 =>
    rw [e1] at e
    obtain ⟨j1, m1, l1⟩ := h.expect e1
    have e2 : (match nextName r1 with | none => none | some x => if (x.2.bk.names.contains x.1) = true then none else some (push (.mk .recipe x.2.bk.recs.length 0 []) { x.2 with nm := x.1 })) = some r' := e
    cases e3 : nextName r1 with
    | none => rw [e3] at e2; cases e2
    | some y =>
      obtain ⟨x, r2⟩ := y
      rw [e3] at e2
      obtain ⟨j2, m2, l2⟩ := j1.name e3
      have es : r2.st = [] := by
        have a1 : r1.st = r.st := by
          unfold Bw.expect at e1
          cases e6 : nextWord r with
          | none => rw [e6] at e1; cases e1
          | some y =>
            rw [e6] at e1
            have e' : (if y.1 = kw "recipe" then some y.2 else none) = some r1 := e1
            split at e'
            · cases e'; rw [(nextWord_eq (x := y.1) e6).2]
            · cases e'
        have a2 : r2.st = r1.st := by
          unfold nextName at e3
          cases e6 : nextWord r1 with
          | none => rw [e6] at e3; cases e3
          | some y =>
            rw [e6] at e3
            have e' : (if Vbwbab.isName y.1 = true then some y else none) = some (x, r2) := e3
            split at e'
            · cases e'; rw [(nextWord_eq e6).2]
            · cases e'
        rw [a2, a1, hs]
      have e4 : (if (r2.bk.names.contains x) = true then none else some (push (.mk .recipe r2.bk.recs.length 0 []) { r2 with nm := x })) = some r' := e2
      split at e4
      · cases e4
      · rename_i hc
        cases e4
        refine ⟨⟨.inr ⟨[], .mk .recipe r2.bk.recs.length 0 [[]], ?_, rfl, by simp, rfl, ?_⟩, ?_, j2.recs, j2.steps, j2.conds⟩, ?_⟩
        · show T.mk _ _ _ ([] ++ [[]]) :: r2.st = _
          rw [es]; rfl
        · show idx r2.bk.names x = none
          unfold idx Vbwbab.indexOf
          exact if_neg hc
        · show wt (T.mk .recipe r2.bk.recs.length 0 ([] ++ [[]]) :: r2.st) + 2 * r2.t.length ≤ M
          have := j2.wt
          rw [es] at this ⊢
          simp only [wt, List.map_nil, List.sum_nil, List.map_cons, List.sum_cons, fw, T.bodies] at this ⊢
          simp
          omega
        · show r2.t.length < _
          omega
theorem turnR_J {M : Nat} {r r' : RS} (h : J M r) (e : turnR r = some r') : J M r' ∧ r'.t.length < r.t.length := by
  unfold turnR at e
  cases hs : r.st with
  | nil =>
    rw [hs] at e
    exact beginRecipe_J hs h e
  | cons u s =>
    rw [hs] at e
    have e' : (match nextWord r with | none => none | some x => goOn x.1 x.2) = some r' := e
    cases e1 : nextWord r with
    | none => rw [e1] at e'; cases e'
    | some y =>
      obtain ⟨x, r1⟩ := y
      rw [e1] at e'
      obtain ⟨j1, m1, l1⟩ := h.word e1
      have es : r1.st = r.st := by rw [(nextWord_eq e1).2]
      obtain ⟨j2, t2⟩ := goOn_J (by rw [es, hs]; simp) j1 e'
      exact ⟨j2.more (by omega), by omega⟩
end Bw
end

section
set_option autoImplicit false
/-! The nets of blocks, by what lays them. -/
namespace Bw
open Vbwbab (Block Move)
abbrev Mv := Vbwbab.Move
abbrev Bl := Vbwbab.Block
/-- items one after the other -/
def chain : List Block → Block
  | [] => .skip
  | x :: r => r.foldl .seq x
def stopsOf (p m : Nat) : List Nat := (List.range m).map fun k => p + m - 1 - k
/-- items laid one after the other, each to its own place -/
def layL : List Block → List Nat → Nat → Nat → List Move × Nat
  | x :: xs, t :: ts, h, q => let n := Vbwbab.netOf x h t q; let r := layL xs ts t n.2; (n.1 ++ r.1, r.2)
  | _, _, _, q => ([], q)
theorem layL_snoc (y : Block) (g : Nat) : ∀ (xs : List Block) (ts : List Nat) (h q : Nat), xs.length = ts.length →
    layL (xs ++ [y]) (ts ++ [g]) h q = ((layL xs ts h q).1 ++ (Vbwbab.netOf y (ts.getLast?.getD h) g (layL xs ts h q).2).1, (Vbwbab.netOf y (ts.getLast?.getD h) g (layL xs ts h q).2).2)
  | [], [], h, q, _ => by simp [layL]
  | x :: xs, t :: ts, h, q, e => by
    have ih := layL_snoc y g xs ts t (Vbwbab.netOf x h t q).2 (by simpa using e)
    show ((Vbwbab.netOf x h t q).1 ++ (layL (xs ++ [y]) (ts ++ [g]) t (Vbwbab.netOf x h t q).2).1, (layL (xs ++ [y]) (ts ++ [g]) t (Vbwbab.netOf x h t q).2).2) = _
    rw [ih]
    have e2 : (t :: ts).getLast?.getD h = ts.getLast?.getD t := by
      cases ts with
      | nil => rfl
      | cons a r => rw [List.getLast?_cons_cons, List.getLast?_eq_some_getLast (List.cons_ne_nil a r)]; rfl
    rw [e2]
    simp only [layL, List.append_assoc]
theorem layL_take : ∀ (i : Nat) (xs : List Block) (ts : List Nat) (h q : Nat), (layL (xs.take i) (ts.take i) h q).1.length ≤ (layL xs ts h q).1.length
  | 0, xs, ts, h, q => by simp [layL]
  | i + 1, [], ts, h, q => by simp [layL]
  | i + 1, x :: xs, [], h, q => by simp [layL]
  | i + 1, x :: xs, t :: ts, h, q => by
    have := layL_take i xs ts t (Vbwbab.netOf x h t q).2
    simp only [List.take_succ_cons, layL, List.length_append]
    omega
theorem layL_step {xs : List Block} {ts : List Nat} {i : Nat} {x : Block} {g : Nat} (hx : xs[i]? = some x) (hg : ts[i]? = some g) (h q : Nat) :
    layL (xs.take (i + 1)) (ts.take (i + 1)) h q = ((layL (xs.take i) (ts.take i) h q).1 ++ (Vbwbab.netOf x ((ts.take i).getLast?.getD h) g (layL (xs.take i) (ts.take i) h q).2).1, (Vbwbab.netOf x ((ts.take i).getLast?.getD h) g (layL (xs.take i) (ts.take i) h q).2).2) := by
  have h1 : xs.take (i + 1) = xs.take i ++ [x] := by rw [List.take_add_one, hx]; rfl
  have h2 : ts.take (i + 1) = ts.take i ++ [g] := by rw [List.take_add_one, hg]; rfl
  have l1 := (List.getElem?_eq_some_iff.mp hx).1
  have l2 := (List.getElem?_eq_some_iff.mp hg).1
  rw [h1, h2, layL_snoc]
  simp; omega
theorem take_last {ts : List Nat} {i g : Nat} (hg : ts[i]? = some g) (h : Nat) : (ts.take (i + 1)).getLast?.getD h = g := by
  have h2 : ts.take (i + 1) = ts.take i ++ [g] := by rw [List.take_add_one, hg]; rfl
  rw [h2]; simp
theorem stopsOf_succ (p m : Nat) : stopsOf p (m + 1) = stopsOf (p + 1) m ++ [p] := by
  unfold stopsOf
  rw [List.range_succ, List.map_append]
  congr 1
  · refine List.map_congr_left fun k hk => ?_
    have := List.mem_range.mp hk
    omega
  · show [p + (m + 1) - 1 - m] = [p]
    congr 1; omega
theorem chain_snoc {x : Block} {xs : List Block} {y : Block} : chain (x :: xs ++ [y]) = .seq (chain (x :: xs)) y := by
  show (xs ++ [y]).foldl Block.seq x = _
  rw [List.foldl_append]; rfl
theorem net_chain : ∀ (m : Nat) (xs : List Block) (s g p : Nat), xs.length = m + 1 → Vbwbab.netOf (chain xs) s g p = layL xs (stopsOf p m ++ [g]) s (p + m)
  | 0, xs, s, g, p, h => by
    match xs, h with
    | [x], _ => simp [layL, chain, stopsOf]
  | m + 1, xs, s, g, p, h => by
    obtain ⟨l, y, rfl⟩ : ∃ l y, xs = l ++ [y] := ⟨xs.dropLast, xs.getLast (by intro z; rw [z] at h; cases h), (List.dropLast_concat_getLast _).symm⟩
    have hl : l.length = m + 1 := by simpa using h
    cases l with
    | nil => cases hl
    | cons x r =>
      rw [chain_snoc]
      show (let a := Vbwbab.netOf (chain (x :: r)) s p (p + 1); let q := Vbwbab.netOf y p g a.2; (a.1 ++ q.1, q.2)) = _
      have ih := net_chain m (x :: r) s p (p + 1) hl
      rw [ih, stopsOf_succ]
      have e : p + 1 + m = p + (m + 1) := by omega
      rw [e, layL_snoc y g (x :: r) (stopsOf (p + 1) m ++ [p]) s (p + (m + 1)) (by unfold stopsOf; simpa using hl)]
      simp
/-- what a kind's word and number say -/
def Kd (kd : String) (n l : Nat) : Prop := (kd = "silent" ∧ n = 0 ∧ l = 0) ∨ (kd = "step" ∧ l = Vbwbab.stepLetter n) ∨ (kd = "yes" ∧ l = Vbwbab.yes n) ∨ (kd = "no" ∧ l = Vbwbab.no_ n)
/-- which block a part or a body stands for; the number bounds how deep calls go -/
structure LRel where
  body : List T → Block → Prop
  part : T → Block → Prop
  ifs : T → Block → Prop
  both : List (List T) → Block → Prop
  again : T → Block → Prop
def lays (k : Bk) : Nat → LRel
  | 0 => ⟨fun _ _ => False, fun _ _ => False, fun _ _ => False, fun _ _ => False, fun _ _ => False⟩
  | r + 1 => {
    body := fun (b : List T) x => ∃ xs : List Block, b.length = xs.length ∧ b.length ≤ 1000 ∧ (∀ (i : Nat) (t : T) (y : Block), b[i]? = some t → xs[i]? = some y → (lays k r).part t y) ∧ x = chain xs
    part := fun t x => match t.w with
      | .do_ => x = .step t.n
      | .use => ∃ nm u b, k.recs[t.n]? = some (nm, u) ∧ u.bodies[0]? = some b ∧ (lays k r).body b x
      | .if_ => (lays k r).ifs t x
      | .both => (lays k r).both t.bodies x
      | .again => (lays k r).again t x
      | _ => False
    ifs := fun t x => ∃ a b y z, t.bodies = [a, b] ∧ (lays k r).body a y ∧ (lays k r).body b z ∧ x = .cond t.n y z
    both := fun bs x => bs.length ≤ 1000 ∧ ∃ i l y z, bs = i ++ [l] ∧ ((2 < bs.length ∧ (lays k r).both i y) ∨ (∃ f, i = [f] ∧ (lays k r).body f y)) ∧ (lays k r).body l z ∧ x = .both y z
    again := fun t x => ∃ a y, t.bodies = [a] ∧ (lays k r).body a y ∧ x = .loop y t.n }
end Bw
end

section
set_option Elab.async false
set_option linter.all false
set_option maxRecDepth 100000
set_option maxHeartbeats 2000000
namespace Bw
open PySem PySem.Spec PyProof.Rows L2
def top (i : Nat) : Stmt := PySem.Challenge.pw_batchworks_s01_works.main.body.getD i (.Pass ⟨0, 0, 0, 0⟩)
abbrev FnP (K : PySem.W.Frag) (x q : Str) (st : Stmt) (f : Addr) (fd : FuncData) : Prop := FunD K x q (defArgs st) (defBody st) (defScope st) [] [] f fd
theorem pe_gs {X : Cx} {x z : Str} {pos : Pos} (hg : Gl X x) (h : ∃ t, X.mg x = some (.str z t)) (hd : (x == ("__debug__" : Str)) = false := by decide) : PE X (.Name x pos) (tC (.str z)) := by
  obtain ⟨t, h⟩ := h
  exact pe_glob hg h ⟨t, rfl⟩ hd
theorem pe_gi {X : Cx} {x : Str} {z : Int} {pos : Pos} (hg : Gl X x) (h : ∃ t, X.mg x = some (.int z t)) (hd : (x == ("__debug__" : Str)) = false := by decide) : PE X (.Name x pos) (tC (.int z)) := by
  obtain ⟨t, h⟩ := h
  exact pe_glob hg h ⟨t, rfl⟩ hd
def S (l : List Nat) : Str := ⟨l.toArray⟩
/-- a def's promise, with how arguments bind -/
structure Cal (P : Program) (w : World) (K : PySem.W.Frag) (mg : Str → Option Value) (base : Heap) (CX : CXT) (k : Nat) (f : Addr) (ps : List Str) (sp : Sp) : Prop where
  ex : ∃ fd, FnOk P w K mg base CX k f fd ps sp ∧ Binds K fd ps []
  kp : PySem.W.keepIn K (.ref f) = true
section
variable {X : Cx} {CX : CXT} {k : Nat} {f C : Addr} {ps : List Str} {sp : Sp} {E : XK} {x m : Str} {p apos pos : Pos} {e o : Expr} {es : List Expr} {t : TA} {ta : TE}
theorem pe_calC (c : Cal X.prog X.w X.K X.mg X.base CX k f ps sp) (hr : Room k X.A) (hg : Gl X x) (hm : X.mg x = some (.ref f)) (hx : Passes CX X E) (ha : PA X (e :: es) t)
    (hd : (x == ("__debug__" : Str)) = false := by decide) (he : starEach (e :: es) X.env = (false, eval e X.env) :: starEach es X.env := by rfl) (hpl : (backTo pos (starEach es X.env)).any (·.1) = false := by rfl) :
    PE X (.Call (.Name x p) (e :: es) [] pos) (tCall sp [] E t) := by
  obtain ⟨fd, F, b⟩ := c.ex
  exact pe_call F hr hg hm c.kp b .nil hx ha hd he hpl
theorem pe_calC0 (c : Cal X.prog X.w X.K X.mg X.base CX k f ps sp) (hr : Room k X.A) (hg : Gl X x) (hm : X.mg x = some (.ref f)) (hx : Passes CX X E)
    (hd : (x == ("__debug__" : Str)) = false := by decide) : PE X (.Call (.Name x p) [] [] pos) (tCall sp [] E tNil) := by
  obtain ⟨fd, F, b⟩ := c.ex
  exact pe_call0 F hr hg hm c.kp b .nil hx hd
theorem pe_makC (M : Mk X.K C f) (c : Cal X.prog X.w X.K X.mg X.base CX k f ps sp) (hr : Room (k + 1) X.A) (hg : Gl X x) (hm : X.mg x = some (.ref C)) (hx : Passes CX X E) (ha : PA X (e :: es) t)
    (hd : (x == ("__debug__" : Str)) = false := by decide) (he : starEach (e :: es) X.env = (false, eval e X.env) :: starEach es X.env := by rfl) (hpl : (backTo pos (starEach es X.env)).any (·.1) = false := by rfl) :
    PE X (.Call (.Name x p) (e :: es) [] pos) (tMake C sp [] E t) := by
  obtain ⟨fd, F, b⟩ := c.ex
  exact pe_make M F hr hg hm b .nil hx ha hd he hpl
theorem pe_makC0 (M : Mk X.K C f) (c : Cal X.prog X.w X.K X.mg X.base CX k f ps sp) (hr : Room (k + 1) X.A) (hg : Gl X x) (hm : X.mg x = some (.ref C)) (hx : Passes CX X E)
    (hd : (x == ("__debug__" : Str)) = false := by decide) : PE X (.Call (.Name x p) [] [] pos) (tMake C sp [] E tNil) := by
  obtain ⟨fd, F, b⟩ := c.ex
  exact pe_make0 M F hr hg hm b .nil hx hd
end
section
variable {vs : List V} {H : Hp} {Q : VK} {E : XK}
def sp0 (f : Hp → VK → XK → Prop) : Sp := fun vs H Q E => vs = [] ∧ f H Q E
def sp1 (f : V → Hp → VK → XK → Prop) : Sp := fun vs H Q E => ∃ a, vs = [a] ∧ f a H Q E
def sp2 (f : V → V → Hp → VK → XK → Prop) : Sp := fun vs H Q E => ∃ a b, vs = [a, b] ∧ f a b H Q E
def sp3 (f : V → V → V → Hp → VK → XK → Prop) : Sp := fun vs H Q E => ∃ a b c, vs = [a, b, c] ∧ f a b c H Q E
def sp4 (f : V → V → V → V → Hp → VK → XK → Prop) : Sp := fun vs H Q E => ∃ a b c d, vs = [a, b, c, d] ∧ f a b c d H Q E
def sp5 (f : V → V → V → V → V → Hp → VK → XK → Prop) : Sp := fun vs H Q E => ∃ a b c d e, vs = [a, b, c, d, e] ∧ f a b c d e H Q E
theorem sp1_len {f} (h : sp1 f vs H Q E) : vs.length = 1 := by obtain ⟨a, rfl, _⟩ := h; rfl
theorem sp2_len {f} (h : sp2 f vs H Q E) : vs.length = 2 := by obtain ⟨a, b, rfl, _⟩ := h; rfl
theorem sp3_len {f} (h : sp3 f vs H Q E) : vs.length = 3 := by obtain ⟨a, b, c, rfl, _⟩ := h; rfl
theorem sp4_len {f} (h : sp4 f vs H Q E) : vs.length = 4 := by obtain ⟨a, b, c, d, rfl, _⟩ := h; rfl
theorem sp5_len {f} (h : sp5 f vs H Q E) : vs.length = 5 := by obtain ⟨a, b, c, d, e, rfl, _⟩ := h; rfl
theorem sp1_get {f} (h : sp1 f vs H Q E) : ∃ a, vs = [a] ∧ f a H Q E := h
theorem sp2_get {f} (h : sp2 f vs H Q E) : ∃ a b, vs = [a, b] ∧ f a b H Q E := h
theorem sp3_get {f} (h : sp3 f vs H Q E) : ∃ a b c, vs = [a, b, c] ∧ f a b c H Q E := h
theorem sp4_get {f} (h : sp4 f vs H Q E) : ∃ a b c d, vs = [a, b, c, d] ∧ f a b c d H Q E := h
theorem sp5_get {f} (h : sp5 f vs H Q E) : ∃ a b c d e, vs = [a, b, c, d, e] ∧ f a b c d e H Q E := h
theorem sp1_mk {f} {a : V} : sp1 f [a] H Q E ↔ f a H Q E := ⟨fun ⟨_, e, h⟩ => by cases e; exact h, fun h => ⟨a, rfl, h⟩⟩
theorem sp2_mk {f} {a b : V} : sp2 f [a, b] H Q E ↔ f a b H Q E := ⟨fun ⟨_, _, e, h⟩ => by cases e; exact h, fun h => ⟨a, b, rfl, h⟩⟩
theorem sp3_mk {f} {a b c : V} : sp3 f [a, b, c] H Q E ↔ f a b c H Q E := ⟨fun ⟨_, _, _, e, h⟩ => by cases e; exact h, fun h => ⟨a, b, c, rfl, h⟩⟩
theorem sp4_mk {f} {a b c d : V} : sp4 f [a, b, c, d] H Q E ↔ f a b c d H Q E := ⟨fun ⟨_, _, _, _, e, h⟩ => by cases e; exact h, fun h => ⟨a, b, c, d, rfl, h⟩⟩
theorem sp5_mk {f} {a b c d i : V} : sp5 f [a, b, c, d, i] H Q E ↔ f a b c d i H Q E := ⟨fun ⟨_, _, _, _, _, e, h⟩ => by cases e; exact h, fun h => ⟨a, b, c, d, i, rfl, h⟩⟩
end
end Bw
end

section
set_option Elab.async false
set_option linter.all false
set_option maxRecDepth 100000
set_option maxHeartbeats 4000000
/-! The refusals: error classes over Exception, one above the other, each with an __init__ of its own. -/
namespace Bw
open PySem PySem.Spec PyProof.Rows L2
open PySem.W (Frag)
open Builtin Builtin.ObjectAttr
abbrev exB : List Value := [.type "Exception", .type "BaseException", .type "object"]
/-- what the top has written of such a class -/
structure EC (K : Frag) (C : Addr) : Prop where
  ini : PySem.W.excInitIn K C exB "Exception.__new__" = true
  over : PySem.W.excOver K C exB = true
  dic : PySem.W.hasDictIn K C = true
  sa : PySem.W.findIn K (.ref C) "__setattr__" = some (some (.builtin "object.__setattr__"))
  ga : PySem.W.findIn K (.ref C) "__getattribute__" = some (some (.builtin "BaseException.__getattribute__"))
  gg : PySem.W.findIn K (.ref C) "__getattr__" = some none
  num : PySem.W.findIn K (.ref C) "number" = some none
  exC : PySem.W.subIn K (.ref C) (.type "BaseException") = some true
  tyC : PySem.W.typeIn K (.ref C) = some (.type "type")
  kC : PySem.W.keepIn K (.ref C) = true
abbrev exnum (n : Int) : List (Str × V) := [(("number" : Str), V.int n)]
section
variable {X : Cx} {pins : List (Addr × Obj)} {σ : L2.St} {H : Hp} {s : Shared} {a C : Addr} {y : V} {u : Value} {Q : Unit → Shared → Prop} {E : Value → Shared → Prop} {A : Around}
theorem ec_raw {prog : Program} {w : World} {R : Result → Shared → Prop} {hp : Heap} {g : Array GenState} {d : Drawn} {t : Nat} {os : OsState} {K : Frag} {tk : Tok} {v : Value} {x : Addr} {fv : Array Value}
    (T : EC K C) (KX : K.In hp) (hx : hp.get? x = some { cls := .ref C, data := .fields fv })
    (hq : ∀ h' tk' dx, (∀ b o, b ≠ x → hp.get? b = some o → h'.get? b = some o) → hp.objs.size ≤ dx → dx ≠ x → h'.get? x = some { cls := .ref C, dict := some dx, data := .fields fv } →
      h'.Ns1 dx (fun z => if z = ("number" : Str) then some v else none) → R (.ok (.ret .none)) ⟨h', g, d, tk', os⟩) :
    codeAny (model prog w) A (.call (.builtin "object.__setattr__") ⟨[.ref x, .str "number" tk, v], []⟩) R ⟨hp, g, d, t, os⟩ := by
  have I : PySem.W.InstAt hp x { cls := .ref C, data := .fields fv } C none := ⟨hx, rfl, rfl, trivial⟩
  have far : x ≠ hp.objs.size := Nat.ne_of_lt (Heap.lt_size hx)
  have tak : PySem.W.takerIn K C "number" = some none := by unfold PySem.W.takerIn; rw [T.num]; rfl
  obtain ⟨cd, hcd, hh⟩ : ∃ cd, PySem.W.clsIn K C = some cd ∧ cd.hasDict = true := by
    have z := T.dic
    unfold PySem.W.hasDictIn at z
    cases q : PySem.W.clsIn K C with
    | none => rw [q] at z; cases z
    | some cd => rw [q] at z; exact ⟨cd, rfl, z⟩
  have hcls : PySem.W.Looks (model prog w) hp (classData C) cd := PySem.W.looks_clsIn KX hcd
  refine PySem.W.osa_openX PySem.F.store_Exception KX I T.over tak fun b => ?_
  show wpAny _ _ (storeInOwnDict (.ref x) (.ref C) (.str "number" tk) "number" v b) _ _ _
  obtain ⟨nm, bs, mro, ns, qn, hd, sn, sb, ab, col, del⟩ := cd
  dsimp only at hh
  subst hh
  unfold storeInOwnDict ownDictForStores
  repeat (first | with_reducible refine PySem.HandSPX.store_in_new ?_ ?_ | with_reducible refine wpAny_loadPart_at hx ?_ | with_reducible refine hcls.at ?_ | wp_step)
  · exact ⟨_, #[], _, (Heap.get?_update_ne _ _ _ _ far.symm).trans (Heap.get?_push_at rfl rfl), rfl, fun e he => absurd he (by simp), fun _ => rfl⟩
  · intro h' tk' hn' hs
    have hx1 : (hp.push { cls := .type "dict", data := .dict #[] }).get? x = some { cls := .ref C, data := .fields fv } := Heap.get?_push_of_some _ hx
    refine hq h' tk' hp.objs.size (fun b o hb ho => ?_) (Nat.le_refl _) far.symm ?_ hn'
    · exact (hs.2 b (Nat.ne_of_lt (Heap.lt_size ho))).trans ((Heap.get?_update_ne _ _ _ _ hb).trans (Heap.get?_push_of_some _ ho))
    · exact (hs.2 x far).trans (Heap.get?_update_self _ hx1 rfl)
theorem ec_store (T : EC X.K C) (I : Inv X pins σ H s) (e : H a = some (exo a C none)) (ry : RelV y u)
    (h : ∀ dx s', H dx = none → dx ≠ a → Inv X pins σ (upd (upd H dx (exd dx [(("number" : Str), y)])) a (exo a C (some dx))) s' → Q () s') : wpAny (model X.prog X.w) A (setAttr (.ref a) "number" u) Q E s := by
  obtain ⟨t1, ho⟩ := exo_at I.hok e
  obtain ⟨hp, g, d, t, os⟩ := s
  refine PySem.W.set_plain I.kIn (ox := { cls := .ref C, dict := none, data := .fields #[.ref t1, .none, .none, .none, .bool false, .none] }) (od := none) ⟨ho, rfl, rfl, trivial⟩ T.sa ?_
  refine ec_raw T I.kIn ho (fun h' tk' dx k dn dne hx hn => ?_)
  have free : H dx = none := I.hok.fresh dn
  have off : ∀ {b : Addr} {o : Obj}, hp.get? b = some o → b ≠ dx := fun {b o} q => Nat.ne_of_lt (Nat.lt_of_lt_of_le (Heap.lt_size q) dn)
  have nota : ∀ {b : Addr}, H b = none → b ≠ a := fun {b} n z => by rw [z, e] at n; cases n
  have U : Un X.fs [] H (upd (upd H dx (exd dx [(("number" : Str), y)])) a (exo a C (some dx))) hp h' := by
    refine ⟨fun b o q n _ _ => k b o (nota n) q, fun b o q n _ _ => ⟨o.slots, k b o (nota n) q⟩, fun b o q n _ => ?_, fun b o q _ => ?_, fun b xs q => ?_, fun b o v q => ?_, fun b ps q => ?_⟩
    · rw [upd_ne (nota n), upd_ne (off q)]; exact n
    · by_cases hb : b = a
      · exact ⟨_, by rw [hb]; exact hx⟩
      · exact ⟨o, k b o hb q⟩
    · rw [upd_ne (at_ne e q exo_tup), upd_ne (ne_of_none q free)]; exact q
    · rw [upd_ne (at_ne e q exo_frz), upd_ne (ne_of_none q free)]; exact q
    · exact ⟨#[], by rw [upd_ne (at_ne e q exo_tbl), upd_ne (ne_of_none q free), q]; simp⟩
  refine h dx _ free dne (I.un (t' := tk') U fun b o q => ?_)
  by_cases hb : b = a
  · subst hb
    rw [upd_same] at q
    cases q
    exact exo_ok hx
  rw [upd_ne hb] at q
  by_cases hd : b = dx
  · subst hd
    rw [upd_same] at q
    cases q
    exact exd_ok hn (relO_put (fs := []) ry fun g => True.intro)
  rw [upd_ne hd] at q
  refine (I.hok b o q).stay (fun c v hc z => k c v ?_ z) (fun c hc => ?_) (fun c xs hc => ?_)
  · rcases hc with hc | hc
    · rw [hc]; exact hb
    · exact at_ne e hc exo_own
  · rw [upd_ne (at_ne e hc exo_own), upd_ne (ne_of_none hc free)]; exact hc
  · rw [upd_ne (at_ne e hc exo_tup), upd_ne (ne_of_none hc free)]; exact hc
end
/-- self.number = e -/
def tNum (K : Frag) (to te : TE) : TS := fun D σ H => te σ H fun y H1 => to σ H1 fun x H2 => ∃ a C : Addr, x = .ref a ∧ EC K C ∧ H2 a = some (exo a C none) ∧
  ∀ dx, H2 dx = none → dx ≠ a → D.nx σ (upd (upd H2 dx (exd dx [(("number" : Str), y)])) a (exo a C (some dx)))
theorem ps_num {X : Cx} {o e : Expr} {to te : TE} {p' pos : Pos} (ho : PE X o to) (he : PE X e te) (hs : swapsWith e (some (.Attribute o "number" p')) pos.line X.env = pure false := by rfl) : PS X (.Assign [.Attribute o "number" p'] e pos) (tNum X.K to te) := by
  refine ⟨fun pins s σ H D I h => ?_⟩
  refine plainObj_wpAny_Assign_Attribute (thn (he.run pins s σ H _ I h) fun v s1 ⟨y, H1, I1, r1, q1⟩ => thn (ho.run pins s1 σ H1 _ I1 q1) fun u s2 ⟨x, H2, I2, r2, a, C, ex, T, ea, q⟩ => ?_) hs
  subst ex
  obtain rfl : u = Value.ref a := r2
  exact ec_store T I2 ea r1 fun dx s' n ne J => ⟨σ, _, J, q dx n ne⟩
/-- the class C's own __init__, read off the class -/
structure CI (K : Frag) (C f : Addr) : Prop where
  sp : PySem.W.specialIn K (.ref C) "__getattribute__" = some (some (.builtin "type.__getattribute__"))
  rd : PySem.W.readsIn K C (.type "type") = true
  at_ : PySem.W.findCls K (.ref C) (.type "type") "__init__" = some (.val (.ref f))
  hd : PySem.W.handedIn (.ref f) = true
  kp : PySem.W.keepIn K (.ref f) = true
/-- C.__init__(e, ..) -/
theorem pe_base {X : Cx} {CX : CXT} {k : Nat} {f C : Addr} {fd : FuncData} {ps : List Str} {sp : Sp} {E : XK} {x : Str} {p apos pos : Pos} {e : Expr} {es : List Expr} {t : TA} {pl : Sem Bool}
    (c : CI X.K C f) (F : FnOk X.prog X.w X.K X.mg X.base CX k f fd ps sp) (hb : Binds X.K fd ps []) (hr : Room k X.A) (hg : Gl X x) (hm : X.mg x = some (.ref C)) (hx : Passes CX X E) (ha : PA X (e :: es) t)
    (hdb : (x == ("__debug__" : Str)) = false := by decide)
    (hst : starEach (e :: es) X.env = (false, eval e X.env) :: starEach es X.env := by rfl) (hpl : (backTo pos (starEach es X.env)).any (·.1) = false := by rfl)
    (ht : eval (.Call (.Attribute (.Name x p) "__init__" apos) (e :: es) [] pos) X.env = (do
      let ov ← eval (.Name x p) X.env
      standAt apos.atName
      let (f, first) ← holding [ov] (getMethod ov "__init__" pl)
      callWith pos f first (backTo pos (starEach (e :: es) X.env)) (backToKw pos (keywordEach [] X.env))) := by rfl) :
    PE X (.Call (.Attribute (.Name x p) "__init__" apos) (e :: es) [] pos) (tCall sp [] E t) := by
  refine ⟨fun pins s σ H Q I h => ?_⟩
  refine PySem.W.methodCall_KW (pl := pl) (ld_glob I hg hm ?_ hdb) ht
  refine PySem.W.method_cls I.kIn c.sp (PySem.W.cls_value I.kIn c.rd c.at_ c.hd ?_)
  refine PySem.W.callWith_K (first := []) (h₀ := X.base) I.ok.mod.kin c.kp (thn (ha.run pos pins _ σ H _ (I.tok _) h) fun us s2 ⟨vs, H2, I2, r, q2⟩ => ⟨I2.kIn, ?_⟩) hst hpl
  exact run_fn F hr hb .nil hx I2 r q2
/-- C(e, ..): the exception is made, its __init__ keeping sp; then it is let go, its dict stands as an exception's -/
def tMkE (C : Addr) (sp : Sp) (ta : TA) : L2.St → Hp → XK → Prop := fun σ H Q => ta σ H fun vs H1 => vs.length ≤ 1000 ∧ ∀ a, H1 a = none → sp (.ref a :: vs) (upd H1 a (exo a C none))
  (fun v H2 => v = .non ∧ ∃ (d : Addr) (fs : List (Str × V)), H2 a = some (exo a C (some d)) ∧ H2 d = some (exd d fs) ∧ H1 d = none ∧ Q (.ref C) (some d) (upd (del H2 a) d (.xd fs))) (fun _ _ _ => False)
section
variable {X : Cx} {CX : CXT} {x : Str} {C fI : Addr} {k : Nat} {fd : FuncData} {ps : List Str} {sp : Sp} {ta : TA} {e : Expr} {es : List Expr} {p pos : Pos}
theorem ec_make (T : EC X.K C) (iC : PySem.W.findIn X.K (.ref C) "__init__" = some (some (.ref fI))) (tI : PySem.W.isFn X.K (.ref fI) = true)
    (F1 : FnOk X.prog X.w X.K X.mg X.base CX k fI fd ps sp) (hr : Room (k + 1) X.A) (hb : Binds X.K fd ps []) (hx : Passes CX X (fun _ _ _ => False))
    {pins : List (Addr × Obj)} {σ : L2.St} {H1 : Hp} {s1 : Shared} {Q : XK} {us : List Value} {vs : List V} (I1 : Inv X pins σ H1 s1) (r1 : Vals vs us) (hz : vs.length ≤ 1000)
    (q1 : ∀ a, H1 a = none → sp (.ref a :: vs) (upd H1 a (exo a C none)) (fun v H2 => v = .non ∧ ∃ (d : Addr) (fs : List (Str × V)), H2 a = some (exo a C (some d)) ∧ H2 d = some (exd d fs) ∧ H1 d = none ∧ Q (.ref C) (some d) (upd (del H2 a) d (.xd fs))) (fun _ _ _ => False)) :
    wpAny (model X.prog X.w) X.A (call (.ref C) us) (fun u s' => MkP X pins σ Q u s') X.xe s1 := by
  obtain ⟨nm, N', qn, bs, bm, hdct, sn, sub, ab, col, dd, k0, k1, k2, k3, k5, hC, hT⟩ := PySem.W.excInit_of I1.kIn T.ini
  obtain ⟨oI, hoI, hcI⟩ : ∃ oI, s1.heap.get? fI = some oI ∧ oI.cls = .type "function" := by
    obtain ⟨o, ho, hc⟩ := Option.map_eq_some_iff.mp (show (X.K.lookup fI).map (·.cls) = some (.type "function") from beq_iff_eq.mp tI)
    exact ⟨o, I1.kIn _ _ ho, hc⟩
  obtain ⟨hp, g, dr, tk, os⟩ := s1
  have up1 : hp.objs.size ≤ hp.objs.size + 1 := Nat.le_succ _
  have fr1 : H1 (hp.objs.size + 1) = none := I1.hok.fresh up1
  have ask := q1 (hp.objs.size + 1) fr1
  have old : ∀ b o, hp.get? b = some o → ((hp.push (PySem.W.kdv_tup us)).push (PySem.HandSPX.excO C hp.objs.size)).get? b = some o := fun b o z => Heap.get?_push_of_some _ (Heap.get?_push_of_some _ z)
  have here : ((hp.push (PySem.W.kdv_tup us)).push (PySem.HandSPX.excO C hp.objs.size)).get? (hp.objs.size + 1) = some (PySem.HandSPX.excO C hp.objs.size) := by heap_get
  have I2 : Inv X pins σ (upd H1 (hp.objs.size + 1) (exo (hp.objs.size + 1) C none)) ⟨(hp.push (PySem.W.kdv_tup us)).push (PySem.HandSPX.excO C hp.objs.size), g, dr, tk, os⟩ :=
    I1.laid (t' := tk) (a := hp.objs.size + 1) (o := exo (hp.objs.size + 1) C none) (h' := (hp.push (PySem.W.kdv_tup us)).push (PySem.HandSPX.excO C hp.objs.size)) old up1 (exo_ok here)
  have r2 : Vals (V.ref (hp.objs.size + 1) :: vs) (Value.ref (hp.objs.size + 1) :: us) := .cons rfl r1
  have hl : (Value.ref (hp.objs.size + 1) :: us).length = ps.length := by
    have z := r2.length
    rw [F1.len _ _ _ _ ask] at z
    exact z.symm
  have hus : us.length ≤ sizeLine := by
    rw [← Paired.length r1, sizeLine_eq]
    omega
  have bnd := hb _ (Value.ref (hp.objs.size + 1) :: us) I2.kIn (by rw [List.append_nil]; exact hl)
  rw [List.append_nil] at bnd
  refine wpAny_call (PySem.HandSPX.call_own PySem.F.excBase_Exception hT hC (PySem.W.looks_findIn I1.kIn iC) (fun self => PySem.W.exc_bind hoI hcI self) hus
    (codeAny_mono (F1.run _ X.stack _ _ ⟨Value.ref (hp.objs.size + 1) :: us, []⟩ (Value.ref (hp.objs.size + 1) :: us) _ _ (fun _ _ _ => False) (hr.make C us []) (I2.env0.make C us []) bnd r2 ask) fun r s' hq' => ?_))
  cases r with
  | error er => exact hx pins σ _ _ er s' I2 hq'
  | ok fl =>
    cases fl with
    | ret u =>
      obtain ⟨v, H2, os2, bare2, un2, hok2, rv, ev, d, fs, ea, ed, hd1, q2⟩ := hq'
      subst ev
      obtain ⟨h2, g2, d2, t2, os'⟩ := s'
      exact ⟨rv, mk_end (raises_own T.exC T.tyC) I1 up1 old un2 hok2 os2 bare2 ea ed hd1 q2⟩
    | next => exact False.elim hq'
    | brk => exact False.elim hq'
    | cont => exact False.elim hq'
theorem pmk_ec (T : EC X.K C) (iC : PySem.W.findIn X.K (.ref C) "__init__" = some (some (.ref fI))) (tI : PySem.W.isFn X.K (.ref fI) = true)
    (F1 : FnOk X.prog X.w X.K X.mg X.base CX k fI fd ps sp) (hr : Room (k + 1) X.A) (hb : Binds X.K fd ps []) (hx : Passes CX X (fun _ _ _ => False)) (hg : Gl X x) (hm : X.mg x = some (.ref C)) (ha : PA X (e :: es) ta)
    (hdb : (x == ("__debug__" : Str)) = false := by decide) (he : starEach (e :: es) X.env = (false, eval e X.env) :: starEach es X.env := by rfl) (hpl : (backTo pos (starEach es X.env)).any (·.1) = false := by rfl) :
    PMk X (.Call (.Name x p) (e :: es) [] pos) (tMkE C sp ta) := by
  intro pins s σ H Q I h
  refine wpAny_Call_Name_kw (ld_glob I hg hm ?_ hdb)
  exact PySem.W.callWith_K (h₀ := X.base) I.ok.mod.kin T.kC (thn (ha.run pos pins s σ H _ I h) fun us s1 ⟨vs, H1, I1, r1, hz, q1⟩ => ⟨I1.kIn, ec_make T iC tI F1 hr hb hx I1 r1 hz q1⟩) he hpl
theorem pmk_ec0 (T : EC X.K C) (iC : PySem.W.findIn X.K (.ref C) "__init__" = some (some (.ref fI))) (tI : PySem.W.isFn X.K (.ref fI) = true)
    (F1 : FnOk X.prog X.w X.K X.mg X.base CX k fI fd ps sp) (hr : Room (k + 1) X.A) (hb : Binds X.K fd ps []) (hx : Passes CX X (fun _ _ _ => False)) (hg : Gl X x) (hm : X.mg x = some (.ref C))
    (hdb : (x == ("__debug__" : Str)) = false := by decide) :
    PMk X (.Call (.Name x p) [] [] pos) (tMkE C sp tNil) := by
  intro pins s σ H Q I h
  refine wpAny_Call_Name_kw (ld_glob I hg hm ?_ hdb)
  obtain ⟨hz, q1⟩ := h
  exact PySem.W.callWith_K0 I.kIn T.kC (ec_make T iC tI F1 hr hb hx I .nil hz q1)
end
section
variable {X : Cx} {CX : CXT} {k : Nat} {f C : Addr} {ps : List Str} {sp : Sp} {E : XK} {x : Str} {p apos pos : Pos} {e : Expr} {es : List Expr} {t : TA} {pl : Sem Bool}
theorem pe_baseC (c : CI X.K C f) (F : Cal X.prog X.w X.K X.mg X.base CX k f ps sp) (hr : Room k X.A) (hg : Gl X x) (hm : X.mg x = some (.ref C)) (hx : Passes CX X E) (ha : PA X (e :: es) t)
    (hdb : (x == ("__debug__" : Str)) = false := by decide)
    (hst : starEach (e :: es) X.env = (false, eval e X.env) :: starEach es X.env := by rfl) (hpl : (backTo pos (starEach es X.env)).any (·.1) = false := by rfl)
    (ht : eval (.Call (.Attribute (.Name x p) "__init__" apos) (e :: es) [] pos) X.env = (do
      let ov ← eval (.Name x p) X.env
      standAt apos.atName
      let (f, first) ← holding [ov] (getMethod ov "__init__" pl)
      callWith pos f first (backTo pos (starEach (e :: es) X.env)) (backToKw pos (keywordEach [] X.env))) := by rfl) :
    PE X (.Call (.Attribute (.Name x p) "__init__" apos) (e :: es) [] pos) (tCall sp [] E t) := by
  obtain ⟨fd, F1, b⟩ := F.ex
  exact pe_base c F1 b hr hg hm hx ha hdb hst hpl ht
theorem pmk_ecC {fI : Addr} {ta : TA} (T : EC X.K C) (iC : PySem.W.findIn X.K (.ref C) "__init__" = some (some (.ref fI))) (tI : PySem.W.isFn X.K (.ref fI) = true)
    (F : Cal X.prog X.w X.K X.mg X.base CX k fI ps sp) (hr : Room (k + 1) X.A) (hx : Passes CX X (fun _ _ _ => False)) (hg : Gl X x) (hm : X.mg x = some (.ref C)) (ha : PA X (e :: es) ta)
    (hdb : (x == ("__debug__" : Str)) = false := by decide) (he : starEach (e :: es) X.env = (false, eval e X.env) :: starEach es X.env := by rfl) (hpl : (backTo pos (starEach es X.env)).any (·.1) = false := by rfl) :
    PMk X (.Call (.Name x p) (e :: es) [] pos) (tMkE C sp ta) := by
  obtain ⟨fd, F1, b⟩ := F.ex
  exact pmk_ec T iC tI F1 hr b hx hg hm ha hdb he hpl
theorem pmk_ecC0 {fI : Addr} (T : EC X.K C) (iC : PySem.W.findIn X.K (.ref C) "__init__" = some (some (.ref fI))) (tI : PySem.W.isFn X.K (.ref fI) = true)
    (F : Cal X.prog X.w X.K X.mg X.base CX k fI ps sp) (hr : Room (k + 1) X.A) (hx : Passes CX X (fun _ _ _ => False)) (hg : Gl X x) (hm : X.mg x = some (.ref C))
    (hdb : (x == ("__debug__" : Str)) = false := by decide) :
    PMk X (.Call (.Name x p) [] [] pos) (tMkE C sp tNil) := by
  obtain ⟨fd, F1, b⟩ := F.ex
  exact pmk_ec0 T iC tI F1 hr b hx hg hm hdb
end
/-- an exception that is being made gets its number -/
def Made (K : Frag) (p : Addr) (n : Int) (H : Hp) (Q : VK) : Prop := ∃ C, EC K C ∧ H p = some (exo p C none) ∧ ∀ dx, H dx = none → dx ≠ p → Q .non (upd (upd H dx (exd dx (exnum n))) p (exo p C (some dx)))
/-- what a caller wishes of a refusal that bears n -/
def Rz (K : Frag) (n : Int) (E : XK) : Prop := ∀ (C d : Addr) (H : Hp), EC K C → PySem.W.exmOne K (.ref C) (.ref (He.ga K "Refusal")) = some true → H d = some (.xd (exnum n)) → E (.ref C) (some d) H
theorem rz_made {K : Frag} {C a : Addr} {n : Int} {E : XK} {H : Hp} (h : Rz K n E) (x : EC K C) (em : PySem.W.exmOne K (.ref C) (.ref (He.ga K "Refusal")) = some true) (ha : H a = none) :
    Made K a n (upd H a (exo a C none)) (fun v H2 => v = .non ∧ ∃ (d : Addr) (fs : List (Str × V)), H2 a = some (exo a C (some d)) ∧ H2 d = some (exd d fs) ∧ H d = none ∧ E (.ref C) (some d) (upd (del H2 a) d (.xd fs))) :=
  ⟨C, x, upd_same, fun dx nx ne => ⟨rfl, dx, exnum n, upd_same, by rw [upd_ne ne, upd_same], by rw [upd_ne ne] at nx; exact nx, h C dx _ x em upd_same⟩⟩
/-- a dict that the top has written, by its entries -/
def WD (w : World) (K : Frag) (d : Addr) (tb : List (Str × V)) : Prop := (∃ es n, KDict K w d es n) ∧ (∀ p ∈ tb, KDct K w d p.1 p.2) ∧ ∀ z, z ∉ tb.map (·.1) → PySem.W.nsIn K d z = some none
def kdv (K : Frag) (x z : Str) : Addr := match PySem.W.nsIn K (He.ga K x) z with
  | some (some (.ref a)) => a
  | _ => 0
theorem op_in_wd {X : Cx} {d : Addr} (D : ∃ es n, KDict X.K X.w d es n) : OpR X (compareOp .In) (fun x y H Q => ∃ (z : Str) (r : Option Value), x = .str z ∧ y = .ref d ∧ PySem.W.nsIn X.K d z = some r ∧ Q (.bl r.isSome) H) := by
  obtain ⟨es, n, D⟩ := D
  exact op_in_kd D
theorem op_notIn_wd {X : Cx} {d : Addr} (D : ∃ es n, KDict X.K X.w d es n) : OpR X (compareOp .NotIn) (fun x y H Q => ∃ (z : Str) (r : Option Value), x = .str z ∧ y = .ref d ∧ PySem.W.nsIn X.K d z = some r ∧ Q (.bl (!r.isSome)) H) := by
  obtain ⟨es, n, D⟩ := D
  exact op_notIn_kd D
theorem WD.ns {w : World} {K : Frag} {d : Addr} {tb : List (Str × V)} (D : WD w K d tb) (z : Str) : ∃ r, PySem.W.nsIn K d z = some r ∧ (r.isSome = (tb.map (·.1)).contains z) := by
  by_cases h : z ∈ tb.map (·.1)
  · obtain ⟨p, hp, rfl⟩ := List.mem_map.mp h
    obtain ⟨es, n, r, _, _, e, _⟩ := D.2.1 p hp
    exact ⟨some r, e, by simpa using h⟩
  · exact ⟨none, D.2.2 z h, by simpa using h⟩
end Bw
end

section
set_option Elab.async false
set_option linter.all false
set_option maxRecDepth 100000
set_option maxHeartbeats 4000000
/-! The end: what a head tells of the top; a Spec row's call where the written part is only known to be there. -/
namespace Bw
open PySem PySem.Spec PyProof.Rows L2
open PySem.W (Frag)
def ecB (K : Frag) (C : Addr) : Bool := PySem.W.excInitIn K C exB "Exception.__new__" && (PySem.W.excOver K C exB && (PySem.W.hasDictIn K C && (He.eqO (PySem.W.findIn K (.ref C) "__setattr__") (some (some (.builtin "object.__setattr__"))) &&
  (He.eqO (PySem.W.findIn K (.ref C) "__getattribute__") (some (some (.builtin "BaseException.__getattribute__"))) && (He.eqO (PySem.W.findIn K (.ref C) "__getattr__") (some none) && (He.eqO (PySem.W.findIn K (.ref C) "number") (some none) &&
  (decide (PySem.W.subIn K (.ref C) (.type "BaseException") = some true) && (decide (PySem.W.typeIn K (.ref C) = some (.type "type")) && PySem.W.keepIn K (.ref C)))))))))
theorem ec_ok {K : Frag} {C : Addr} (h : ecB K C = true) : EC K C := by
  unfold ecB at h
  simp only [Bool.and_eq_true] at h
  obtain ⟨h1, h2, h3, h4, h5, h6, h7, h8, h9, h10⟩ := h
  exact ⟨h1, h2, h3, He.eqO_ok h4, He.eqO_ok h5, He.eqO_ok h6, He.eqO_ok h7, of_decide_eq_true h8, of_decide_eq_true h9, h10⟩
def fcB (r : Option PySem.W.CFound) (f : Addr) : Bool := match r with
  | some (.val (.ref a)) => decide (a = f)
  | _ => false
def ciB (K : Frag) (C f : Addr) : Bool := He.eqO (PySem.W.specialIn K (.ref C) "__getattribute__") (some (some (.builtin "type.__getattribute__"))) && (PySem.W.readsIn K C (.type "type") && (fcB (PySem.W.findCls K (.ref C) (.type "type") "__init__") f &&
  (PySem.W.handedIn (.ref f) && PySem.W.keepIn K (.ref f))))
theorem fcB_ok {r : Option PySem.W.CFound} {f : Addr} (h : fcB r f = true) : r = some (.val (.ref f)) := by
  unfold fcB at h
  split at h
  · rw [of_decide_eq_true h]
  · cases h
theorem ci_ok {K : Frag} {C f : Addr} (h : ciB K C f = true) : CI K C f := by
  unfold ciB at h
  simp only [Bool.and_eq_true] at h
  obtain ⟨h1, h2, h3, h4, h5⟩ := h
  exact ⟨He.eqO_ok h1, h2, fcB_ok h3, h4, h5⟩
/-- a tuple that the top has made -/
def tupAt (K : Frag) (a : Addr) (vs : List He.Dv) : Bool := match K.lookup a with
  | some o => (match o.cls, o.data with
    | .type c, .seq its _ => decide (c = "tuple") && (decide (its.size ≤ sizeLine) && He.relAll (vs.map (He.Dv.v K)) its.toList)
    | _, _ => false)
  | none => false
theorem tupAt_ok {K : Frag} {a : Addr} {vs : List He.Dv} (h : tupAt K a vs = true) (H : Hp) : SqT K H a (vs.map (He.Dv.v K)) := by
  unfold tupAt at h
  cases q : K.lookup a with
  | none => rw [q] at h; cases h
  | some o =>
    rw [q] at h
    obtain ⟨oc, od, dt, sl⟩ := o
    cases oc with
    | type c =>
      cases dt with
      | seq its n =>
        have h' : (decide (c = "tuple") && (decide (its.size ≤ sizeLine) && He.relAll (vs.map (He.Dv.v K)) its.toList)) = true := h
        rw [Bool.and_eq_true, Bool.and_eq_true] at h'
        obtain ⟨h1, h2, h3⟩ := h'
        exact .inr ⟨_, its, n, q, congrArg Value.type (of_decide_eq_true h1), rfl, of_decide_eq_true h2, He.relAll_ok h3⟩
      | _ => cases h
    | _ => cases dt <;> cases h
/-- the keys of a table of the top -/
theorem tab_at {fa : List He.Fa} {fn : List He.DefD} {ts : List He.Tab} {w : World} {K : Frag} (c : He.SaysT fa fn ts w K) (i : Nat) {t : He.Tab} (h : ts[i]? = some t := by rfl) : He.dicW K (t.1 K) = some (He.keysIn w.params t.2) := by
  have e := congrArg (fun z : He.AlT => z.2) c
  have e2 : (ts.map fun u => He.dicW K (u.1 K))[i]? = (ts.map fun u => some (He.keysIn w.params u.2))[i]? := congrArg (fun l => l[i]?) e
  rw [List.getElem?_map, List.getElem?_map, h] at e2
  exact Option.some.inj e2
theorem keys_none {P : Params} {z : Str} : ∀ {l : List DictEntry} {ks : List Str}, l.map He.keyOf = He.keysIn P ks → z ∉ ks → l.find? (fun e => e.key.isStr z) = none ∧ l.any (fun e => e.refKey) = false
  | [], _, _, _ => ⟨rfl, rfl⟩
  | e :: r, [], h, _ => by cases h
  | e :: r, k :: ks, h, hz => by
    have h1 : He.keyOf e :: r.map He.keyOf = some (k, PyData.keyHash P k) :: He.keysIn P ks := h
    injection h1 with h2 h3
    obtain ⟨i1, i2⟩ := keys_none h3 (fun y => hz (List.mem_cons_of_mem _ y))
    unfold He.keyOf at h2
    split at h2
    · rename_i x t q
      have h4 := Option.some.inj h2
      obtain ⟨rfl, _⟩ := Prod.mk.inj h4
      have n1 : e.key.isStr z = false := by
        rw [q]
        show (x == z) = false
        have : x ≠ z := fun y => hz (by rw [y]; exact List.mem_cons_self ..)
        simpa using this
      have n2 : e.refKey = false := by unfold DictEntry.refKey; rw [q]
      rw [List.find?_cons, n1, List.any_cons, n2]
      exact ⟨i1, i2⟩
    · cases h2
theorem wd_of {w : World} {K : Frag} {d : Addr} {ks : List Str} {kvs : List (Str × He.Dv)} {tb : List (Str × V)} (h1 : ∃ es n, KDict K w d es n) (h2 : He.dicW K d = some (He.keysIn w.params ks)) (h3 : He.valsB K d kvs = true) (e1 : kvs.map (fun q => (q.1, q.2.v K)) = tb) (e2 : tb.map (·.1) = ks) : WD w K d tb := by
  obtain ⟨es, n, D⟩ := h1
  obtain ⟨lk, kl, nm⟩ := D
  refine ⟨⟨es, n, lk, kl, nm⟩, fun p hp => ?_, fun z hz => ?_⟩
  · rw [← e1] at hp
    obtain ⟨q, hq, rfl⟩ := List.mem_map.mp hp
    obtain ⟨u, eu, ru⟩ := He.valsB_ok h3 hq
    exact ⟨es, n, u, lk, kl, eu, ru⟩
  · rw [e2] at hz
    unfold He.dicW at h2
    rw [lk] at h2
    have h2' : (match decide (("dict" : String) = "dict") && ((#[] : Array (Option Value)).isEmpty && !(d == sysModules)) with
      | true => some (es.toList.map He.keyOf)
      | false => none) = some (He.keysIn w.params ks) := h2
    split at h2'
    · have h4 := Option.some.inj h2'
      obtain ⟨f1, f2⟩ := keys_none h4 hz
      unfold PySem.W.nsIn
      rw [lk]
      show (match es.toList.find? (fun e => e.key.isStr z) with
        | some e => some (some e.val)
        | none => if es.toList.any (fun e => e.refKey) then none else some none) = some none
      rw [f1, f2]
      rfl
    · cases h2'
/-- a Spec row's call, from the promise of its def, where all that is known of the written part is that it's there -/
theorem walk_specE {r : PySem.W.OpenSpec} {k : Nat} {q : Program} {loose : List Str} {XP : (Str → Option Value) → Heap → Prop} {YP : World → Heap → Prop} {d : DefRec} {ps : List Str} (CXw : World → CXT)
    (hw : r.wellSaid = true) (hd0 : d.params.defaults = []) (hl : r.args.length = ps.length) (hr : Room k callerA)
    (F : ∀ (w : World) (mg : Str → Option Value) (fa : Addr) (h : Heap), YP w h → h.Ns mainGlobals mg → mg d.name = some (.ref fa) →
      ∃ (K : Frag) (fd : FuncData) (sp : Sp), K.In h ∧ (∀ (s : Shared) (us : List Value), us.length = ps.length → BindsTo s fd ⟨us, []⟩ (ps.zip us)) ∧
        (∀ (H : Hp) (xs : List V) (a : PySem.W.Codec.denoteAll r.args), OnlyF H → PySem.W.Codec.withinAll r.args a = true → PySem.W.Codec.app r.args r.asked a = true → DwAll K H xs (PySem.W.Codec.encAll r.args a) →
          sp xs H (fun v H' => Dw K H' v (r.ret.enc (PySem.W.Codec.app r.args r.f a))) fun _ _ _ => False) ∧
        ∀ base : Heap, K.In base → base.Ns mainGlobals mg → FnOk r.prog w K mg base (CXw w) k fa fd ps sp)
    (hC : ∀ (w : World) (H : Hp) (s : Shared) (e : Value) (s' : Shared), CXw w [] H s (fun _ _ _ => False) e s' → False) :
    PySem.W.WalkOS q loose XP YP r d [] (fun f vs => PySem.call f vs) := by
  intro w s0 s1 mg mb G Y fa ob pm cd dc dV kV o1 o2 o3 o4 hmg o5 args vals as hpre hlay hrd hwl hlo
  obtain ⟨a, e1, e2⟩ := PySem.W.os_pre_some hpre
  obtain ⟨e3, hwi⟩ := PySem.W.Codec.encAll_of_decAll r.args args a e1
  subst e3
  obtain ⟨K, fd, sp, KX, hb, hsp, hF⟩ := F w mg fa _ Y G.T.g hmg
  have go := spec_call (R := []) (cl := classAt s0.heap) (d0 := r.ret.enc (PySem.W.Codec.app r.args r.f a)) KX G.T.g G.T.b G.T.builtins G.T.nolimit o5 hwl (pl_encAll _ _) (layable_weight hlay) hr hF hb
    (by rw [encAll_len]; exact hl) (fun H xs g1 g2 => hsp H xs a g1 hwi e2 g2) (fun H e s' => hC w H s1 e s')
  refine PySem.W.enter_call (codeAny_mono go fun r' s' hq => ?_)
  obtain ⟨u, as', rfl, h1, h2, h3, h4⟩ := hq
  exact ⟨.inl ⟨u, _, as', rfl, fun _ => rfl, h1, (PySem.W.OpenSpec.post_iff hw hwi _ _).mpr rfl, fun z => Bool.noConfusion (show false = true from z)⟩, h2, h3, h4⟩
/-- the facts read by a Hook: what the module's names reach, and the classes' own table -/
def frS (n : Nat) (g : Addr → Option Obj) : Frag := He.frT g (cStatics :: He.asD g n)
abbrev AlS : Type := He.AlT × Bool
structure SaysS (fa : List He.Fa) (fn : List He.DefD) (ts : List He.Tab) (ex : Frag → Bool) (w : World) (K : Frag) : Prop where
  t : He.SaysT fa fn ts w K
  more : ex K = true
def obsS (n : Nat) (fa : List He.Fa) (fn : List He.DefD) (ts : List He.Tab) (ex : Frag → Bool) (g : Addr → Option Obj) : AlS := (He.obsT fa fn ts (frS n g), ex (frS n g))
def hookS (n : Nat) (fa : List He.Fa) (fn : List He.DefD) (ts : List He.Tab) (ex : Frag → Bool) : PySem.W.Hook where
  α := AlS
  obs s := obsS n fa fn ts ex s.heap.get?
  val w := (He.valT fn ts w, true)
  says w h := ∃ K : Frag, K.In h ∧ SaysS fa fn ts ex w K
  of _ _ e := ⟨_, He.frT_in, ⟨congrArg (fun z : AlS => z.1) e, congrArg (fun z : AlS => z.2) e⟩⟩
  keeps _ _ _ := fun ⟨K, hK, c⟩ k => ⟨K, PySem.W.Frag.In.keeps hK k, c⟩
theorem obsS_eq {n : Nat} {fa : List He.Fa} {fn : List He.DefD} {ts : List He.Tab} {ex : Frag → Bool} {g : Addr → Option Obj} {s : Shared} (h : ∀ a, g a = s.heap.get? a) : obsS n fa fn ts ex g = (hookS n fa fn ts ex).obs s := by
  have e : g = s.heap.get? := funext h
  rw [e]; rfl
end Bw
end

section
set_option Elab.async false
set_option linter.all false
set_option maxRecDepth 100000
set_option maxHeartbeats 4000000
namespace Bw
open PySem PySem.Spec PyProof.Rows L2
abbrev s__wall : Stmt := top 0
abbrev N__wall : List Str := ["k"]
theorem sc__wall : FnScope N__wall ["k"] (defScope s__wall) := ⟨rfl, rfl, rfl, by decide +kernel, rfl, by decide +kernel, by decide +kernel⟩
abbrev s_net_of : Stmt := top 4
abbrev N_net_of : List Str := ["book", "recipe", "layer"]
theorem sc_net_of : FnScope N_net_of ["book", "recipe"] (defScope s_net_of) := ⟨rfl, rfl, rfl, by decide +kernel, rfl, by decide +kernel, by decide +kernel⟩
abbrev s_can_be : Stmt := top 7
abbrev N_can_be : List Str := ["move", "marked", "place"]
theorem sc_can_be : FnScope N_can_be ["move", "marked"] (defScope s_can_be) := ⟨rfl, rfl, rfl, by decide +kernel, rfl, by decide +kernel, by decide +kernel⟩
abbrev s_added : Stmt := top 8
abbrev N_added : List Str := ["held", "amounts", "have", "more"]
theorem sc_added : FnScope N_added ["held", "amounts"] (defScope s_added) := ⟨rfl, rfl, rfl, by decide +kernel, rfl, by decide +kernel, by decide +kernel⟩
abbrev s_lessened : Stmt := top 9
abbrev N_lessened : List Str := ["held", "amounts", "have", "less"]
theorem sc_lessened : FnScope N_lessened ["held", "amounts"] (defScope s_lessened) := ⟨rfl, rfl, rfl, by decide +kernel, rfl, by decide +kernel, by decide +kernel⟩
abbrev s_moved : Stmt := top 10
abbrev N_moved : List Str := ["spot", "number", "move", "plant", "marked", "begun", "place"]
theorem sc_moved : FnScope N_moved ["spot", "number", "move", "plant"] (defScope s_moved) := ⟨rfl, rfl, rfl, by decide +kernel, rfl, by decide +kernel, by decide +kernel⟩
abbrev s_ended : Stmt := top 11
abbrev N_ended : List Str := ["spot", "number", "move", "plant", "marked", "begun", "other"]
theorem sc_ended : FnScope N_ended ["spot", "number", "move", "plant"] (defScope s_ended) := ⟨rfl, rfl, rfl, by decide +kernel, rfl, by decide +kernel, by decide +kernel⟩
abbrev s_spots_behind : Stmt := top 12
abbrev N_spots_behind : List Str := ["spot", "moves", "plant", "found", "number", "move"]
theorem sc_spots_behind : FnScope N_spots_behind ["spot", "moves", "plant"] (defScope s_spots_behind) := ⟨rfl, rfl, rfl, by decide +kernel, rfl, by decide +kernel, by decide +kernel⟩
abbrev s_spots_of : Stmt := top 13
abbrev N_spots_of : List Str := ["plant", "recipe", "moves", "first", "found", "seen", "place", "spot"]
theorem sc_spots_of : FnScope N_spots_of ["plant", "recipe"] (defScope s_spots_of) := ⟨rfl, rfl, rfl, by decide +kernel, rfl, by decide +kernel, by decide +kernel⟩
abbrev s_is_spot_right : Stmt := top 14
abbrev N_is_spot_right : List Str := ["spot", "claimed", "have", "most"]
theorem sc_is_spot_right : FnScope N_is_spot_right ["spot", "claimed"] (defScope s_is_spot_right) := ⟨rfl, rfl, rfl, by decide +kernel, rfl, by decide +kernel, by decide +kernel⟩
abbrev s_is_recipe_right : Stmt := top 15
abbrev N_is_recipe_right : List Str := ["plant", "recipe", "claimed", "most", "there_are", "found", "spot"]
theorem sc_is_recipe_right : FnScope N_is_recipe_right ["plant", "recipe"] (defScope s_is_recipe_right) := ⟨rfl, rfl, rfl, by decide +kernel, rfl, by decide +kernel, by decide +kernel⟩
abbrev s_sign_of : Stmt := top 29
abbrev N_sign_of : List Str := ["byte"]
theorem sc_sign_of : FnScope N_sign_of ["byte"] (defScope s_sign_of) := ⟨rfl, rfl, rfl, by decide +kernel, rfl, by decide +kernel, by decide +kernel⟩
abbrev s_text_of : Stmt := top 30
abbrev N_text_of : List Str := ["numbers", "most", "signs", "number"]
theorem sc_text_of : FnScope N_text_of ["numbers", "most"] (defScope s_text_of) := ⟨rfl, rfl, rfl, by decide +kernel, rfl, by decide +kernel, by decide +kernel⟩
abbrev s_line_of : Stmt := top 31
abbrev N_line_of : List Str := ["words", "word"]
theorem sc_line_of : FnScope N_line_of ["words"] (defScope s_line_of) := ⟨rfl, rfl, rfl, by decide +kernel, rfl, by decide +kernel, by decide +kernel⟩
abbrev s_lines_of : Stmt := top 32
abbrev N_lines_of : List Str := ["text", "told", "line", "signs", "words"]
theorem sc_lines_of : FnScope N_lines_of ["text"] (defScope s_lines_of) := ⟨rfl, rfl, rfl, by decide +kernel, rfl, by decide +kernel, by decide +kernel⟩
abbrev s_is_name : Stmt := top 33
abbrev N_is_name : List Str := ["word", "sign"]
theorem sc_is_name : FnScope N_is_name ["word"] (defScope s_is_name) := ⟨rfl, rfl, rfl, by decide +kernel, rfl, by decide +kernel, by decide +kernel⟩
abbrev s_is_number : Stmt := top 34
abbrev N_is_number : List Str := ["word", "least", "most", "sign"]
theorem sc_is_number : FnScope N_is_number ["word", "least", "most"] (defScope s_is_number) := ⟨rfl, rfl, rfl, by decide +kernel, rfl, by decide +kernel, by decide +kernel⟩
abbrev s_things_in : Stmt := top 43
abbrev N_things_in : List Str := ["body", "part"]
theorem sc_things_in : FnScope N_things_in ["body"] (defScope s_things_in) := ⟨rfl, rfl, rfl, by decide +kernel, rfl, by decide +kernel, by decide +kernel⟩
abbrev s_read_book : Stmt := top 46
abbrev N_read_book : List Str := ["text", "reader"]
theorem sc_read_book : FnScope N_read_book ["text"] (defScope s_read_book) := ⟨rfl, rfl, rfl, by decide +kernel, rfl, by decide +kernel, by decide +kernel⟩
abbrev s_names_in : Stmt := top 54
abbrev N_names_in : List Str := ["words"]
theorem sc_names_in : FnScope N_names_in ["words"] (defScope s_names_in) := ⟨rfl, rfl, rfl, by decide +kernel, rfl, by decide +kernel, by decide +kernel⟩
abbrev s_numbers_in : Stmt := top 55
abbrev N_numbers_in : List Str := ["words"]
theorem sc_numbers_in : FnScope N_numbers_in ["words"] (defScope s_numbers_in) := ⟨rfl, rfl, rfl, by decide +kernel, rfl, by decide +kernel, by decide +kernel⟩
abbrev s_is_formed : Stmt := top 56
abbrev N_is_formed : List Str := ["words", "numbers", "name", "number", "most"]
theorem sc_is_formed : FnScope N_is_formed ["words"] (defScope s_is_formed) := ⟨rfl, rfl, rfl, by decide +kernel, rfl, by decide +kernel, by decide +kernel⟩
abbrev s_kind_of_new : Stmt := top 57
abbrev N_kind_of_new : List Str := ["plant", "word", "name"]
theorem sc_kind_of_new : FnScope N_kind_of_new ["plant", "word", "name"] (defScope s_kind_of_new) := ⟨rfl, rfl, rfl, by decide +kernel, rfl, by decide +kernel, by decide +kernel⟩
abbrev s_kind_of_pair : Stmt := top 58
abbrev N_kind_of_pair : List Str := ["plant", "word", "names"]
theorem sc_kind_of_pair : FnScope N_kind_of_pair ["plant", "word", "names"] (defScope s_kind_of_pair) := ⟨rfl, rfl, rfl, by decide +kernel, rfl, by decide +kernel, by decide +kernel⟩
abbrev s_kind_of_doing : Stmt := top 59
abbrev N_kind_of_doing : List Str := ["plant", "word", "names"]
theorem sc_kind_of_doing : FnScope N_kind_of_doing ["plant", "word", "names"] (defScope s_kind_of_doing) := ⟨rfl, rfl, rfl, by decide +kernel, rfl, by decide +kernel, by decide +kernel⟩
abbrev s_kind_of_line : Stmt := top 60
abbrev N_kind_of_line : List Str := ["plant", "words", "names"]
theorem sc_kind_of_line : FnScope N_kind_of_line ["plant", "words"] (defScope s_kind_of_line) := ⟨rfl, rfl, rfl, by decide +kernel, rfl, by decide +kernel, by decide +kernel⟩
abbrev s_take_line : Stmt := top 61
abbrev N_take_line : List Str := ["plant", "words", "word", "names", "numbers", "number"]
theorem sc_take_line : FnScope N_take_line ["plant", "words"] (defScope s_take_line) := ⟨rfl, rfl, rfl, by decide +kernel, rfl, by decide +kernel, by decide +kernel⟩
abbrev s_read_plant : Stmt := top 62
abbrev N_read_plant : List Str := ["recipes_text", "works_text", "book", "plant", "line", "words", "kind", "recipe"]
theorem sc_read_plant : FnScope N_read_plant ["recipes_text", "works_text"] (defScope s_read_plant) := ⟨rfl, rfl, rfl, by decide +kernel, rfl, by decide +kernel, by decide +kernel⟩
abbrev s_plant_of : Stmt := top 64
abbrev N_plant_of : List Str := ["r", "w", "recipes_text", "works_text"]
theorem sc_plant_of : FnScope N_plant_of ["r", "w"] (defScope s_plant_of) := ⟨rfl, rfl, rfl, by decide +kernel, rfl, by decide +kernel, by decide +kernel⟩
abbrev s_works : Stmt := top 65
abbrev N_works : List Str := ["r", "w", "plant", "e", "told"]
theorem sc_works : FnScope N_works ["r", "w"] (defScope s_works) := ⟨rfl, rfl, rfl, by decide +kernel, rfl, by decide +kernel, by decide +kernel⟩
abbrev s_Move_init : Stmt := inClass (top 2) 0
abbrev N_Move_init : List Str := ["self", "kind", "number", "before", "behind"]
theorem sc_Move_init : FnScope N_Move_init ["self", "kind", "number", "before", "behind"] (defScope s_Move_init) := ⟨rfl, rfl, rfl, by decide +kernel, rfl, by decide +kernel, by decide +kernel⟩
abbrev s_Layer_init : Stmt := inClass (top 3) 0
abbrev N_Layer_init : List Str := ["self", "book"]
theorem sc_Layer_init : FnScope N_Layer_init ["self", "book"] (defScope s_Layer_init) := ⟨rfl, rfl, rfl, by decide +kernel, rfl, by decide +kernel, by decide +kernel⟩
abbrev s_Layer_new_places : Stmt := inClass (top 3) 1
abbrev N_Layer_new_places : List Str := ["self", "how_many", "first"]
theorem sc_Layer_new_places : FnScope N_Layer_new_places ["self", "how_many"] (defScope s_Layer_new_places) := ⟨rfl, rfl, rfl, by decide +kernel, rfl, by decide +kernel, by decide +kernel⟩
abbrev s_Layer_add_move : Stmt := inClass (top 3) 2
abbrev N_Layer_add_move : List Str := ["self", "kind", "number", "before", "behind"]
theorem sc_Layer_add_move : FnScope N_Layer_add_move ["self", "kind", "number", "before", "behind"] (defScope s_Layer_add_move) := ⟨rfl, rfl, rfl, by decide +kernel, rfl, by decide +kernel, by decide +kernel⟩
abbrev s_Layer_lay_body : Stmt := inClass (top 3) 3
abbrev N_Layer_lay_body : List Str := ["self", "body", "start", "goal", "between", "first", "stops", "here", "part", "stop", "k"]
theorem sc_Layer_lay_body : FnScope N_Layer_lay_body ["self", "body", "start", "goal"] (defScope s_Layer_lay_body) := ⟨rfl, rfl, rfl, by decide +kernel, rfl, by decide +kernel, by decide +kernel⟩
abbrev s_Layer_lay_part : Stmt := inClass (top 3) 4
abbrev N_Layer_lay_part : List Str := ["self", "part", "start", "goal"]
theorem sc_Layer_lay_part : FnScope N_Layer_lay_part ["self", "part", "start", "goal"] (defScope s_Layer_lay_part) := ⟨rfl, rfl, rfl, by decide +kernel, rfl, by decide +kernel, by decide +kernel⟩
abbrev s_Layer_lay_if : Stmt := inClass (top 3) 5
abbrev N_Layer_lay_if : List Str := ["self", "part", "start", "goal", "first"]
theorem sc_Layer_lay_if : FnScope N_Layer_lay_if ["self", "part", "start", "goal"] (defScope s_Layer_lay_if) := ⟨rfl, rfl, rfl, by decide +kernel, rfl, by decide +kernel, by decide +kernel⟩
abbrev s_Layer_lay_both : Stmt := inClass (top 3) 6
abbrev N_Layer_lay_both : List Str := ["self", "bodies", "start", "goal", "first"]
theorem sc_Layer_lay_both : FnScope N_Layer_lay_both ["self", "bodies", "start", "goal"] (defScope s_Layer_lay_both) := ⟨rfl, rfl, rfl, by decide +kernel, rfl, by decide +kernel, by decide +kernel⟩
abbrev s_Layer_lay_again : Stmt := inClass (top 3) 7
abbrev N_Layer_lay_again : List Str := ["self", "part", "start", "goal", "first"]
theorem sc_Layer_lay_again : FnScope N_Layer_lay_again ["self", "part", "start", "goal"] (defScope s_Layer_lay_again) := ⟨rfl, rfl, rfl, by decide +kernel, rfl, by decide +kernel, by decide +kernel⟩
abbrev s_Refusal_init : Stmt := inClass (top 17) 0
abbrev N_Refusal_init : List Str := ["self", "number"]
theorem sc_Refusal_init : FnScope N_Refusal_init ["self", "number"] (defScope s_Refusal_init) := ⟨rfl, rfl, rfl, by decide +kernel, rfl, by decide +kernel, by decide +kernel⟩
abbrev s_NoText_init : Stmt := inClass (top 18) 0
abbrev N_NoText_init : List Str := ["self"]
theorem sc_NoText_init : FnScope N_NoText_init ["self"] (defScope s_NoText_init) := ⟨rfl, rfl, rfl, by decide +kernel, rfl, by decide +kernel, by decide +kernel⟩
abbrev s_WrongWorks_init : Stmt := inClass (top 19) 0
abbrev N_WrongWorks_init : List Str := ["self", "line", "kind"]
theorem sc_WrongWorks_init : FnScope N_WrongWorks_init ["self", "line", "kind"] (defScope s_WrongWorks_init) := ⟨rfl, rfl, rfl, by decide +kernel, rfl, by decide +kernel, by decide +kernel⟩
abbrev s_WrongRecipes_init : Stmt := inClass (top 20) 0
abbrev N_WrongRecipes_init : List Str := ["self"]
theorem sc_WrongRecipes_init : FnScope N_WrongRecipes_init ["self"] (defScope s_WrongRecipes_init) := ⟨rfl, rfl, rfl, by decide +kernel, rfl, by decide +kernel, by decide +kernel⟩
abbrev s_Part_init : Stmt := inClass (top 42) 0
abbrev N_Part_init : List Str := ["self", "word", "number", "things"]
theorem sc_Part_init : FnScope N_Part_init ["self", "word", "number", "things"] (defScope s_Part_init) := ⟨rfl, rfl, rfl, by decide +kernel, rfl, by decide +kernel, by decide +kernel⟩
abbrev s_Part_count_things : Stmt := inClass (top 42) 1
abbrev N_Part_count_things : List Str := ["self", "body"]
theorem sc_Part_count_things : FnScope N_Part_count_things ["self"] (defScope s_Part_count_things) := ⟨rfl, rfl, rfl, by decide +kernel, rfl, by decide +kernel, by decide +kernel⟩
abbrev s_Book_init : Stmt := inClass (top 44) 0
abbrev N_Book_init : List Str := ["self"]
theorem sc_Book_init : FnScope N_Book_init ["self"] (defScope s_Book_init) := ⟨rfl, rfl, rfl, by decide +kernel, rfl, by decide +kernel, by decide +kernel⟩
abbrev s_Book_condition_of : Stmt := inClass (top 44) 1
abbrev N_Book_condition_of : List Str := ["self", "name"]
theorem sc_Book_condition_of : FnScope N_Book_condition_of ["self", "name"] (defScope s_Book_condition_of) := ⟨rfl, rfl, rfl, by decide +kernel, rfl, by decide +kernel, by decide +kernel⟩
abbrev s_Book_step_of : Stmt := inClass (top 44) 2
abbrev N_Book_step_of : List Str := ["self", "name", "times", "number"]
theorem sc_Book_step_of : FnScope N_Book_step_of ["self", "name", "times"] (defScope s_Book_step_of) := ⟨rfl, rfl, rfl, by decide +kernel, rfl, by decide +kernel, by decide +kernel⟩
abbrev s_Book_add_recipe : Stmt := inClass (top 44) 3
abbrev N_Book_add_recipe : List Str := ["self", "name", "part"]
theorem sc_Book_add_recipe : FnScope N_Book_add_recipe ["self", "name", "part"] (defScope s_Book_add_recipe) := ⟨rfl, rfl, rfl, by decide +kernel, rfl, by decide +kernel, by decide +kernel⟩
abbrev s_Reader_init : Stmt := inClass (top 45) 0
abbrev N_Reader_init : List Str := ["self", "words"]
theorem sc_Reader_init : FnScope N_Reader_init ["self", "words"] (defScope s_Reader_init) := ⟨rfl, rfl, rfl, by decide +kernel, rfl, by decide +kernel, by decide +kernel⟩
abbrev s_Reader_next_is : Stmt := inClass (top 45) 1
abbrev N_Reader_next_is : List Str := ["self", "word"]
theorem sc_Reader_next_is : FnScope N_Reader_next_is ["self", "word"] (defScope s_Reader_next_is) := ⟨rfl, rfl, rfl, by decide +kernel, rfl, by decide +kernel, by decide +kernel⟩
abbrev s_Reader_next_word : Stmt := inClass (top 45) 2
abbrev N_Reader_next_word : List Str := ["self"]
theorem sc_Reader_next_word : FnScope N_Reader_next_word ["self"] (defScope s_Reader_next_word) := ⟨rfl, rfl, rfl, by decide +kernel, rfl, by decide +kernel, by decide +kernel⟩
abbrev s_Reader_next_name : Stmt := inClass (top 45) 3
abbrev N_Reader_next_name : List Str := ["self", "word"]
theorem sc_Reader_next_name : FnScope N_Reader_next_name ["self"] (defScope s_Reader_next_name) := ⟨rfl, rfl, rfl, by decide +kernel, rfl, by decide +kernel, by decide +kernel⟩
abbrev s_Reader_next_time : Stmt := inClass (top 45) 4
abbrev N_Reader_next_time : List Str := ["self", "least", "word"]
theorem sc_Reader_next_time : FnScope N_Reader_next_time ["self", "least"] (defScope s_Reader_next_time) := ⟨rfl, rfl, rfl, by decide +kernel, rfl, by decide +kernel, by decide +kernel⟩
abbrev s_Reader_expect : Stmt := inClass (top 45) 5
abbrev N_Reader_expect : List Str := ["self", "word"]
theorem sc_Reader_expect : FnScope N_Reader_expect ["self", "word"] (defScope s_Reader_expect) := ⟨rfl, rfl, rfl, by decide +kernel, rfl, by decide +kernel, by decide +kernel⟩
abbrev s_Reader_read_all : Stmt := inClass (top 45) 6
abbrev N_Reader_read_all : List Str := ["self"]
theorem sc_Reader_read_all : FnScope N_Reader_read_all ["self"] (defScope s_Reader_read_all) := ⟨rfl, rfl, rfl, by decide +kernel, rfl, by decide +kernel, by decide +kernel⟩
abbrev s_Reader_go_on : Stmt := inClass (top 45) 7
abbrev N_Reader_go_on : List Str := ["self", "word"]
theorem sc_Reader_go_on : FnScope N_Reader_go_on ["self", "word"] (defScope s_Reader_go_on) := ⟨rfl, rfl, rfl, by decide +kernel, rfl, by decide +kernel, by decide +kernel⟩
abbrev s_Reader_begin_recipe : Stmt := inClass (top 45) 8
abbrev N_Reader_begin_recipe : List Str := ["self"]
theorem sc_Reader_begin_recipe : FnScope N_Reader_begin_recipe ["self"] (defScope s_Reader_begin_recipe) := ⟨rfl, rfl, rfl, by decide +kernel, rfl, by decide +kernel, by decide +kernel⟩
abbrev s_Reader_read_step : Stmt := inClass (top 45) 9
abbrev N_Reader_read_step : List Str := ["self", "name", "times", "least"]
theorem sc_Reader_read_step : FnScope N_Reader_read_step ["self"] (defScope s_Reader_read_step) := ⟨rfl, rfl, rfl, by decide +kernel, rfl, by decide +kernel, by decide +kernel⟩
abbrev s_Reader_read_use : Stmt := inClass (top 45) 10
abbrev N_Reader_read_use : List Str := ["self", "name", "number"]
theorem sc_Reader_read_use : FnScope N_Reader_read_use ["self"] (defScope s_Reader_read_use) := ⟨rfl, rfl, rfl, by decide +kernel, rfl, by decide +kernel, by decide +kernel⟩
abbrev s_Reader_begin_part : Stmt := inClass (top 45) 11
abbrev N_Reader_begin_part : List Str := ["self", "word", "number"]
theorem sc_Reader_begin_part : FnScope N_Reader_begin_part ["self", "word"] (defScope s_Reader_begin_part) := ⟨rfl, rfl, rfl, by decide +kernel, rfl, by decide +kernel, by decide +kernel⟩
abbrev s_Reader_begin_body : Stmt := inClass (top 45) 12
abbrev N_Reader_begin_body : List Str := ["self", "word", "part"]
theorem sc_Reader_begin_body : FnScope N_Reader_begin_body ["self", "word"] (defScope s_Reader_begin_body) := ⟨rfl, rfl, rfl, by decide +kernel, rfl, by decide +kernel, by decide +kernel⟩
abbrev s_Reader_end_again : Stmt := inClass (top 45) 13
abbrev N_Reader_end_again : List Str := ["self", "part"]
theorem sc_Reader_end_again : FnScope N_Reader_end_again ["self"] (defScope s_Reader_end_again) := ⟨rfl, rfl, rfl, by decide +kernel, rfl, by decide +kernel, by decide +kernel⟩
abbrev s_Reader_end_part : Stmt := inClass (top 45) 14
abbrev N_Reader_end_part : List Str := ["self", "part"]
theorem sc_Reader_end_part : FnScope N_Reader_end_part ["self"] (defScope s_Reader_end_part) := ⟨rfl, rfl, rfl, by decide +kernel, rfl, by decide +kernel, by decide +kernel⟩
abbrev s_Reader_push : Stmt := inClass (top 45) 15
abbrev N_Reader_push : List Str := ["self", "part"]
theorem sc_Reader_push : FnScope N_Reader_push ["self", "part"] (defScope s_Reader_push) := ⟨rfl, rfl, rfl, by decide +kernel, rfl, by decide +kernel, by decide +kernel⟩
abbrev s_Reader_put_away : Stmt := inClass (top 45) 16
abbrev N_Reader_put_away : List Str := ["self", "part"]
theorem sc_Reader_put_away : FnScope N_Reader_put_away ["self"] (defScope s_Reader_put_away) := ⟨rfl, rfl, rfl, by decide +kernel, rfl, by decide +kernel, by decide +kernel⟩
abbrev s_Reader_add_part : Stmt := inClass (top 45) 17
abbrev N_Reader_add_part : List Str := ["self", "part"]
theorem sc_Reader_add_part : FnScope N_Reader_add_part ["self", "part"] (defScope s_Reader_add_part) := ⟨rfl, rfl, rfl, by decide +kernel, rfl, by decide +kernel, by decide +kernel⟩
abbrev s_Plant_init : Stmt := inClass (top 53) 0
abbrev N_Plant_init : List Str := ["self", "book"]
theorem sc_Plant_init : FnScope N_Plant_init ["self", "book"] (defScope s_Plant_init) := ⟨rfl, rfl, rfl, by decide +kernel, rfl, by decide +kernel, by decide +kernel⟩
abbrev s_Plant_amounts : Stmt := inClass (top 53) 1
abbrev N_Plant_amounts : List Str := ["self", "word", "number", "pairs", "unit"]
theorem sc_Plant_amounts : FnScope N_Plant_amounts ["self", "word", "number"] (defScope s_Plant_amounts) := ⟨rfl, rfl, rfl, by decide +kernel, rfl, by decide +kernel, by decide +kernel⟩
abbrev s_Plant_nothing : Stmt := inClass (top 53) 2
abbrev N_Plant_nothing : List Str := ["self"]
theorem sc_Plant_nothing : FnScope N_Plant_nothing ["self"] (defScope s_Plant_nothing) := ⟨rfl, rfl, rfl, by decide +kernel, rfl, by decide +kernel, by decide +kernel⟩
abbrev s_Plant_numbers_of : Stmt := inClass (top 53) 3
abbrev N_Plant_numbers_of : List Str := ["self", "word", "names", "what", "name"]
theorem sc_Plant_numbers_of : FnScope N_Plant_numbers_of ["self", "word", "names"] (defScope s_Plant_numbers_of) := ⟨rfl, rfl, rfl, by decide +kernel, rfl, by decide +kernel, by decide +kernel⟩
abbrev s_Plant_name_of : Stmt := inClass (top 53) 4
abbrev N_Plant_name_of : List Str := ["self", "what", "number"]
theorem sc_Plant_name_of : FnScope N_Plant_name_of ["self", "what", "number"] (defScope s_Plant_name_of) := ⟨rfl, rfl, rfl, by decide +kernel, rfl, by decide +kernel, by decide +kernel⟩
abbrev s_Plant_are_told : Stmt := inClass (top 53) 5
abbrev N_Plant_are_told : List Str := ["self", "word", "names", "what", "name"]
theorem sc_Plant_are_told : FnScope N_Plant_are_told ["self", "word", "names"] (defScope s_Plant_are_told) := ⟨rfl, rfl, rfl, by decide +kernel, rfl, by decide +kernel, by decide +kernel⟩
def F_Move (a0 a1 a2 a3 : V) : List (Str × V) := [(("kind" : Str), a0), (("number" : Str), a1), (("before" : Str), a2), (("behind" : Str), a3)]
theorem lk_Move_kind (a0 a1 a2 a3 : V) : List.lookup ("kind" : Str) (F_Move a0 a1 a2 a3) = some a0 := by first | rfl | simp [F_Move, List.lookup] | (unfold F_Move; kernel_rfl)
theorem pt_Move_kind (a0 a1 a2 a3 x : V) : putF ("kind" : Str) x (F_Move a0 a1 a2 a3) = F_Move x a1 a2 a3 := by first | rfl | (unfold F_Move; kernel_rfl)
theorem lk_Move_number (a0 a1 a2 a3 : V) : List.lookup ("number" : Str) (F_Move a0 a1 a2 a3) = some a1 := by first | rfl | simp [F_Move, List.lookup] | (unfold F_Move; kernel_rfl)
theorem pt_Move_number (a0 a1 a2 a3 x : V) : putF ("number" : Str) x (F_Move a0 a1 a2 a3) = F_Move a0 x a2 a3 := by first | rfl | (unfold F_Move; kernel_rfl)
theorem lk_Move_before (a0 a1 a2 a3 : V) : List.lookup ("before" : Str) (F_Move a0 a1 a2 a3) = some a2 := by first | rfl | simp [F_Move, List.lookup] | (unfold F_Move; kernel_rfl)
theorem pt_Move_before (a0 a1 a2 a3 x : V) : putF ("before" : Str) x (F_Move a0 a1 a2 a3) = F_Move a0 a1 x a3 := by first | rfl | (unfold F_Move; kernel_rfl)
theorem lk_Move_behind (a0 a1 a2 a3 : V) : List.lookup ("behind" : Str) (F_Move a0 a1 a2 a3) = some a3 := by first | rfl | simp [F_Move, List.lookup] | (unfold F_Move; kernel_rfl)
theorem pt_Move_behind (a0 a1 a2 a3 x : V) : putF ("behind" : Str) x (F_Move a0 a1 a2 a3) = F_Move a0 a1 a2 x := by first | rfl | (unfold F_Move; kernel_rfl)
theorem lm_Move___init__ (a0 a1 a2 a3 : V) : List.lookup ("__init__" : Str) (F_Move a0 a1 a2 a3) = none := by first | rfl | (unfold F_Move; kernel_rfl)
theorem mk_Move (a0 a1 a2 a3 : V) : putF ("behind" : Str) a3 (putF ("before" : Str) a2 (putF ("number" : Str) a1 (putF ("kind" : Str) a0 ([])))) = F_Move a0 a1 a2 a3 := by first | rfl | (unfold F_Move; kernel_rfl)
theorem ln_Move (a0 a1 a2 a3 : V) : (F_Move a0 a1 a2 a3).length = 4 := rfl
def F_Layer (a0 a1 a2 : V) : List (Str × V) := [(("book" : Str), a0), (("moves" : Str), a1), (("places" : Str), a2)]
theorem lk_Layer_book (a0 a1 a2 : V) : List.lookup ("book" : Str) (F_Layer a0 a1 a2) = some a0 := by first | rfl | simp [F_Layer, List.lookup] | (unfold F_Layer; kernel_rfl)
theorem pt_Layer_book (a0 a1 a2 x : V) : putF ("book" : Str) x (F_Layer a0 a1 a2) = F_Layer x a1 a2 := by first | rfl | (unfold F_Layer; kernel_rfl)
theorem lk_Layer_moves (a0 a1 a2 : V) : List.lookup ("moves" : Str) (F_Layer a0 a1 a2) = some a1 := by first | rfl | simp [F_Layer, List.lookup] | (unfold F_Layer; kernel_rfl)
theorem pt_Layer_moves (a0 a1 a2 x : V) : putF ("moves" : Str) x (F_Layer a0 a1 a2) = F_Layer a0 x a2 := by first | rfl | (unfold F_Layer; kernel_rfl)
theorem lk_Layer_places (a0 a1 a2 : V) : List.lookup ("places" : Str) (F_Layer a0 a1 a2) = some a2 := by first | rfl | simp [F_Layer, List.lookup] | (unfold F_Layer; kernel_rfl)
theorem pt_Layer_places (a0 a1 a2 x : V) : putF ("places" : Str) x (F_Layer a0 a1 a2) = F_Layer a0 a1 x := by first | rfl | (unfold F_Layer; kernel_rfl)
theorem lm_Layer___init__ (a0 a1 a2 : V) : List.lookup ("__init__" : Str) (F_Layer a0 a1 a2) = none := by first | rfl | (unfold F_Layer; kernel_rfl)
theorem lm_Layer_new_places (a0 a1 a2 : V) : List.lookup ("new_places" : Str) (F_Layer a0 a1 a2) = none := by first | rfl | (unfold F_Layer; kernel_rfl)
theorem lm_Layer_add_move (a0 a1 a2 : V) : List.lookup ("add_move" : Str) (F_Layer a0 a1 a2) = none := by first | rfl | (unfold F_Layer; kernel_rfl)
theorem lm_Layer_lay_body (a0 a1 a2 : V) : List.lookup ("lay_body" : Str) (F_Layer a0 a1 a2) = none := by first | rfl | (unfold F_Layer; kernel_rfl)
theorem lm_Layer_lay_part (a0 a1 a2 : V) : List.lookup ("lay_part" : Str) (F_Layer a0 a1 a2) = none := by first | rfl | (unfold F_Layer; kernel_rfl)
theorem lm_Layer_lay_if (a0 a1 a2 : V) : List.lookup ("lay_if" : Str) (F_Layer a0 a1 a2) = none := by first | rfl | (unfold F_Layer; kernel_rfl)
theorem lm_Layer_lay_both (a0 a1 a2 : V) : List.lookup ("lay_both" : Str) (F_Layer a0 a1 a2) = none := by first | rfl | (unfold F_Layer; kernel_rfl)
theorem lm_Layer_lay_again (a0 a1 a2 : V) : List.lookup ("lay_again" : Str) (F_Layer a0 a1 a2) = none := by first | rfl | (unfold F_Layer; kernel_rfl)
theorem mk_Layer (a0 a1 a2 : V) : putF ("places" : Str) a2 (putF ("moves" : Str) a1 (putF ("book" : Str) a0 ([]))) = F_Layer a0 a1 a2 := by first | rfl | (unfold F_Layer; kernel_rfl)
theorem ln_Layer (a0 a1 a2 : V) : (F_Layer a0 a1 a2).length = 3 := rfl
def F_Part (a0 a1 a2 a3 : V) : List (Str × V) := [(("word" : Str), a0), (("number" : Str), a1), (("bodies" : Str), a2), (("things" : Str), a3)]
theorem lk_Part_word (a0 a1 a2 a3 : V) : List.lookup ("word" : Str) (F_Part a0 a1 a2 a3) = some a0 := by first | rfl | simp [F_Part, List.lookup] | (unfold F_Part; kernel_rfl)
theorem pt_Part_word (a0 a1 a2 a3 x : V) : putF ("word" : Str) x (F_Part a0 a1 a2 a3) = F_Part x a1 a2 a3 := by first | rfl | (unfold F_Part; kernel_rfl)
theorem lk_Part_number (a0 a1 a2 a3 : V) : List.lookup ("number" : Str) (F_Part a0 a1 a2 a3) = some a1 := by first | rfl | simp [F_Part, List.lookup] | (unfold F_Part; kernel_rfl)
theorem pt_Part_number (a0 a1 a2 a3 x : V) : putF ("number" : Str) x (F_Part a0 a1 a2 a3) = F_Part a0 x a2 a3 := by first | rfl | (unfold F_Part; kernel_rfl)
theorem lk_Part_bodies (a0 a1 a2 a3 : V) : List.lookup ("bodies" : Str) (F_Part a0 a1 a2 a3) = some a2 := by first | rfl | simp [F_Part, List.lookup] | (unfold F_Part; kernel_rfl)
theorem pt_Part_bodies (a0 a1 a2 a3 x : V) : putF ("bodies" : Str) x (F_Part a0 a1 a2 a3) = F_Part a0 a1 x a3 := by first | rfl | (unfold F_Part; kernel_rfl)
theorem lk_Part_things (a0 a1 a2 a3 : V) : List.lookup ("things" : Str) (F_Part a0 a1 a2 a3) = some a3 := by first | rfl | simp [F_Part, List.lookup] | (unfold F_Part; kernel_rfl)
theorem pt_Part_things (a0 a1 a2 a3 x : V) : putF ("things" : Str) x (F_Part a0 a1 a2 a3) = F_Part a0 a1 a2 x := by first | rfl | (unfold F_Part; kernel_rfl)
theorem lm_Part___init__ (a0 a1 a2 a3 : V) : List.lookup ("__init__" : Str) (F_Part a0 a1 a2 a3) = none := by first | rfl | (unfold F_Part; kernel_rfl)
theorem lm_Part_count_things (a0 a1 a2 a3 : V) : List.lookup ("count_things" : Str) (F_Part a0 a1 a2 a3) = none := by first | rfl | (unfold F_Part; kernel_rfl)
theorem mk_Part (a0 a1 a2 a3 : V) : putF ("things" : Str) a3 (putF ("bodies" : Str) a2 (putF ("number" : Str) a1 (putF ("word" : Str) a0 ([])))) = F_Part a0 a1 a2 a3 := by first | rfl | (unfold F_Part; kernel_rfl)
theorem ln_Part (a0 a1 a2 a3 : V) : (F_Part a0 a1 a2 a3).length = 4 := rfl
def F_Book (a0 a1 a2 a3 a4 a5 : V) : List (Str × V) := [(("recipes" : Str), a0), (("parts" : Str), a1), (("steps" : Str), a2), (("times" : Str), a3), (("conditions" : Str), a4), (("has_either" : Str), a5)]
theorem lk_Book_recipes (a0 a1 a2 a3 a4 a5 : V) : List.lookup ("recipes" : Str) (F_Book a0 a1 a2 a3 a4 a5) = some a0 := by first | rfl | simp [F_Book, List.lookup] | (unfold F_Book; kernel_rfl)
theorem pt_Book_recipes (a0 a1 a2 a3 a4 a5 x : V) : putF ("recipes" : Str) x (F_Book a0 a1 a2 a3 a4 a5) = F_Book x a1 a2 a3 a4 a5 := by first | rfl | (unfold F_Book; kernel_rfl)
theorem lk_Book_parts (a0 a1 a2 a3 a4 a5 : V) : List.lookup ("parts" : Str) (F_Book a0 a1 a2 a3 a4 a5) = some a1 := by first | rfl | simp [F_Book, List.lookup] | (unfold F_Book; kernel_rfl)
theorem pt_Book_parts (a0 a1 a2 a3 a4 a5 x : V) : putF ("parts" : Str) x (F_Book a0 a1 a2 a3 a4 a5) = F_Book a0 x a2 a3 a4 a5 := by first | rfl | (unfold F_Book; kernel_rfl)
theorem lk_Book_steps (a0 a1 a2 a3 a4 a5 : V) : List.lookup ("steps" : Str) (F_Book a0 a1 a2 a3 a4 a5) = some a2 := by first | rfl | simp [F_Book, List.lookup] | (unfold F_Book; kernel_rfl)
theorem pt_Book_steps (a0 a1 a2 a3 a4 a5 x : V) : putF ("steps" : Str) x (F_Book a0 a1 a2 a3 a4 a5) = F_Book a0 a1 x a3 a4 a5 := by first | rfl | (unfold F_Book; kernel_rfl)
theorem lk_Book_times (a0 a1 a2 a3 a4 a5 : V) : List.lookup ("times" : Str) (F_Book a0 a1 a2 a3 a4 a5) = some a3 := by first | rfl | simp [F_Book, List.lookup] | (unfold F_Book; kernel_rfl)
theorem pt_Book_times (a0 a1 a2 a3 a4 a5 x : V) : putF ("times" : Str) x (F_Book a0 a1 a2 a3 a4 a5) = F_Book a0 a1 a2 x a4 a5 := by first | rfl | (unfold F_Book; kernel_rfl)
theorem lk_Book_conditions (a0 a1 a2 a3 a4 a5 : V) : List.lookup ("conditions" : Str) (F_Book a0 a1 a2 a3 a4 a5) = some a4 := by first | rfl | simp [F_Book, List.lookup] | (unfold F_Book; kernel_rfl)
theorem pt_Book_conditions (a0 a1 a2 a3 a4 a5 x : V) : putF ("conditions" : Str) x (F_Book a0 a1 a2 a3 a4 a5) = F_Book a0 a1 a2 a3 x a5 := by first | rfl | (unfold F_Book; kernel_rfl)
theorem lk_Book_has_either (a0 a1 a2 a3 a4 a5 : V) : List.lookup ("has_either" : Str) (F_Book a0 a1 a2 a3 a4 a5) = some a5 := by first | rfl | simp [F_Book, List.lookup] | (unfold F_Book; kernel_rfl)
theorem pt_Book_has_either (a0 a1 a2 a3 a4 a5 x : V) : putF ("has_either" : Str) x (F_Book a0 a1 a2 a3 a4 a5) = F_Book a0 a1 a2 a3 a4 x := by first | rfl | (unfold F_Book; kernel_rfl)
theorem lm_Book___init__ (a0 a1 a2 a3 a4 a5 : V) : List.lookup ("__init__" : Str) (F_Book a0 a1 a2 a3 a4 a5) = none := by first | rfl | (unfold F_Book; kernel_rfl)
theorem lm_Book_condition_of (a0 a1 a2 a3 a4 a5 : V) : List.lookup ("condition_of" : Str) (F_Book a0 a1 a2 a3 a4 a5) = none := by first | rfl | (unfold F_Book; kernel_rfl)
theorem lm_Book_step_of (a0 a1 a2 a3 a4 a5 : V) : List.lookup ("step_of" : Str) (F_Book a0 a1 a2 a3 a4 a5) = none := by first | rfl | (unfold F_Book; kernel_rfl)
theorem lm_Book_add_recipe (a0 a1 a2 a3 a4 a5 : V) : List.lookup ("add_recipe" : Str) (F_Book a0 a1 a2 a3 a4 a5) = none := by first | rfl | (unfold F_Book; kernel_rfl)
theorem mk_Book (a0 a1 a2 a3 a4 a5 : V) : putF ("has_either" : Str) a5 (putF ("conditions" : Str) a4 (putF ("times" : Str) a3 (putF ("steps" : Str) a2 (putF ("parts" : Str) a1 (putF ("recipes" : Str) a0 ([])))))) = F_Book a0 a1 a2 a3 a4 a5 := by first | rfl | (unfold F_Book; kernel_rfl)
theorem ln_Book (a0 a1 a2 a3 a4 a5 : V) : (F_Book a0 a1 a2 a3 a4 a5).length = 6 := rfl
def F_Reader (a0 a1 a2 a3 a4 : V) : List (Str × V) := [(("words" : Str), a0), (("place" : Str), a1), (("stack" : Str), a2), (("recipe_name" : Str), a3), (("book" : Str), a4)]
theorem lk_Reader_words (a0 a1 a2 a3 a4 : V) : List.lookup ("words" : Str) (F_Reader a0 a1 a2 a3 a4) = some a0 := by first | rfl | simp [F_Reader, List.lookup] | (unfold F_Reader; kernel_rfl)
theorem pt_Reader_words (a0 a1 a2 a3 a4 x : V) : putF ("words" : Str) x (F_Reader a0 a1 a2 a3 a4) = F_Reader x a1 a2 a3 a4 := by first | rfl | (unfold F_Reader; kernel_rfl)
theorem lk_Reader_place (a0 a1 a2 a3 a4 : V) : List.lookup ("place" : Str) (F_Reader a0 a1 a2 a3 a4) = some a1 := by first | rfl | simp [F_Reader, List.lookup] | (unfold F_Reader; kernel_rfl)
theorem pt_Reader_place (a0 a1 a2 a3 a4 x : V) : putF ("place" : Str) x (F_Reader a0 a1 a2 a3 a4) = F_Reader a0 x a2 a3 a4 := by first | rfl | (unfold F_Reader; kernel_rfl)
theorem lk_Reader_stack (a0 a1 a2 a3 a4 : V) : List.lookup ("stack" : Str) (F_Reader a0 a1 a2 a3 a4) = some a2 := by first | rfl | simp [F_Reader, List.lookup] | (unfold F_Reader; kernel_rfl)
theorem pt_Reader_stack (a0 a1 a2 a3 a4 x : V) : putF ("stack" : Str) x (F_Reader a0 a1 a2 a3 a4) = F_Reader a0 a1 x a3 a4 := by first | rfl | (unfold F_Reader; kernel_rfl)
theorem lk_Reader_recipe_name (a0 a1 a2 a3 a4 : V) : List.lookup ("recipe_name" : Str) (F_Reader a0 a1 a2 a3 a4) = some a3 := by first | rfl | simp [F_Reader, List.lookup] | (unfold F_Reader; kernel_rfl)
theorem pt_Reader_recipe_name (a0 a1 a2 a3 a4 x : V) : putF ("recipe_name" : Str) x (F_Reader a0 a1 a2 a3 a4) = F_Reader a0 a1 a2 x a4 := by first | rfl | (unfold F_Reader; kernel_rfl)
theorem lk_Reader_book (a0 a1 a2 a3 a4 : V) : List.lookup ("book" : Str) (F_Reader a0 a1 a2 a3 a4) = some a4 := by first | rfl | simp [F_Reader, List.lookup] | (unfold F_Reader; kernel_rfl)
theorem pt_Reader_book (a0 a1 a2 a3 a4 x : V) : putF ("book" : Str) x (F_Reader a0 a1 a2 a3 a4) = F_Reader a0 a1 a2 a3 x := by first | rfl | (unfold F_Reader; kernel_rfl)
theorem lm_Reader___init__ (a0 a1 a2 a3 a4 : V) : List.lookup ("__init__" : Str) (F_Reader a0 a1 a2 a3 a4) = none := by first | rfl | (unfold F_Reader; kernel_rfl)
theorem lm_Reader_next_is (a0 a1 a2 a3 a4 : V) : List.lookup ("next_is" : Str) (F_Reader a0 a1 a2 a3 a4) = none := by first | rfl | (unfold F_Reader; kernel_rfl)
theorem lm_Reader_next_word (a0 a1 a2 a3 a4 : V) : List.lookup ("next_word" : Str) (F_Reader a0 a1 a2 a3 a4) = none := by first | rfl | (unfold F_Reader; kernel_rfl)
theorem lm_Reader_next_name (a0 a1 a2 a3 a4 : V) : List.lookup ("next_name" : Str) (F_Reader a0 a1 a2 a3 a4) = none := by first | rfl | (unfold F_Reader; kernel_rfl)
theorem lm_Reader_next_time (a0 a1 a2 a3 a4 : V) : List.lookup ("next_time" : Str) (F_Reader a0 a1 a2 a3 a4) = none := by first | rfl | (unfold F_Reader; kernel_rfl)
theorem lm_Reader_expect (a0 a1 a2 a3 a4 : V) : List.lookup ("expect" : Str) (F_Reader a0 a1 a2 a3 a4) = none := by first | rfl | (unfold F_Reader; kernel_rfl)
theorem lm_Reader_read_all (a0 a1 a2 a3 a4 : V) : List.lookup ("read_all" : Str) (F_Reader a0 a1 a2 a3 a4) = none := by first | rfl | (unfold F_Reader; kernel_rfl)
theorem lm_Reader_go_on (a0 a1 a2 a3 a4 : V) : List.lookup ("go_on" : Str) (F_Reader a0 a1 a2 a3 a4) = none := by first | rfl | (unfold F_Reader; kernel_rfl)
theorem lm_Reader_begin_recipe (a0 a1 a2 a3 a4 : V) : List.lookup ("begin_recipe" : Str) (F_Reader a0 a1 a2 a3 a4) = none := by first | rfl | (unfold F_Reader; kernel_rfl)
theorem lm_Reader_read_step (a0 a1 a2 a3 a4 : V) : List.lookup ("read_step" : Str) (F_Reader a0 a1 a2 a3 a4) = none := by first | rfl | (unfold F_Reader; kernel_rfl)
theorem lm_Reader_read_use (a0 a1 a2 a3 a4 : V) : List.lookup ("read_use" : Str) (F_Reader a0 a1 a2 a3 a4) = none := by first | rfl | (unfold F_Reader; kernel_rfl)
theorem lm_Reader_begin_part (a0 a1 a2 a3 a4 : V) : List.lookup ("begin_part" : Str) (F_Reader a0 a1 a2 a3 a4) = none := by first | rfl | (unfold F_Reader; kernel_rfl)
theorem lm_Reader_begin_body (a0 a1 a2 a3 a4 : V) : List.lookup ("begin_body" : Str) (F_Reader a0 a1 a2 a3 a4) = none := by first | rfl | (unfold F_Reader; kernel_rfl)
theorem lm_Reader_end_again (a0 a1 a2 a3 a4 : V) : List.lookup ("end_again" : Str) (F_Reader a0 a1 a2 a3 a4) = none := by first | rfl | (unfold F_Reader; kernel_rfl)
theorem lm_Reader_end_part (a0 a1 a2 a3 a4 : V) : List.lookup ("end_part" : Str) (F_Reader a0 a1 a2 a3 a4) = none := by first | rfl | (unfold F_Reader; kernel_rfl)
theorem lm_Reader_push (a0 a1 a2 a3 a4 : V) : List.lookup ("push" : Str) (F_Reader a0 a1 a2 a3 a4) = none := by first | rfl | (unfold F_Reader; kernel_rfl)
theorem lm_Reader_put_away (a0 a1 a2 a3 a4 : V) : List.lookup ("put_away" : Str) (F_Reader a0 a1 a2 a3 a4) = none := by first | rfl | (unfold F_Reader; kernel_rfl)
theorem lm_Reader_add_part (a0 a1 a2 a3 a4 : V) : List.lookup ("add_part" : Str) (F_Reader a0 a1 a2 a3 a4) = none := by first | rfl | (unfold F_Reader; kernel_rfl)
theorem mk_Reader (a0 a1 a2 a3 a4 : V) : putF ("book" : Str) a4 (putF ("recipe_name" : Str) a3 (putF ("stack" : Str) a2 (putF ("place" : Str) a1 (putF ("words" : Str) a0 ([]))))) = F_Reader a0 a1 a2 a3 a4 := by first | rfl | (unfold F_Reader; kernel_rfl)
theorem ln_Reader (a0 a1 a2 a3 a4 : V) : (F_Reader a0 a1 a2 a3 a4).length = 5 := rfl
def F_Plant (a0 a1 a2 a3 a4 a5 : V) : List (Str × V) := [(("book" : Str), a0), (("told" : Str), a1), (("sizes" : Str), a2), (("pairs" : Str), a3), (("doings" : Str), a4), (("lines" : Str), a5)]
theorem lk_Plant_book (a0 a1 a2 a3 a4 a5 : V) : List.lookup ("book" : Str) (F_Plant a0 a1 a2 a3 a4 a5) = some a0 := by first | rfl | simp [F_Plant, List.lookup] | (unfold F_Plant; kernel_rfl)
theorem pt_Plant_book (a0 a1 a2 a3 a4 a5 x : V) : putF ("book" : Str) x (F_Plant a0 a1 a2 a3 a4 a5) = F_Plant x a1 a2 a3 a4 a5 := by first | rfl | (unfold F_Plant; kernel_rfl)
theorem lk_Plant_told (a0 a1 a2 a3 a4 a5 : V) : List.lookup ("told" : Str) (F_Plant a0 a1 a2 a3 a4 a5) = some a1 := by first | rfl | simp [F_Plant, List.lookup] | (unfold F_Plant; kernel_rfl)
theorem pt_Plant_told (a0 a1 a2 a3 a4 a5 x : V) : putF ("told" : Str) x (F_Plant a0 a1 a2 a3 a4 a5) = F_Plant a0 x a2 a3 a4 a5 := by first | rfl | (unfold F_Plant; kernel_rfl)
theorem lk_Plant_sizes (a0 a1 a2 a3 a4 a5 : V) : List.lookup ("sizes" : Str) (F_Plant a0 a1 a2 a3 a4 a5) = some a2 := by first | rfl | simp [F_Plant, List.lookup] | (unfold F_Plant; kernel_rfl)
theorem pt_Plant_sizes (a0 a1 a2 a3 a4 a5 x : V) : putF ("sizes" : Str) x (F_Plant a0 a1 a2 a3 a4 a5) = F_Plant a0 a1 x a3 a4 a5 := by first | rfl | (unfold F_Plant; kernel_rfl)
theorem lk_Plant_pairs (a0 a1 a2 a3 a4 a5 : V) : List.lookup ("pairs" : Str) (F_Plant a0 a1 a2 a3 a4 a5) = some a3 := by first | rfl | simp [F_Plant, List.lookup] | (unfold F_Plant; kernel_rfl)
theorem pt_Plant_pairs (a0 a1 a2 a3 a4 a5 x : V) : putF ("pairs" : Str) x (F_Plant a0 a1 a2 a3 a4 a5) = F_Plant a0 a1 a2 x a4 a5 := by first | rfl | (unfold F_Plant; kernel_rfl)
theorem lk_Plant_doings (a0 a1 a2 a3 a4 a5 : V) : List.lookup ("doings" : Str) (F_Plant a0 a1 a2 a3 a4 a5) = some a4 := by first | rfl | simp [F_Plant, List.lookup] | (unfold F_Plant; kernel_rfl)
theorem pt_Plant_doings (a0 a1 a2 a3 a4 a5 x : V) : putF ("doings" : Str) x (F_Plant a0 a1 a2 a3 a4 a5) = F_Plant a0 a1 a2 a3 x a5 := by first | rfl | (unfold F_Plant; kernel_rfl)
theorem lk_Plant_lines (a0 a1 a2 a3 a4 a5 : V) : List.lookup ("lines" : Str) (F_Plant a0 a1 a2 a3 a4 a5) = some a5 := by first | rfl | simp [F_Plant, List.lookup] | (unfold F_Plant; kernel_rfl)
theorem pt_Plant_lines (a0 a1 a2 a3 a4 a5 x : V) : putF ("lines" : Str) x (F_Plant a0 a1 a2 a3 a4 a5) = F_Plant a0 a1 a2 a3 a4 x := by first | rfl | (unfold F_Plant; kernel_rfl)
theorem lm_Plant___init__ (a0 a1 a2 a3 a4 a5 : V) : List.lookup ("__init__" : Str) (F_Plant a0 a1 a2 a3 a4 a5) = none := by first | rfl | (unfold F_Plant; kernel_rfl)
theorem lm_Plant_amounts (a0 a1 a2 a3 a4 a5 : V) : List.lookup ("amounts" : Str) (F_Plant a0 a1 a2 a3 a4 a5) = none := by first | rfl | (unfold F_Plant; kernel_rfl)
theorem lm_Plant_nothing (a0 a1 a2 a3 a4 a5 : V) : List.lookup ("nothing" : Str) (F_Plant a0 a1 a2 a3 a4 a5) = none := by first | rfl | (unfold F_Plant; kernel_rfl)
theorem lm_Plant_numbers_of (a0 a1 a2 a3 a4 a5 : V) : List.lookup ("numbers_of" : Str) (F_Plant a0 a1 a2 a3 a4 a5) = none := by first | rfl | (unfold F_Plant; kernel_rfl)
theorem lm_Plant_name_of (a0 a1 a2 a3 a4 a5 : V) : List.lookup ("name_of" : Str) (F_Plant a0 a1 a2 a3 a4 a5) = none := by first | rfl | (unfold F_Plant; kernel_rfl)
theorem lm_Plant_are_told (a0 a1 a2 a3 a4 a5 : V) : List.lookup ("are_told" : Str) (F_Plant a0 a1 a2 a3 a4 a5) = none := by first | rfl | (unfold F_Plant; kernel_rfl)
theorem mk_Plant (a0 a1 a2 a3 a4 a5 : V) : putF ("lines" : Str) a5 (putF ("doings" : Str) a4 (putF ("pairs" : Str) a3 (putF ("sizes" : Str) a2 (putF ("told" : Str) a1 (putF ("book" : Str) a0 ([])))))) = F_Plant a0 a1 a2 a3 a4 a5 := by first | rfl | (unfold F_Plant; kernel_rfl)
theorem ln_Plant (a0 a1 a2 a3 a4 a5 : V) : (F_Plant a0 a1 a2 a3 a4 a5).length = 6 := rfl
/-- what the top has written -/
structure Tx (w : World) (K : PySem.W.Frag) (mg : Str → Option Value) : Prop where
  b_len : mg "len" = none
  b_range : mg "range" = none
  b_zip : mg "zip" = none
  b_enumerate : mg "enumerate" = none
  b_sum : mg "sum" = none
  b_sorted : mg "sorted" = none
  b_list : mg "list" = none
  b_tuple : mg "tuple" = none
  b_int : mg "int" = none
  b_all : mg "all" = none
  b_str : mg "str" = none
  g_MOST_SPOTS : ∃ t, mg "MOST_SPOTS" = some (.int 600 t)
  g_MOST_BYTES : ∃ t, mg "MOST_BYTES" = some (.int 6000 t)
  g_MOST_SIGNS : ∃ t, mg "MOST_SIGNS" = some (.int 12 t)
  g_MOST_DIGITS : ∃ t, mg "MOST_DIGITS" = some (.int 7 t)
  g_LETTERS : ∃ t, mg "LETTERS" = some (.str "abcdefghijklmnopqrstuvwxyz" t)
  g_DIGITS : ∃ t, mg "DIGITS" = some (.str "0123456789" t)
  g_OTHER : ∃ t, mg "OTHER" = some (.str "?" t)
  g_KEPT : mg "KEPT" = some (.ref (He.ga K "KEPT"))
  g_MOST_RECIPES : ∃ t, mg "MOST_RECIPES" = some (.int 10 t)
  g_MOST_STEPS : ∃ t, mg "MOST_STEPS" = some (.int 30 t)
  g_MOST_CONDITIONS : ∃ t, mg "MOST_CONDITIONS" = some (.int 12 t)
  g_MOST_TIME : ∃ t, mg "MOST_TIME" = some (.int 1000000 t)
  g_MOST_THINGS : ∃ t, mg "MOST_THINGS" = some (.int 30 t)
  g_BETWEEN : mg "BETWEEN" = some (.ref (He.ga K "BETWEEN"))
  g_NAMES : mg "NAMES" = some (.ref (He.ga K "NAMES"))
  g_NUMBERS : mg "NUMBERS" = some (.ref (He.ga K "NUMBERS"))
  g_MOST_TOLD : mg "MOST_TOLD" = some (.ref (He.ga K "MOST_TOLD"))
  g_MOST_PAIRS : ∃ t, mg "MOST_PAIRS" = some (.int 60 t)
  g_MOST_DOINGS : ∃ t, mg "MOST_DOINGS" = some (.int 60 t)
  g__wall : mg "_wall" = some (.ref (He.fAd K ("_wall", none)))
  fd__wall : ∃ fd, FnP K "_wall" "_wall" s__wall (He.fAd K ("_wall", none)) fd
  g_net_of : mg "net_of" = some (.ref (He.fAd K ("net_of", none)))
  fd_net_of : ∃ fd, FnP K "net_of" "net_of" s_net_of (He.fAd K ("net_of", none)) fd
  g_can_be : mg "can_be" = some (.ref (He.fAd K ("can_be", none)))
  fd_can_be : ∃ fd, FnP K "can_be" "can_be" s_can_be (He.fAd K ("can_be", none)) fd
  g_added : mg "added" = some (.ref (He.fAd K ("added", none)))
  fd_added : ∃ fd, FnP K "added" "added" s_added (He.fAd K ("added", none)) fd
  g_lessened : mg "lessened" = some (.ref (He.fAd K ("lessened", none)))
  fd_lessened : ∃ fd, FnP K "lessened" "lessened" s_lessened (He.fAd K ("lessened", none)) fd
  g_moved : mg "moved" = some (.ref (He.fAd K ("moved", none)))
  fd_moved : ∃ fd, FnP K "moved" "moved" s_moved (He.fAd K ("moved", none)) fd
  g_ended : mg "ended" = some (.ref (He.fAd K ("ended", none)))
  fd_ended : ∃ fd, FnP K "ended" "ended" s_ended (He.fAd K ("ended", none)) fd
  g_spots_behind : mg "spots_behind" = some (.ref (He.fAd K ("spots_behind", none)))
  fd_spots_behind : ∃ fd, FnP K "spots_behind" "spots_behind" s_spots_behind (He.fAd K ("spots_behind", none)) fd
  g_spots_of : mg "spots_of" = some (.ref (He.fAd K ("spots_of", none)))
  fd_spots_of : ∃ fd, FnP K "spots_of" "spots_of" s_spots_of (He.fAd K ("spots_of", none)) fd
  g_is_spot_right : mg "is_spot_right" = some (.ref (He.fAd K ("is_spot_right", none)))
  fd_is_spot_right : ∃ fd, FnP K "is_spot_right" "is_spot_right" s_is_spot_right (He.fAd K ("is_spot_right", none)) fd
  g_is_recipe_right : mg "is_recipe_right" = some (.ref (He.fAd K ("is_recipe_right", none)))
  fd_is_recipe_right : ∃ fd, FnP K "is_recipe_right" "is_recipe_right" s_is_recipe_right (He.fAd K ("is_recipe_right", none)) fd
  g_sign_of : mg "sign_of" = some (.ref (He.fAd K ("sign_of", none)))
  fd_sign_of : ∃ fd, FnP K "sign_of" "sign_of" s_sign_of (He.fAd K ("sign_of", none)) fd
  g_text_of : mg "text_of" = some (.ref (He.fAd K ("text_of", none)))
  fd_text_of : ∃ fd, FnP K "text_of" "text_of" s_text_of (He.fAd K ("text_of", none)) fd
  g_line_of : mg "line_of" = some (.ref (He.fAd K ("line_of", none)))
  fd_line_of : ∃ fd, FnP K "line_of" "line_of" s_line_of (He.fAd K ("line_of", none)) fd
  g_lines_of : mg "lines_of" = some (.ref (He.fAd K ("lines_of", none)))
  fd_lines_of : ∃ fd, FnP K "lines_of" "lines_of" s_lines_of (He.fAd K ("lines_of", none)) fd
  g_is_name : mg "is_name" = some (.ref (He.fAd K ("is_name", none)))
  fd_is_name : ∃ fd, FnP K "is_name" "is_name" s_is_name (He.fAd K ("is_name", none)) fd
  g_is_number : mg "is_number" = some (.ref (He.fAd K ("is_number", none)))
  fd_is_number : ∃ fd, FnP K "is_number" "is_number" s_is_number (He.fAd K ("is_number", none)) fd
  g_things_in : mg "things_in" = some (.ref (He.fAd K ("things_in", none)))
  fd_things_in : ∃ fd, FnP K "things_in" "things_in" s_things_in (He.fAd K ("things_in", none)) fd
  g_read_book : mg "read_book" = some (.ref (He.fAd K ("read_book", none)))
  fd_read_book : ∃ fd, FnP K "read_book" "read_book" s_read_book (He.fAd K ("read_book", none)) fd
  g_names_in : mg "names_in" = some (.ref (He.fAd K ("names_in", none)))
  fd_names_in : ∃ fd, FnP K "names_in" "names_in" s_names_in (He.fAd K ("names_in", none)) fd
  g_numbers_in : mg "numbers_in" = some (.ref (He.fAd K ("numbers_in", none)))
  fd_numbers_in : ∃ fd, FnP K "numbers_in" "numbers_in" s_numbers_in (He.fAd K ("numbers_in", none)) fd
  g_is_formed : mg "is_formed" = some (.ref (He.fAd K ("is_formed", none)))
  fd_is_formed : ∃ fd, FnP K "is_formed" "is_formed" s_is_formed (He.fAd K ("is_formed", none)) fd
  g_kind_of_new : mg "kind_of_new" = some (.ref (He.fAd K ("kind_of_new", none)))
  fd_kind_of_new : ∃ fd, FnP K "kind_of_new" "kind_of_new" s_kind_of_new (He.fAd K ("kind_of_new", none)) fd
  g_kind_of_pair : mg "kind_of_pair" = some (.ref (He.fAd K ("kind_of_pair", none)))
  fd_kind_of_pair : ∃ fd, FnP K "kind_of_pair" "kind_of_pair" s_kind_of_pair (He.fAd K ("kind_of_pair", none)) fd
  g_kind_of_doing : mg "kind_of_doing" = some (.ref (He.fAd K ("kind_of_doing", none)))
  fd_kind_of_doing : ∃ fd, FnP K "kind_of_doing" "kind_of_doing" s_kind_of_doing (He.fAd K ("kind_of_doing", none)) fd
  g_kind_of_line : mg "kind_of_line" = some (.ref (He.fAd K ("kind_of_line", none)))
  fd_kind_of_line : ∃ fd, FnP K "kind_of_line" "kind_of_line" s_kind_of_line (He.fAd K ("kind_of_line", none)) fd
  g_take_line : mg "take_line" = some (.ref (He.fAd K ("take_line", none)))
  fd_take_line : ∃ fd, FnP K "take_line" "take_line" s_take_line (He.fAd K ("take_line", none)) fd
  g_read_plant : mg "read_plant" = some (.ref (He.fAd K ("read_plant", none)))
  fd_read_plant : ∃ fd, FnP K "read_plant" "read_plant" s_read_plant (He.fAd K ("read_plant", none)) fd
  g_plant_of : mg "plant_of" = some (.ref (He.fAd K ("plant_of", none)))
  fd_plant_of : ∃ fd, FnP K "plant_of" "plant_of" s_plant_of (He.fAd K ("plant_of", none)) fd
  g_works : mg "works" = some (.ref (He.fAd K ("works", none)))
  fd_works : ∃ fd, FnP K "works" "works" s_works (He.fAd K ("works", none)) fd
  fd_Move_init : ∃ fd, FnP K "__init__" "Move.__init__" s_Move_init (He.fAd K ("Move", some "__init__")) fd
  fd_Layer_init : ∃ fd, FnP K "__init__" "Layer.__init__" s_Layer_init (He.fAd K ("Layer", some "__init__")) fd
  fd_Layer_new_places : ∃ fd, FnP K "new_places" "Layer.new_places" s_Layer_new_places (He.fAd K ("Layer", some "new_places")) fd
  fd_Layer_add_move : ∃ fd, FnP K "add_move" "Layer.add_move" s_Layer_add_move (He.fAd K ("Layer", some "add_move")) fd
  fd_Layer_lay_body : ∃ fd, FnP K "lay_body" "Layer.lay_body" s_Layer_lay_body (He.fAd K ("Layer", some "lay_body")) fd
  fd_Layer_lay_part : ∃ fd, FnP K "lay_part" "Layer.lay_part" s_Layer_lay_part (He.fAd K ("Layer", some "lay_part")) fd
  fd_Layer_lay_if : ∃ fd, FnP K "lay_if" "Layer.lay_if" s_Layer_lay_if (He.fAd K ("Layer", some "lay_if")) fd
  fd_Layer_lay_both : ∃ fd, FnP K "lay_both" "Layer.lay_both" s_Layer_lay_both (He.fAd K ("Layer", some "lay_both")) fd
  fd_Layer_lay_again : ∃ fd, FnP K "lay_again" "Layer.lay_again" s_Layer_lay_again (He.fAd K ("Layer", some "lay_again")) fd
  fd_Refusal_init : ∃ fd, FnP K "__init__" "Refusal.__init__" s_Refusal_init (He.fAd K ("Refusal", some "__init__")) fd
  fd_NoText_init : ∃ fd, FnP K "__init__" "NoText.__init__" s_NoText_init (He.fAd K ("NoText", some "__init__")) fd
  fd_WrongWorks_init : ∃ fd, FnP K "__init__" "WrongWorks.__init__" s_WrongWorks_init (He.fAd K ("WrongWorks", some "__init__")) fd
  fd_WrongRecipes_init : ∃ fd, FnP K "__init__" "WrongRecipes.__init__" s_WrongRecipes_init (He.fAd K ("WrongRecipes", some "__init__")) fd
  fd_Part_init : ∃ fd, FnP K "__init__" "Part.__init__" s_Part_init (He.fAd K ("Part", some "__init__")) fd
  fd_Part_count_things : ∃ fd, FnP K "count_things" "Part.count_things" s_Part_count_things (He.fAd K ("Part", some "count_things")) fd
  fd_Book_init : ∃ fd, FnP K "__init__" "Book.__init__" s_Book_init (He.fAd K ("Book", some "__init__")) fd
  fd_Book_condition_of : ∃ fd, FnP K "condition_of" "Book.condition_of" s_Book_condition_of (He.fAd K ("Book", some "condition_of")) fd
  fd_Book_step_of : ∃ fd, FnP K "step_of" "Book.step_of" s_Book_step_of (He.fAd K ("Book", some "step_of")) fd
  fd_Book_add_recipe : ∃ fd, FnP K "add_recipe" "Book.add_recipe" s_Book_add_recipe (He.fAd K ("Book", some "add_recipe")) fd
  fd_Reader_init : ∃ fd, FnP K "__init__" "Reader.__init__" s_Reader_init (He.fAd K ("Reader", some "__init__")) fd
  fd_Reader_next_is : ∃ fd, FnP K "next_is" "Reader.next_is" s_Reader_next_is (He.fAd K ("Reader", some "next_is")) fd
  fd_Reader_next_word : ∃ fd, FnP K "next_word" "Reader.next_word" s_Reader_next_word (He.fAd K ("Reader", some "next_word")) fd
  fd_Reader_next_name : ∃ fd, FnP K "next_name" "Reader.next_name" s_Reader_next_name (He.fAd K ("Reader", some "next_name")) fd
  fd_Reader_next_time : ∃ fd, FnP K "next_time" "Reader.next_time" s_Reader_next_time (He.fAd K ("Reader", some "next_time")) fd
  fd_Reader_expect : ∃ fd, FnP K "expect" "Reader.expect" s_Reader_expect (He.fAd K ("Reader", some "expect")) fd
  fd_Reader_read_all : ∃ fd, FnP K "read_all" "Reader.read_all" s_Reader_read_all (He.fAd K ("Reader", some "read_all")) fd
  fd_Reader_go_on : ∃ fd, FnP K "go_on" "Reader.go_on" s_Reader_go_on (He.fAd K ("Reader", some "go_on")) fd
  fd_Reader_begin_recipe : ∃ fd, FnP K "begin_recipe" "Reader.begin_recipe" s_Reader_begin_recipe (He.fAd K ("Reader", some "begin_recipe")) fd
  fd_Reader_read_step : ∃ fd, FnP K "read_step" "Reader.read_step" s_Reader_read_step (He.fAd K ("Reader", some "read_step")) fd
  fd_Reader_read_use : ∃ fd, FnP K "read_use" "Reader.read_use" s_Reader_read_use (He.fAd K ("Reader", some "read_use")) fd
  fd_Reader_begin_part : ∃ fd, FnP K "begin_part" "Reader.begin_part" s_Reader_begin_part (He.fAd K ("Reader", some "begin_part")) fd
  fd_Reader_begin_body : ∃ fd, FnP K "begin_body" "Reader.begin_body" s_Reader_begin_body (He.fAd K ("Reader", some "begin_body")) fd
  fd_Reader_end_again : ∃ fd, FnP K "end_again" "Reader.end_again" s_Reader_end_again (He.fAd K ("Reader", some "end_again")) fd
  fd_Reader_end_part : ∃ fd, FnP K "end_part" "Reader.end_part" s_Reader_end_part (He.fAd K ("Reader", some "end_part")) fd
  fd_Reader_push : ∃ fd, FnP K "push" "Reader.push" s_Reader_push (He.fAd K ("Reader", some "push")) fd
  fd_Reader_put_away : ∃ fd, FnP K "put_away" "Reader.put_away" s_Reader_put_away (He.fAd K ("Reader", some "put_away")) fd
  fd_Reader_add_part : ∃ fd, FnP K "add_part" "Reader.add_part" s_Reader_add_part (He.fAd K ("Reader", some "add_part")) fd
  fd_Plant_init : ∃ fd, FnP K "__init__" "Plant.__init__" s_Plant_init (He.fAd K ("Plant", some "__init__")) fd
  fd_Plant_amounts : ∃ fd, FnP K "amounts" "Plant.amounts" s_Plant_amounts (He.fAd K ("Plant", some "amounts")) fd
  fd_Plant_nothing : ∃ fd, FnP K "nothing" "Plant.nothing" s_Plant_nothing (He.fAd K ("Plant", some "nothing")) fd
  fd_Plant_numbers_of : ∃ fd, FnP K "numbers_of" "Plant.numbers_of" s_Plant_numbers_of (He.fAd K ("Plant", some "numbers_of")) fd
  fd_Plant_name_of : ∃ fd, FnP K "name_of" "Plant.name_of" s_Plant_name_of (He.fAd K ("Plant", some "name_of")) fd
  fd_Plant_are_told : ∃ fd, FnP K "are_told" "Plant.are_told" s_Plant_are_told (He.fAd K ("Plant", some "are_told")) fd
  g_Move : mg "Move" = some (.ref (He.ga K "Move"))
  cl_Move : Cls K (He.ga K "Move")
  mk_Move : Mk K (He.ga K "Move") (He.fAd K ("Move", some "__init__"))
  n_Move_kind : NoAttr K (He.ga K "Move") "kind"
  n_Move_number : NoAttr K (He.ga K "Move") "number"
  n_Move_before : NoAttr K (He.ga K "Move") "before"
  n_Move_behind : NoAttr K (He.ga K "Move") "behind"
  g_Layer : mg "Layer" = some (.ref (He.ga K "Layer"))
  cl_Layer : Cls K (He.ga K "Layer")
  mk_Layer : Mk K (He.ga K "Layer") (He.fAd K ("Layer", some "__init__"))
  n_Layer_book : NoAttr K (He.ga K "Layer") "book"
  n_Layer_moves : NoAttr K (He.ga K "Layer") "moves"
  n_Layer_places : NoAttr K (He.ga K "Layer") "places"
  m_Layer_new_places : Meth K (He.ga K "Layer") "new_places" (He.fAd K ("Layer", some "new_places"))
  m_Layer_add_move : Meth K (He.ga K "Layer") "add_move" (He.fAd K ("Layer", some "add_move"))
  m_Layer_lay_body : Meth K (He.ga K "Layer") "lay_body" (He.fAd K ("Layer", some "lay_body"))
  m_Layer_lay_part : Meth K (He.ga K "Layer") "lay_part" (He.fAd K ("Layer", some "lay_part"))
  m_Layer_lay_if : Meth K (He.ga K "Layer") "lay_if" (He.fAd K ("Layer", some "lay_if"))
  m_Layer_lay_both : Meth K (He.ga K "Layer") "lay_both" (He.fAd K ("Layer", some "lay_both"))
  m_Layer_lay_again : Meth K (He.ga K "Layer") "lay_again" (He.fAd K ("Layer", some "lay_again"))
  g_Refusal : mg "Refusal" = some (.ref (He.ga K "Refusal"))
  x_Refusal : EC K (He.ga K "Refusal")
  ci_Refusal : CI K (He.ga K "Refusal") (He.fAd K ("Refusal", some "__init__"))
  in_Refusal : PySem.W.findIn K (.ref (He.ga K "Refusal")) "__init__" = some (some (.ref (He.fAd K ("Refusal", some "__init__"))))
  fn_Refusal : PySem.W.isFn K (.ref (He.fAd K ("Refusal", some "__init__"))) = true
  em_Refusal : PySem.W.exmOne K (.ref (He.ga K "Refusal")) (.ref (He.ga K "Refusal")) = some true
  g_NoText : mg "NoText" = some (.ref (He.ga K "NoText"))
  x_NoText : EC K (He.ga K "NoText")
  ci_NoText : CI K (He.ga K "NoText") (He.fAd K ("NoText", some "__init__"))
  in_NoText : PySem.W.findIn K (.ref (He.ga K "NoText")) "__init__" = some (some (.ref (He.fAd K ("NoText", some "__init__"))))
  fn_NoText : PySem.W.isFn K (.ref (He.fAd K ("NoText", some "__init__"))) = true
  em_NoText : PySem.W.exmOne K (.ref (He.ga K "NoText")) (.ref (He.ga K "Refusal")) = some true
  g_WrongWorks : mg "WrongWorks" = some (.ref (He.ga K "WrongWorks"))
  x_WrongWorks : EC K (He.ga K "WrongWorks")
  ci_WrongWorks : CI K (He.ga K "WrongWorks") (He.fAd K ("WrongWorks", some "__init__"))
  in_WrongWorks : PySem.W.findIn K (.ref (He.ga K "WrongWorks")) "__init__" = some (some (.ref (He.fAd K ("WrongWorks", some "__init__"))))
  fn_WrongWorks : PySem.W.isFn K (.ref (He.fAd K ("WrongWorks", some "__init__"))) = true
  em_WrongWorks : PySem.W.exmOne K (.ref (He.ga K "WrongWorks")) (.ref (He.ga K "Refusal")) = some true
  g_WrongRecipes : mg "WrongRecipes" = some (.ref (He.ga K "WrongRecipes"))
  x_WrongRecipes : EC K (He.ga K "WrongRecipes")
  ci_WrongRecipes : CI K (He.ga K "WrongRecipes") (He.fAd K ("WrongRecipes", some "__init__"))
  in_WrongRecipes : PySem.W.findIn K (.ref (He.ga K "WrongRecipes")) "__init__" = some (some (.ref (He.fAd K ("WrongRecipes", some "__init__"))))
  fn_WrongRecipes : PySem.W.isFn K (.ref (He.fAd K ("WrongRecipes", some "__init__"))) = true
  em_WrongRecipes : PySem.W.exmOne K (.ref (He.ga K "WrongRecipes")) (.ref (He.ga K "Refusal")) = some true
  g_Part : mg "Part" = some (.ref (He.ga K "Part"))
  cl_Part : Cls K (He.ga K "Part")
  mk_Part : Mk K (He.ga K "Part") (He.fAd K ("Part", some "__init__"))
  n_Part_word : NoAttr K (He.ga K "Part") "word"
  n_Part_number : NoAttr K (He.ga K "Part") "number"
  n_Part_bodies : NoAttr K (He.ga K "Part") "bodies"
  n_Part_things : NoAttr K (He.ga K "Part") "things"
  m_Part_count_things : Meth K (He.ga K "Part") "count_things" (He.fAd K ("Part", some "count_things"))
  g_Book : mg "Book" = some (.ref (He.ga K "Book"))
  cl_Book : Cls K (He.ga K "Book")
  mk_Book : Mk K (He.ga K "Book") (He.fAd K ("Book", some "__init__"))
  n_Book_recipes : NoAttr K (He.ga K "Book") "recipes"
  n_Book_parts : NoAttr K (He.ga K "Book") "parts"
  n_Book_steps : NoAttr K (He.ga K "Book") "steps"
  n_Book_times : NoAttr K (He.ga K "Book") "times"
  n_Book_conditions : NoAttr K (He.ga K "Book") "conditions"
  n_Book_has_either : NoAttr K (He.ga K "Book") "has_either"
  m_Book_condition_of : Meth K (He.ga K "Book") "condition_of" (He.fAd K ("Book", some "condition_of"))
  m_Book_step_of : Meth K (He.ga K "Book") "step_of" (He.fAd K ("Book", some "step_of"))
  m_Book_add_recipe : Meth K (He.ga K "Book") "add_recipe" (He.fAd K ("Book", some "add_recipe"))
  g_Reader : mg "Reader" = some (.ref (He.ga K "Reader"))
  cl_Reader : Cls K (He.ga K "Reader")
  mk_Reader : Mk K (He.ga K "Reader") (He.fAd K ("Reader", some "__init__"))
  n_Reader_words : NoAttr K (He.ga K "Reader") "words"
  n_Reader_place : NoAttr K (He.ga K "Reader") "place"
  n_Reader_stack : NoAttr K (He.ga K "Reader") "stack"
  n_Reader_recipe_name : NoAttr K (He.ga K "Reader") "recipe_name"
  n_Reader_book : NoAttr K (He.ga K "Reader") "book"
  m_Reader_next_is : Meth K (He.ga K "Reader") "next_is" (He.fAd K ("Reader", some "next_is"))
  m_Reader_next_word : Meth K (He.ga K "Reader") "next_word" (He.fAd K ("Reader", some "next_word"))
  m_Reader_next_name : Meth K (He.ga K "Reader") "next_name" (He.fAd K ("Reader", some "next_name"))
  m_Reader_next_time : Meth K (He.ga K "Reader") "next_time" (He.fAd K ("Reader", some "next_time"))
  m_Reader_expect : Meth K (He.ga K "Reader") "expect" (He.fAd K ("Reader", some "expect"))
  m_Reader_read_all : Meth K (He.ga K "Reader") "read_all" (He.fAd K ("Reader", some "read_all"))
  m_Reader_go_on : Meth K (He.ga K "Reader") "go_on" (He.fAd K ("Reader", some "go_on"))
  m_Reader_begin_recipe : Meth K (He.ga K "Reader") "begin_recipe" (He.fAd K ("Reader", some "begin_recipe"))
  m_Reader_read_step : Meth K (He.ga K "Reader") "read_step" (He.fAd K ("Reader", some "read_step"))
  m_Reader_read_use : Meth K (He.ga K "Reader") "read_use" (He.fAd K ("Reader", some "read_use"))
  m_Reader_begin_part : Meth K (He.ga K "Reader") "begin_part" (He.fAd K ("Reader", some "begin_part"))
  m_Reader_begin_body : Meth K (He.ga K "Reader") "begin_body" (He.fAd K ("Reader", some "begin_body"))
  m_Reader_end_again : Meth K (He.ga K "Reader") "end_again" (He.fAd K ("Reader", some "end_again"))
  m_Reader_end_part : Meth K (He.ga K "Reader") "end_part" (He.fAd K ("Reader", some "end_part"))
  m_Reader_push : Meth K (He.ga K "Reader") "push" (He.fAd K ("Reader", some "push"))
  m_Reader_put_away : Meth K (He.ga K "Reader") "put_away" (He.fAd K ("Reader", some "put_away"))
  m_Reader_add_part : Meth K (He.ga K "Reader") "add_part" (He.fAd K ("Reader", some "add_part"))
  g_Plant : mg "Plant" = some (.ref (He.ga K "Plant"))
  cl_Plant : Cls K (He.ga K "Plant")
  mk_Plant : Mk K (He.ga K "Plant") (He.fAd K ("Plant", some "__init__"))
  n_Plant_book : NoAttr K (He.ga K "Plant") "book"
  n_Plant_told : NoAttr K (He.ga K "Plant") "told"
  n_Plant_sizes : NoAttr K (He.ga K "Plant") "sizes"
  n_Plant_pairs : NoAttr K (He.ga K "Plant") "pairs"
  n_Plant_doings : NoAttr K (He.ga K "Plant") "doings"
  n_Plant_lines : NoAttr K (He.ga K "Plant") "lines"
  m_Plant_amounts : Meth K (He.ga K "Plant") "amounts" (He.fAd K ("Plant", some "amounts"))
  m_Plant_nothing : Meth K (He.ga K "Plant") "nothing" (He.fAd K ("Plant", some "nothing"))
  m_Plant_numbers_of : Meth K (He.ga K "Plant") "numbers_of" (He.fAd K ("Plant", some "numbers_of"))
  m_Plant_name_of : Meth K (He.ga K "Plant") "name_of" (He.fAd K ("Plant", some "name_of"))
  m_Plant_are_told : Meth K (He.ga K "Plant") "are_told" (He.fAd K ("Plant", some "are_told"))
  t_KEPT : ∀ H, SqT K H (He.ga K "KEPT") [.str "recipe", .str "end", .str "do", .str "takes", .str "to", .str "if", .str "then", .str "else", .str "either", .str "or", .str "both", .str "and", .str "again", .str "until", .str "use"]
  d_BETWEEN : WD w K (He.ga K "BETWEEN") [("if", .str "else"), ("either", .str "or"), ("both", .str "and")]
  d_NAMES : WD w K (He.ga K "NAMES") [("stuff", .ref (kdv K "NAMES" "stuff")), ("vessel", .ref (kdv K "NAMES" "vessel")), ("unit", .ref (kdv K "NAMES" "unit")), ("claim", .ref (kdv K "NAMES" "claim")), ("take", .ref (kdv K "NAMES" "take")), ("give", .ref (kdv K "NAMES" "give")), ("charge", .ref (kdv K "NAMES" "charge")), ("pour", .ref (kdv K "NAMES" "pour")), ("empty", .ref (kdv K "NAMES" "empty")), ("turn", .ref (kdv K "NAMES" "turn")), ("ship", .ref (kdv K "NAMES" "ship"))]
  t_NAMES_stuff : ∀ H, SqT K H (kdv K "NAMES" "stuff") [.str "stuff"]
  t_NAMES_vessel : ∀ H, SqT K H (kdv K "NAMES" "vessel") [.str "vessel"]
  t_NAMES_unit : ∀ H, SqT K H (kdv K "NAMES" "unit") [.str "unit"]
  t_NAMES_claim : ∀ H, SqT K H (kdv K "NAMES" "claim") [.str "recipe", .str "unit"]
  t_NAMES_take : ∀ H, SqT K H (kdv K "NAMES" "take") [.str "step", .str "unit"]
  t_NAMES_give : ∀ H, SqT K H (kdv K "NAMES" "give") [.str "step", .str "unit"]
  t_NAMES_charge : ∀ H, SqT K H (kdv K "NAMES" "charge") [.str "step", .str "vessel", .str "stuff"]
  t_NAMES_pour : ∀ H, SqT K H (kdv K "NAMES" "pour") [.str "step", .str "vessel", .str "vessel"]
  t_NAMES_empty : ∀ H, SqT K H (kdv K "NAMES" "empty") [.str "step", .str "vessel", .str "vessel"]
  t_NAMES_turn : ∀ H, SqT K H (kdv K "NAMES" "turn") [.str "step", .str "vessel", .str "stuff", .str "stuff"]
  t_NAMES_ship : ∀ H, SqT K H (kdv K "NAMES" "ship") [.str "step", .str "vessel"]
  d_NUMBERS : WD w K (He.ga K "NUMBERS") [("stuff", .ref (kdv K "NUMBERS" "stuff")), ("vessel", .ref (kdv K "NUMBERS" "vessel")), ("unit", .ref (kdv K "NUMBERS" "unit")), ("claim", .ref (kdv K "NUMBERS" "claim")), ("take", .ref (kdv K "NUMBERS" "take")), ("give", .ref (kdv K "NUMBERS" "give")), ("charge", .ref (kdv K "NUMBERS" "charge")), ("pour", .ref (kdv K "NUMBERS" "pour")), ("empty", .ref (kdv K "NUMBERS" "empty")), ("turn", .ref (kdv K "NUMBERS" "turn")), ("ship", .ref (kdv K "NUMBERS" "ship"))]
  t_NUMBERS_stuff : ∀ H, SqT K H (kdv K "NUMBERS" "stuff") []
  t_NUMBERS_vessel : ∀ H, SqT K H (kdv K "NUMBERS" "vessel") [.int 1000000]
  t_NUMBERS_unit : ∀ H, SqT K H (kdv K "NUMBERS" "unit") [.int 99]
  t_NUMBERS_claim : ∀ H, SqT K H (kdv K "NUMBERS" "claim") [.int 99]
  t_NUMBERS_take : ∀ H, SqT K H (kdv K "NUMBERS" "take") [.int 99]
  t_NUMBERS_give : ∀ H, SqT K H (kdv K "NUMBERS" "give") [.int 99]
  t_NUMBERS_charge : ∀ H, SqT K H (kdv K "NUMBERS" "charge") [.int 1000000]
  t_NUMBERS_pour : ∀ H, SqT K H (kdv K "NUMBERS" "pour") [.int 1000000]
  t_NUMBERS_empty : ∀ H, SqT K H (kdv K "NUMBERS" "empty") []
  t_NUMBERS_turn : ∀ H, SqT K H (kdv K "NUMBERS" "turn") [.int 1000, .int 1000]
  t_NUMBERS_ship : ∀ H, SqT K H (kdv K "NUMBERS" "ship") []
  d_MOST_TOLD : WD w K (He.ga K "MOST_TOLD") [("stuff", .int 12), ("vessel", .int 12), ("unit", .int 6)]

end Bw
end

section
set_option Elab.async false
set_option linter.all false
set_option maxRecDepth 100000
set_option maxHeartbeats 4000000
/-! Loops and comprehensions by plain functions. -/
namespace Bw
open PySem PySem.Spec PyProof.Rows L2
theorem if_intro {c : Prop} [Decidable c] {A B : Prop} (h1 : c → A) (h2 : ¬ c → B) : if c then A else B := by
  by_cases h : c
  · rw [if_pos h]; exact h1 h
  · rw [if_neg h]; exact h2 h
theorem cxK {CX : CXT} {P : Program} {w : World} {K : PySem.W.Frag} {mg : Str → Option Value} {base : Heap} {N : List Str} {q : Str} {sc : Scope} {f : Addr} {cd : Value} {A : Around} {o : List Env} {s : Shared} {H : Hp} {E : XK} : (cxOf CX P w K mg base N q sc f cd A o s H E).K = K := rfl
theorem cxKn {CX : CXT} {P : Program} {w : World} {K : PySem.W.Frag} {mg : Str → Option Value} {base : Heap} {N : List Str} {q : Str} {sc : Scope} {f : Addr} {cd : Value} {A : Around} {o : List Env} {s : Shared} {H : Hp} {E : XK} {F : Value → Shared → Prop} : ((cxOf CX P w K mg base N q sc f cd A o s H E).wish F).K = K := rfl
theorem same_upd {H H' : Hp} {p : Addr} {o : HO} (s : Same H H') (h : H p = none) : Same H (upd H' p o) := fun b u e => by
  rw [upd_ne (ne_of_none e h)]; exact s b u e
theorem same_new {H : Hp} {p : Addr} {o : HO} (h : H p = none) : Same H (upd H p o) := same_upd (Same.refl H) h
theorem Same.tup {K : PySem.W.Frag} {H H' : Hp} {a : Addr} {xs : List V} (e : Same H H') (h : SqT K H a xs) : SqT K H' a xs := by
  rcases h with (h | ⟨o, h⟩) | h
  · exact .inl (.inl (e _ _ h))
  · exact .inl (.inr ⟨o, e _ _ h⟩)
  · exact .inr h
theorem Same.dk {H H' : Hp} {a : Addr} {o : HO} (e : Same H H') (h : H a = some o) : H' a = some o := e a o h
section
variable {J : It} {n : Nat} {G : Hp → Prop} {Y : Nat → Hp → V → Hp → Prop} {g : TG} {te : TE} {vs : List Nat} {σ : L2.St} {H1 : Hp} {D : Addr}
/-- a comprehension without a test: the i-th turn gives f i -/
theorem lc_fn (w : Walk J n G Y) (f : Nat → V) {Qd : Hp → Prop} (hD : H1 D = none) (hG : ∀ H, Same H1 H → G H) (hn : n < sizeLine)
    (hs : ∀ i x H H' (R : V → Hp → Prop), i < n → Same H1 H → Y i H x H' → (∀ H4, Same H H4 → R (f i) H4) → g x (wipe σ vs) H' fun σ2 H2 => wipe σ2 vs = wipe σ vs ∧ te σ2 H2 R)
    (hd : ∀ H, Same H1 H → H D = some (.lst ((List.range n).map f)) → Qd H) :
    ∃ W : Nat → Nat → Hp → Prop, (∃ m, W 0 m (upd H1 D (.lst []))) ∧ ∀ i m H, W i m H →
      (J.stop i H ∧ Qd H) ∨ (J.go i H ∧ ∃ Nx : Hp → Prop, (∀ H', Nx H' → ∃ m', m' < m ∧ W (i + 1) m' H') ∧ ∀ x H', J.yld i H x H' → g x (wipe σ vs) H' fun σ2 H2 => wipe σ2 vs = wipe σ vs ∧ tYes σ2 H2 fun b H3 =>
        if b = true then te σ2 H3 fun y H4 => ∃ acc, H4 D = some (.lst acc) ∧ acc.length < sizeLine ∧ Nx (upd H4 D (.lst (acc ++ [y]))) else Nx H3) := by
  refine lc_it w (fun i H => Same H1 H ∧ H D = some (.lst ((List.range i).map f))) ⟨same_new hD, upd_same⟩ (fun i H _ p => hG H p.1) (fun i x H H' hi p y => ?_) (fun H p => hd H p.1 p.2)
  have z := hs i x H H' (fun y H4 => ∃ acc, H4 D = some (.lst acc) ∧ acc.length < sizeLine ∧ (Same H1 (upd H4 D (.lst (acc ++ [y]))) ∧ (upd H4 D (.lst (acc ++ [y]))) D = some (.lst ((List.range (i + 1)).map f)))) hi p.1 y (fun H4 s4 =>
    ⟨_, s4 _ _ p.2, by rw [List.length_map, List.length_range]; omega, same_upd (p.1.trans s4) hD, by rw [upd_same, List.range_succ, List.map_append]; rfl⟩)
  exact z
/-- the turns' keeping -/
def picked (n : Nat) (keep : Nat → Bool) (f : Nat → V) : List V := ((List.range n).filter keep).map f
theorem lc_if (w : Walk J n G Y) {tt : TT} (keep : Nat → Bool) (f : Nat → V) {Qd : Hp → Prop} (hD : H1 D = none) (hG : ∀ H, Same H1 H → G H) (hn : n < sizeLine)
    (hs : ∀ i x H H' (R : V → Hp → Prop) (R2 : Hp → Prop), i < n → Same H1 H → Y i H x H' → (keep i = true → ∀ H4, Same H H4 → R (f i) H4) → (keep i = false → ∀ H4, Same H H4 → R2 H4) → g x (wipe σ vs) H' fun σ2 H2 => wipe σ2 vs = wipe σ vs ∧ tt σ2 H2 fun b H3 => if b = true then te σ2 H3 R else R2 H3)
    (hd : ∀ H, Same H1 H → H D = some (.lst (picked n keep f)) → Qd H) :
    ∃ W : Nat → Nat → Hp → Prop, (∃ m, W 0 m (upd H1 D (.lst []))) ∧ ∀ i m H, W i m H →
      (J.stop i H ∧ Qd H) ∨ (J.go i H ∧ ∃ Nx : Hp → Prop, (∀ H', Nx H' → ∃ m', m' < m ∧ W (i + 1) m' H') ∧ ∀ x H', J.yld i H x H' → g x (wipe σ vs) H' fun σ2 H2 => wipe σ2 vs = wipe σ vs ∧ tt σ2 H2 fun b H3 =>
        if b = true then te σ2 H3 fun y H4 => ∃ acc, H4 D = some (.lst acc) ∧ acc.length < sizeLine ∧ Nx (upd H4 D (.lst (acc ++ [y]))) else Nx H3) := by
  refine lc_it w (fun i H => Same H1 H ∧ H D = some (.lst (picked i keep f))) ⟨same_new hD, upd_same⟩ (fun i H _ p => hG H p.1) (fun i x H H' hi p y => ?_) (fun H p => hd H p.1 p.2)
  have step : picked (i + 1) keep f = picked i keep f ++ (if keep i = true then [f i] else []) := by
    unfold picked
    rw [List.range_succ, List.filter_append, List.map_append]
    congr 1
    by_cases hk : keep i = true <;> simp [hk]
  have z := hs i x H H' (fun y H4 => ∃ acc, H4 D = some (.lst acc) ∧ acc.length < sizeLine ∧ (Same H1 (upd H4 D (.lst (acc ++ [y]))) ∧ (upd H4 D (.lst (acc ++ [y]))) D = some (.lst (picked (i + 1) keep f)))) (fun H4 => Same H1 H4 ∧ H4 D = some (.lst (picked (i + 1) keep f))) hi p.1 y
    (fun hk H4 s4 => ⟨_, s4 _ _ p.2, by
      have : (picked i keep f).length ≤ i := by unfold picked; rw [List.length_map]; exact Nat.le_trans (List.length_filter_le _ _) (by rw [List.length_range]; exact Nat.le_refl _)
      omega, same_upd (p.1.trans s4) hD, by rw [upd_same, step, if_pos hk]⟩)
    (fun hk H4 s4 => ⟨p.1.trans s4, by rw [s4 _ _ p.2, step, if_neg (by simp [hk]), List.append_nil]⟩)
  exact z
end
theorem range_map {α : Type} {β : Type} (xs : List α) (f : α → β) (d : α) : (List.range xs.length).map (fun i => f (xs.getD i d)) = xs.map f := by
  apply List.ext_getElem
  · simp
  · intro i h1 h2
    simp at h1 h2
    simp [List.getD, List.getElem?_eq_getElem h1]
theorem line_of {n : Nat} (h : n ≤ 100000) : n ≤ sizeLine := Nat.le_trans h (by decide)
theorem line_lt {n : Nat} (h : n ≤ 100000) : n < sizeLine := Nat.lt_of_le_of_lt h (by decide)
/-! ### rules within a comprehension -/
section
variable {X : Cx} {K : PySem.W.Frag}
theorem pe_fldK {e : Expr} {f : Str} {pos : Pos} {ta : TE} (hK : X.K = K) (he : PE X e ta) (hb : attributeBase e f X.env (eval e X.env) = eval e X.env) : PE X (.Attribute e f pos) (tFld K ta f) := by
  subst hK; exact pe_fld he hb
theorem op_in_seqK (hK : X.K = K) : OpR X (compareOp .In) (rIn K false) := by subst hK; exact op_in_seq
theorem op_notIn_seqK (hK : X.K = K) : OpR X (compareOp .NotIn) (rIn K true) := by subst hK; exact op_notIn_seq
theorem ix_listK (hK : X.K = K) : IxR X (rIxL K) := by subst hK; exact ix_list
theorem ix_tupK (hK : X.K = K) : IxR X (rIxT K) := by subst hK; exact ix_tup
theorem pg_tupK {ts : List Expr} {kk n : Nat} {pos : Pos} {t : TGs} (hK : X.K = K) (hc : X.calm = true) (ht : PGs X ts t) (hn : (assignEach ts X.env).length = n := by rfl) (hst : (assignEach ts X.env).findIdx? (·.1) = none := by rfl) : PG X (.Tuple ts kk pos) (gTup K n t) := by subst hK; exact pg_tup hc ht hn hst
end
section
variable {X : Cx} {CX : CXT} {k : Nat} {f C : Addr} {ps : List Str} {sp : Sp} {E : XK} {m : Str} {apos pos : Pos} {e o : Expr} {es : List Expr} {t : TA} {ta : TE} {pl : Sem Bool}
theorem pe_metC (he : PE X o ta) (c : Cls X.K C) (hm : Meth X.K C m f) (F : Cal X.prog X.w X.K X.mg X.base CX k f ps sp) (hr : Room k X.A) (hx : Passes CX X E) (ha : PA X (e :: es) t)
    (hst : starEach (e :: es) X.env = (false, eval e X.env) :: starEach es X.env := by rfl) (hpl : (backTo pos (starEach es X.env)).any (·.1) = false := by rfl)
    (ht : eval (.Call (.Attribute o m apos) (e :: es) [] pos) X.env = (do
      let ov ← eval o X.env
      standAt apos.atName
      let (f, first) ← holding [ov] (getMethod ov m pl)
      callWith pos f first (backTo pos (starEach (e :: es) X.env)) (backToKw pos (keywordEach [] X.env))) := by rfl) :
    PE X (.Call (.Attribute o m apos) (e :: es) [] pos) (tMeth C m sp [] E ta t) := by
  obtain ⟨fd, F1, b⟩ := F.ex
  exact pe_meth he c hm F1 hr b .nil hx ha hst hpl ht
theorem pe_metC0 (he : PE X o ta) (c : Cls X.K C) (hm : Meth X.K C m f) (F : Cal X.prog X.w X.K X.mg X.base CX k f ps sp) (hr : Room k X.A) (hx : Passes CX X E)
    (ht : eval (.Call (.Attribute o m apos) [] [] pos) X.env = (do
      let ov ← eval o X.env
      standAt apos.atName
      let (f, first) ← holding [ov] (getMethod ov m pl)
      callWith pos f first (backTo pos (starEach [] X.env)) (backToKw pos (keywordEach [] X.env))) := by rfl) :
    PE X (.Call (.Attribute o m apos) [] [] pos) (tMeth C m sp [] E ta tNil) := by
  obtain ⟨fd, F1, b⟩ := F.ex
  exact pe_meth0 he c hm F1 hr b .nil hx ht
end
end Bw
end

section
set_option Elab.async false
set_option linter.all false
set_option maxRecDepth 100000
set_option maxHeartbeats 4000000
/-! Walks over a zip of any two kinds, and over an enumerate with a start. -/
namespace Bw
open PySem PySem.Spec PyProof.Rows L2
def SqX (t : Bool) (K : PySem.W.Frag) (H : Hp) (a : Addr) (xs : List V) : Prop := match t with
  | true => SqT K H a xs
  | false => SqL K H a xs
def IterX (t : Bool) (h : Heap) (it a : Addr) (i : Nat) : Prop := match t with
  | true => h.IsTupleIter it a i
  | false => h.IsListIter it a i
def SeqX (t : Bool) (h : Heap) (a : Addr) (xs : Array Value) : Prop := match t with
  | true => h.IsTuple a xs
  | false => h.IsList a xs
theorem drawsX {prog : Program} {w : World} {A : Around} (hA : A.handled = none) (t : Bool) (it l : Addr) (hne : l ≠ it) (items : Array Value) : Draws prog w A it [it, l] items.size (fun i v => items[i]? = some v) fun i h => IterX t h it l i ∧ SeqX t h l items := by
  cases t
  · exact Draws.list hA it l hne items
  · exact Draws.tuple hA it l hne items
theorem Inv.seqX {t : Bool} {X : Cx} {pins : List (Addr × Obj)} {σ : L2.St} {H : Hp} {s : Shared} {a : Addr} {xs : List V} (I : L2.Inv X pins σ H s) (h : SqX t X.K H a xs) : ∃ its, Vals xs its ∧ SeqX t s.heap a its.toArray ∧ xs.length ≤ sizeLine := by
  cases t
  · obtain ⟨its, rv, p, hz⟩ := L2.Inv.list I h
    exact ⟨its, rv, PlainL.isList p, hz⟩
  · obtain ⟨its, rv, p, hz⟩ := L2.Inv.tuple I h
    exact ⟨its, rv, p, hz⟩
theorem Inv.seqX_inj {t : Bool} {X : Cx} {pins : List (Addr × Obj)} {σ : L2.St} {H : Hp} {s : Shared} {a : Addr} {xs ys : List V} (I : L2.Inv X pins σ H s) (h : SqX t X.K H a xs) (g : SqX t X.K H a ys) : xs = ys := by
  cases t
  · exact L2.Inv.list_inj I h g
  · exact L2.Inv.tuple_inj I h g
theorem IterX.obj {t : Bool} {h : Heap} {it a : Addr} {i : Nat} (x : IterX t h it a i) : ∃ o, h.get? it = some o ∧ ∀ v : Option Value, o.data ≠ Data.cell v := by
  cases t
  all_goals
    obtain ⟨o, ho, hc, hd⟩ := x
    exact ⟨o, ho, fun v q => by rw [hd] at q; cases q⟩
theorem IterX.at {t : Bool} {h h' : Heap} {it a : Addr} {i : Nat} (x : IterX t h it a i) (k : ∀ o, h.get? it = some o → h'.get? it = some o) : IterX t h' it a i := by
  cases t
  all_goals
    obtain ⟨o, ho, hc, hd⟩ := x
    exact ⟨o, k o ho, hc, hd⟩
theorem SeqX.lt {t : Bool} {h : Heap} {a : Addr} {xs : Array Value} (x : SeqX t h a xs) : a < h.objs.size := by
  cases t
  all_goals
    obtain ⟨o, ho, _⟩ := x
    exact Heap.lt_size ho
theorem beginsX (t : Bool) (a : Addr) (items : Array Value) : ∃ o, Begins (.ref a) o (fun h => SeqX t h a items) ∧ ∀ h : Heap, ∀ it, h.get? it = some o → IterX t h it a 0 := by
  cases t
  · exact ⟨_, begins_list a items, fun h it e => ⟨_, e, rfl, rfl⟩⟩
  · exact ⟨_, begins_tuple a items, fun h it e => ⟨_, e, rfl, rfl⟩⟩
def ItX (K : PySem.W.Frag) (t u : Bool) (a b : Addr) : It where
  go i H := ∃ xs ys x y, SqX t K H a xs ∧ SqX u K H b ys ∧ xs[i]? = some x ∧ ys[i]? = some y
  yld i H v H' := ∃ T x y, v = V.ref T ∧ H T = none ∧ H' = upd H T (.tup [x, y]) ∧ (∀ xs, SqX t K H a xs → xs[i]? = some x) ∧ ∀ ys, SqX u K H b ys → ys[i]? = some y
  stop i H := ∃ xs ys, SqX t K H a xs ∧ SqX u K H b ys ∧ i = min xs.length ys.length
theorem goesX {P : Program} {w : World} {A : Around} {elts : List Expr} {kk : Nat} {tpos : Pos} {t u : Bool} {a b z TI TO i1 i2 : Addr} (ap : ZipApart z TI TO i1 i2 a b) (hA : A.handled = none) (xs ys : Array Value) :
    GoesN P w A (.Tuple elts kk tpos) z (z :: TI :: TO :: ([i1, a] ++ [i2, b])) [z, TO, i1, i2] (min xs.size ys.size)
      (fun i h₀ v h => ∃ T x y, v = Value.ref T ∧ h₀.objs.size ≤ T ∧ xs[i]? = some x ∧ ys[i]? = some y ∧ h.IsTuple T #[x, y])
      fun i h => IsZip h z TI TO Value.none ∧ IsTupOf2 h TI (.ref i1) (.ref i2) ∧ (∃ a1 a2, IsTupOf2 h TO a1 a2) ∧ (IterX t h i1 a i ∧ SeqX t h a xs) ∧ (IterX u h i2 b i ∧ SeqX u h b ys) :=
  GoesN.zip2 ⟨ap.TIz, ap.TOz, ap.TITO, ap.TIi1, by simp, by simp [Ne.symm ap.i1z, Ne.symm ap.l1z], by simp [ap.TOi1, Ne.symm ap.l1TO], ap.TIi2, by simp, by simp [Ne.symm ap.i2z, Ne.symm ap.l2z], by simp [ap.TOi2, Ne.symm ap.l2TO], by simp [ap.i12, Ne.symm ap.l2i1], by simp [Ne.symm ap.i12, Ne.symm ap.l1i2]⟩
    (drawsX (A := A.in1) hA t i1 a ap.l1i1 xs) (drawsX (A := A.in1) hA u i2 b ap.l2i2 ys)
theorem turn_zipX {P : Program} {w : World} {K : PySem.W.Frag} {elts : List Expr} {kk : Nat} {tpos : Pos} {t u : Bool} {a b z TI TO i1 i2 : Addr} (ap : ZipApart z TI TO i1 i2 a b) :
    Turn P w K (.Tuple elts kk tpos) (ItX K t u a b) [z, TI, TO, i1, i2] z fun i h => IsZip h z TI TO Value.none ∧ IsPair h TI (.ref i1) (.ref i2) ∧ (∃ x y, IsPair h TO x y) ∧ IterX t h i1 a i ∧ IterX u h i2 b i where
  mem := by simp
  obj := by
    rintro i h ⟨h1, h2, ⟨x, y, h3⟩, h4, h5⟩ c hc
    simp only [List.mem_cons, List.not_mem_nil, or_false] at hc
    rcases hc with e | e | e | e | e <;> subst e
    · exact ⟨_, h1, fun v q => by cases q⟩
    · exact ⟨_, h2, fun v q => by cases q⟩
    · exact ⟨_, h3, fun v q => by cases q⟩
    · exact h4.obj
    · exact h5.obj
  keep := by
    rintro i h h' ⟨h1, h2, ⟨x, y, h3⟩, h4, h5⟩ k
    exact ⟨k _ (by simp) _ h1, k _ (by simp) _ h2, ⟨x, y, k _ (by simp) _ h3⟩, h4.at (k _ (by simp)), h5.at (k _ (by simp))⟩
  item := by
    rintro X rfl rfl rfl hc i pins s σ H E I hf ⟨h1, h2, h3, h4, h5⟩ ⟨xs, ys, x, y, hx, hy, ex, ey⟩
    obtain ⟨its1, rv1, p1, z1⟩ := Inv.seqX I hx
    obtain ⟨its2, rv2, p2, z2⟩ := Inv.seqX I hy
    obtain ⟨u1, hu1, ru1⟩ := Vals.get rv1 ex
    obtain ⟨u2, hu2, ru2⟩ := Vals.get rv2 ey
    have g := goesX (P := X.prog) (w := X.w) (A := X.A) (elts := elts) (kk := kk) (tpos := tpos) (t := t) (u := u) ap (I.ok.hd hc) its1.toArray its2.toArray
    have hi1 : i < its1.length := (List.getElem?_eq_some_iff.mp hu1).1
    have hi2 : i < its2.length := (List.getElem?_eq_some_iff.mp hu2).1
    refine g.goes i s (fun v s2 => ∃ x H', L2.Inv X pins σ H' s2 ∧ L2.RelV x v ∧ (ItX X.K t u a b).yld i H x H' ∧ (IsZip s2.heap z TI TO Value.none ∧ IsPair s2.heap TI (.ref i1) (.ref i2) ∧ (∃ x y, IsPair s2.heap TO x y) ∧ IterX t s2.heap i1 a (i + 1) ∧ IterX u s2.heap i2 b (i + 1)) ∧ ∀ b ∈ [z, TI, TO, i1, i2], H' b = none) E (by simp; omega) ⟨h1, h2, h3, ⟨h4, p1⟩, h5, p2⟩ ?_
    rintro v h' tk ⟨T, x', y', rfl, hT, e1, e2, hTup⟩ ⟨q1, q2, q3, q4, q5⟩ fr -
    have e1' : x' = u1 := by
      have : its1[i]? = some x' := by simpa using e1
      rw [hu1] at this; exact (Option.some.inj this).symm
    have e2' : y' = u2 := by
      have : its2[i]? = some y' := by simpa using e2
      rw [hu2] at this; exact (Option.some.inj this).symm
    subst e1' e2'
    have I1 := L2.Inv.turnedNew (t' := tk) (ch := [z, TI, TO, i1, i2]) (T := T) (ob := .tup [x, y]) I (fun c o hc => fr c o (fun z2 => hc (by simp at z2 ⊢; rcases z2 with e | e | e | e <;> simp [e]))) hf hT
      ⟨(by show 2 ≤ sizeLine; decide), [x', y'], .cons ru1 (.cons ru2 .nil), hTup⟩
    refine ⟨V.ref T, _, I1, rfl, ⟨T, x, y, rfl, HOk.fresh I.hok hT, rfl, fun xs' h => by rw [Inv.seqX_inj I h hx]; exact ex, fun ys' h => by rw [Inv.seqX_inj I h hy]; exact ey⟩, ⟨q1, q2, q3, q4.1, q5.1⟩, fun c hc => ?_⟩
    have nT : c ≠ T := by
      have lt : c < s.heap.objs.size := by
        simp only [List.mem_cons, List.not_mem_nil, or_false] at hc
        rcases hc with e | e | e | e | e <;> subst e
        · exact Heap.lt_size h1
        · exact Heap.lt_size h2
        · obtain ⟨_, _, h3⟩ := h3; exact Heap.lt_size h3
        · obtain ⟨_, h, _⟩ := h4.obj; exact Heap.lt_size h
        · obtain ⟨_, h, _⟩ := h5.obj; exact Heap.lt_size h
      exact Nat.ne_of_lt (Nat.lt_of_lt_of_le lt hT)
    rw [upd_ne nT]
    exact (hf c hc).1
  done := by
    rintro X rfl rfl rfl hc i pins s σ H E I hf ⟨h1, h2, h3, h4, h5⟩ ⟨xs, ys, hx, hy, e⟩
    obtain ⟨its1, rv1, p1, z1⟩ := Inv.seqX I hx
    obtain ⟨its2, rv2, p2, z2⟩ := Inv.seqX I hy
    have g := goesX (P := X.prog) (w := X.w) (A := X.A) (elts := elts) (kk := kk) (tpos := tpos) (t := t) (u := u) ap (I.ok.hd hc) its1.toArray its2.toArray
    have l1 : its1.length = xs.length := (Vals.length rv1).symm
    have l2 : its2.length = ys.length := (Vals.length rv2).symm
    have e' : min its1.toArray.size its2.toArray.size = i := by simp; omega
    rw [e'] at g
    refine g.stops s (fun s1 => L2.Inv X pins σ H s1) E ⟨h1, h2, h3, ⟨h4, p1⟩, h5, p2⟩ fun h' tk fr _ => ?_
    exact L2.Inv.turnedL (t' := tk) (ch := [z, TI, TO, i1, i2]) I (fun c o hc => fr c o (fun z2 => hc (by simp at z2 ⊢; rcases z2 with e | e | e | e <;> simp [e]))) hf
  self := by
    rintro A i s Q E ⟨h1, _⟩ q
    exact wpAny_pyIter_zip h1 q
def iZipX (t u : Bool) (K : PySem.W.Frag) (ta : TA) : TI := fun σ H R => ta σ H fun vs H1 => ∃ a b xs ys, vs = [V.ref a, V.ref b] ∧ SqX t K H1 a xs ∧ SqX u K H1 b ys ∧ R (ItX K t u a b) H1
theorem pi_zipX (t u : Bool) {X : Cx} {K : PySem.W.Frag} {e e2 : Expr} {ta : TA} {p pos tpos : Pos} {elts : List Expr} {kk : Nat} (hK : X.K = K) (hg : Gl X "zip") (hm : X.mg "zip" = none) (ha : PA X [e, e2] ta)
    (hs : starEach [e, e2] X.env = (false, eval e X.env) :: starEach [e2] X.env := by rfl) (hpl : (backTo pos (starEach [e2] X.env)).any (·.1) = false := by rfl) :
    PI X (.Tuple elts kk tpos) (.Call (.Name "zip" p) [e, e2] [] pos) (iZipX t u K ta) where
  run pins s σ H R I h := by
    subst hK
    refine Call_ (ld_blt I hg hm boot_zip (PyProof.Rows.callWith_type1 (thn (ha.run pos pins s σ H _ I h) fun us s1 x => ?_) hs hpl)) rfl
    obtain ⟨vs, H1, I1, r1, a, b, xs, ys, rfl, hx, hy, q⟩ := x
    obtain ⟨u1, l1, rfl, r, rr⟩ : ∃ u1 l1, us = u1 :: l1 ∧ L2.RelV (.ref a) u1 ∧ Vals [V.ref b] l1 := by
      cases r1 with
      | cons r rr => exact ⟨_, _, rfl, r, rr⟩
    obtain ⟨u2, l2, rfl, r', rr'⟩ : ∃ u2 l2, l1 = u2 :: l2 ∧ L2.RelV (.ref b) u2 ∧ Vals [] l2 := by
      cases rr with
      | cons r rr => exact ⟨_, _, rfl, r, rr⟩
    cases rr'
    cases r
    cases r'
    obtain ⟨its1, rv1, p1, z1⟩ := Inv.seqX I1 hx
    obtain ⟨its2, rv2, p2, z2⟩ := Inv.seqX I1 hy
    obtain ⟨o1, B1, b1⟩ := beginsX t a its1.toArray
    obtain ⟨o2, B2, b2⟩ := beginsX u b its2.toArray
    refine zip_begins2 B1 B2 p1 p2 fun h' hz hI hO g1 g2 hsz hk => wpAny_pyIter_zip hz ?_
    have I2 := L2.Inv.kept (t' := s1.toks) I1 hk
    have la := p1.lt
    have lb := p2.lt
    have fp : ∀ c, s1.heap.objs.size ≤ c → FpOk X pins H1 c := fun c hc => L2.Inv.fpOk I1 hc (HOk.fresh I1.hok hc)
    generalize s1.heap.objs.size = N at *
    refine ⟨N + 4, [N + 4, N + 2, N + 3, N, N + 1], _, ItX X.K t u a b, H1, rfl, I2, turn_zipX (TI := N + 2) (TO := N + 3) (i1 := N) (i2 := N + 1) ?_, ⟨hz, hI, ⟨_, _, hO⟩, b1 _ _ g1, b2 _ _ g2⟩, fun c hc => ?_, q⟩
    · exact zipApart_new la lb
    · refine fp c ?_
      simp only [List.mem_cons, List.not_mem_nil, or_false] at hc
      rcases hc with e | e | e | e | e <;> (subst e; first | exact Nat.le_refl _ | exact Nat.le_add_right _ _)
theorem walk_zipX {t u : Bool} {K : PySem.W.Frag} {a b : Addr} {xs ys : List V} {n : Nat} (hn : n = min xs.length ys.length) :
    Walk (ItX K t u a b) n (fun H => SqX t K H a xs ∧ SqX u K H b ys) (YPair (fun i => xs[i]?) fun i => ys[i]?) where
  goes i H hi h := ⟨xs, ys, xs[i], ys[i], h.1, h.2, List.getElem?_eq_getElem (by omega), List.getElem?_eq_getElem (by omega)⟩
  stops H h := ⟨xs, ys, h.1, h.2, hn⟩
  yields i H x H' hi h y := by
    obtain ⟨T, x1, y1, e1, e2, e3, h1, h2⟩ := y
    exact ⟨T, x1, y1, e1, e2, e3, h1 _ h.1, h2 _ h.2⟩
section
variable {J : It} {n : Nat} {G : Hp → Prop} {Y : Nat → Hp → V → Hp → Prop} {g : TG} {tb : TS} {D : Ends} {σ : L2.St} {H : Hp}
/-- a loop over a walk -/
theorem for_walk (wk : Walk J n G Y) (Pv : Nat → L2.St → Hp → Prop) (h0 : Pv 0 σ H) (hG : ∀ i σ H, i ≤ n → Pv i σ H → G H)
    (hs : ∀ i x σ H H', i < n → Pv i σ H → Y i H x H' → g x σ H' fun σ2 H2 => tb { nx := Pv (i + 1), rt := D.rt, bk := D.nx, ct := Pv (i + 1) } σ2 H2)
    (he : ∀ σ H, Pv n σ H → D.nx σ H) : ∃ W : Nat → Nat → L2.St → Hp → Prop, (∃ m, W 0 m σ H) ∧ ∀ i m σ H, W i m σ H →
      J.stop i H ∧ D.nx σ H ∨ J.go i H ∧ ∃ N : L2.St → Hp → Prop, (∀ σ' H', N σ' H' → ∃ m', m' < m ∧ W (i + 1) m' σ' H') ∧
        ∀ v H', J.yld i H v H' → g v σ H' fun σ2 H2 => tb { nx := N, rt := D.rt, bk := D.nx, ct := N } σ2 H2 := by
  refine ⟨fun i m σ H => i ≤ n ∧ m = n - i ∧ Pv i σ H, ⟨n, Nat.zero_le _, rfl, h0⟩, fun i m σ H h => ?_⟩
  obtain ⟨hi, rfl, hp⟩ := h
  by_cases e : i = n
  · subst e
    exact .inl ⟨wk.stops H (hG _ _ _ (Nat.le_refl _) hp), he _ _ hp⟩
  · have hi' : i < n := by omega
    exact .inr ⟨wk.goes i H hi' (hG _ _ _ hi hp), Pv (i + 1), fun σ' H' h => ⟨n - (i + 1), by omega, by omega, rfl, h⟩, fun v H' y => hs i v σ H H' hi' hp (wk.yields i H v H' hi' (hG _ _ _ hi hp) y)⟩
end
/-! ### enumerate from a start -/
def ItS (K : PySem.W.Frag) (k : Int) (a : Addr) : It where
  go i H := ∃ xs x, SqL K H a xs ∧ xs[i]? = some x
  yld i H v H' := ∃ T x, v = V.ref T ∧ H T = none ∧ H' = upd H T (.tup [.int (k + i), x]) ∧ ∀ xs, SqL K H a xs → xs[i]? = some x
  stop i H := ∃ xs, SqL K H a xs ∧ i = xs.length
theorem turn_enumS {P : Program} {w : World} {K : PySem.W.Frag} {elts : List Expr} {kk : Nat} {tpos : Pos} {k : Int} {a e it : Addr} (hne : e ≠ it) (hae : a ≠ e) (hai : a ≠ it) :
    Turn P w K (.Tuple elts kk tpos) (ItS K k a) [e, it] e fun i h => (∃ old, IsEnum h e it (k + i) old) ∧ IterX false h it a i where
  mem := by simp
  obj := by
    rintro i h ⟨⟨old, h1⟩, h4⟩ c hc
    simp only [List.mem_cons, List.not_mem_nil, or_false] at hc
    rcases hc with e | e <;> subst e
    · exact ⟨_, h1, fun v q => by cases q⟩
    · exact h4.obj
  keep := by
    rintro i h h' ⟨⟨old, h1⟩, h4⟩ k
    exact ⟨⟨old, k _ (by simp) _ h1⟩, h4.at (k _ (by simp))⟩
  item := by
    rintro X rfl rfl rfl hc i pins s σ H E I hf ⟨h1, h4⟩ ⟨xs, x, hx, ex⟩
    obtain ⟨its1, rv1, p1, z1⟩ := Inv.seqX (t := false) I hx
    obtain ⟨u1, hu1, ru1⟩ := Vals.get rv1 ex
    have g := GoesN.enumFrom (A := X.A) (elts := elts) (x1 := kk) (pos := tpos) k (drawsX (prog := X.prog) (w := X.w) (A := X.A.in1) (I.ok.hd hc) false it a hai its1.toArray) e hne (by simp [hne, Ne.symm hae]) (by simp)
    have hi1 : i < its1.length := (List.getElem?_eq_some_iff.mp hu1).1
    refine g.goes i s (fun v s2 => ∃ x H', L2.Inv X pins σ H' s2 ∧ L2.RelV x v ∧ (ItS X.K k a).yld i H x H' ∧ ((∃ old, IsEnum s2.heap e it (k + (i + 1 : Nat)) old) ∧ IterX false s2.heap it a (i + 1)) ∧ ∀ b ∈ [e, it], H' b = none) E (by simp; omega) ⟨h1, h4, p1⟩ ?_
    rintro v h' tk ⟨T, tt, x', rfl, hT, e1, hTup⟩ ⟨q1, q4, q5⟩ fr -
    have e1' : x' = u1 := by
      have : its1[i]? = some x' := by simpa using e1
      rw [hu1] at this; exact (Option.some.inj this).symm
    subst e1'
    have I1 := L2.Inv.turnedNew (t' := tk) (ch := [e, it]) (T := T) (ob := .tup [.int (k + i), x]) I (fun c o hc => fr c o hc) hf hT
      ⟨(by show 2 ≤ sizeLine; decide), [Value.int (k + i) tt, x'], .cons ⟨tt, rfl⟩ (.cons ru1 .nil), hTup⟩
    refine ⟨V.ref T, _, I1, rfl, ⟨T, x, rfl, HOk.fresh I.hok hT, rfl, fun xs' h => by rw [L2.Inv.list_inj I h hx]; exact ex⟩, ⟨q1, q4⟩, fun c hc => ?_⟩
    have nT : c ≠ T := by
      have lt : c < s.heap.objs.size := by
        simp only [List.mem_cons, List.not_mem_nil, or_false] at hc
        rcases hc with e | e <;> subst e
        · obtain ⟨_, h1⟩ := h1; exact Heap.lt_size h1
        · obtain ⟨_, h, _⟩ := h4.obj; exact Heap.lt_size h
      exact Nat.ne_of_lt (Nat.lt_of_lt_of_le lt hT)
    rw [upd_ne nT]
    exact (hf c hc).1
  done := by
    rintro X rfl rfl rfl hc i pins s σ H E I hf ⟨h1, h4⟩ ⟨xs, hx, e0⟩
    obtain ⟨its1, rv1, p1, z1⟩ := Inv.seqX (t := false) I hx
    have g := GoesN.enumFrom (A := X.A) (elts := elts) (x1 := kk) (pos := tpos) k (drawsX (prog := X.prog) (w := X.w) (A := X.A.in1) (I.ok.hd hc) false it a hai its1.toArray) e hne (by simp [hne, Ne.symm hae]) (by simp)
    have l1 : its1.length = xs.length := (Vals.length rv1).symm
    have e' : its1.toArray.size = i := by simp; omega
    rw [e'] at g
    refine g.stops s (fun s1 => L2.Inv X pins σ H s1) E ⟨h1, h4, p1⟩ fun h' tk fr _ => ?_
    exact L2.Inv.turnedL (t' := tk) (ch := [e, it]) I (fun c o hc => fr c o hc) hf
  self := by
    rintro A i s Q E ⟨⟨_, h1⟩, _⟩ q
    exact wpAny_pyIter_enum h1 q
theorem callWith_type_kwB {M : Model} {A : Around} {E : Value → Shared → Prop} {s : Shared} {pos : Pos} {T : String} {first : List Value} {args : List (Bool × Sem Value)} {keywords : List (Option Str × Sem Value)} {Q : Value → Shared → Prop}
    (hp : (args.any fun x => x.fst) = false) (hk : (keywords.any fun x => x.fst.isNone) = false)
    (h : wpAny M A (evalArgs (Value.type T) true args keywords) (fun a s₁ => wpAny M A (call (Value.type T) (first ++ a.pos) a.kw) Q E s₁) E s) : wpAny M A (callWith pos (Value.type T) first args keywords) Q E s := by
  unfold callWith
  refine wpAny_bind (wpAny_holding (wpAny_mono h (fun a s₁ h₁ => wpAny_bind (wpAny_standAt ?_)) fun _ _ x => x))
  simp only [hp, hk, Bool.or_false]
  exact wpAny_bind (wpAny_pure (wpAny_bind (wpAny_mono h₁ (fun r s₂ hr => wpAny_bind (wpAny_holding (wpAny_point (wpAny_pure hr)))) fun _ _ x => x)))
def iEnumS (k : Int) (K : PySem.W.Frag) (ta : TA) : TI := fun σ H R => ta σ H fun vs H1 => ∃ a xs, vs = [V.ref a] ∧ SqL K H1 a xs ∧ R (ItS K k a) H1
theorem pi_enumS (k : Int) {X : Cx} {K : PySem.W.Frag} {e : Expr} {ta : TA} {p pos tpos cpos kpos : Pos} {elts : List Expr} {kk ck : Nat} (hK : X.K = K) (hg : Gl X "enumerate") (hm : X.mg "enumerate" = none) (ha : PA X [e] ta) (h1 : -2 ^ 63 ≤ k) (h2 : k < 2 ^ 63)
    (hs : starEach [e] X.env = (false, eval e X.env) :: starEach [] X.env := by rfl)
    (he : eval (.Call (.Name "enumerate" p) [e] [⟨some "start", .Constant (.int k) ck cpos, kpos⟩] pos) X.env = (do
      let f ← eval (.Name "enumerate" p) X.env
      callWith pos f [] (backTo pos (starEach [e] X.env)) (backToKw pos (keywordEach [⟨some "start", .Constant (.int k) ck cpos, kpos⟩] X.env))) := by rfl) :
    PI X (.Tuple elts kk tpos) (.Call (.Name "enumerate" p) [e] [⟨some "start", .Constant (.int k) ck cpos, kpos⟩] pos) (iEnumS k K ta) where
  run pins s σ H R I h := by
    subst hK
    rw [he]
    refine wpAny_bind (ld_blt I hg hm boot_enumerate (callWith_type_kwB (by rw [hs]; rfl) rfl ?_))
    have hb : backTo pos (starEach [e] X.env) = (false, eval e X.env) :: backTo pos (starEach [] X.env) := by rw [hs]; rfl
    rw [hb]
    refine evalArgs_kw rfl ?_
    rw [← hb]
    refine thn (ha.run pos pins s σ H _ I h) fun us s1 x => ?_
    obtain ⟨vs, H1, I1, r1, a, xs, rfl, hx, q⟩ := x
    obtain ⟨u1, l1, rfl, r, rr⟩ : ∃ u1 l1, us = u1 :: l1 ∧ L2.RelV (.ref a) u1 ∧ Vals [] l1 := by
      cases r1 with
      | cons r rr => exact ⟨_, _, rfl, r, rr⟩
    cases rr
    cases r
    show wpAny (model X.prog X.w) X.A (evalAll [(do
      let v ← eval (.Constant (.int k) ck cpos) X.env
      standAt pos
      pure v)]) _ _ _
    refine wpAny_evalAll_cons (wpAny_bind (thn (pe_int.run pins s1 σ H1 _ I1 (show tC (V.int k) σ H1 fun v H2 => v = V.int k ∧ H2 = H1 from ⟨rfl, rfl⟩)) fun u s2 x2 => ?_))
    obtain ⟨v2, H2, I2, r2, rfl, rfl⟩ := x2
    obtain ⟨tk, rfl⟩ : ∃ tk, u = Value.int k tk := r2
    refine wpAny_bind (wpAny_standAt (wpAny_pure (wpAny_evalAll_nil ?_)))
    show wpAny (model X.prog X.w) X.A (call (Value.type "enumerate") [Value.ref a] [("start", Value.int k tk)]) _ _ _
    obtain ⟨its1, rv1, p1, z1⟩ := Inv.seqX (t := false) I2 hx
    have la := p1.lt
    have fp : ∀ c, s2.heap.objs.size ≤ c → FpOk X pins H2 c := fun c hc => L2.Inv.fpOk I2 hc (HOk.fresh I2.hok hc)
    refine enum_begins_start (begins_list a its1.toArray) p1 h1 h2 fun h' hz g1 hsz hk => wpAny_pyIter_enum hz ?_
    have I3 := L2.Inv.kept (t' := s2.toks) I2 hk
    generalize s2.heap.objs.size = N at *
    refine ⟨N + 1, [N + 1, N], _, ItS X.K k a, H2, rfl, I3, turn_enumS (Nat.succ_ne_self N) (Nat.ne_of_lt (Nat.lt_succ_of_lt la)) (Nat.ne_of_lt la), ⟨⟨_, by rw [Int.natCast_zero, Int.add_zero]; exact hz⟩, ⟨_, g1, rfl, rfl⟩⟩, fun c hc => ?_, q⟩
    refine fp c ?_
    simp only [List.mem_cons, List.not_mem_nil, or_false] at hc
    rcases hc with e | e <;> (subst e; first | exact Nat.le_refl _ | exact Nat.le_add_right _ _)
def YEnumS (k : Int) (xs : List V) (i : Nat) (H : Hp) (v : V) (H' : Hp) : Prop := ∃ T x, v = V.ref T ∧ H T = none ∧ H' = upd H T (.tup [.int (k + i), x]) ∧ xs[i]? = some x
theorem walk_enumS {K : PySem.W.Frag} {k : Int} {a : Addr} {xs : List V} : Walk (ItS K k a) xs.length (fun H => SqL K H a xs) (YEnumS k xs) where
  goes i H hi h := ⟨xs, xs[i], h, List.getElem?_eq_getElem hi⟩
  stops H h := ⟨xs, h, rfl⟩
  yields i H x H' hi h y := by
    obtain ⟨T, x1, e1, e2, e3, h1⟩ := y
    exact ⟨T, x1, e1, e2, e3, h1 _ h⟩
end Bw
end

section
set_option Elab.async false
set_option linter.all false
set_option maxRecDepth 100000
set_option maxHeartbeats 4000000
/-! A tuple so many times, also never and once. -/
namespace Bw
open PySem PySem.Spec PyProof.Rows L2
theorem tuple_mul01 (l : Addr) (items : Array Value) (n : Nat) (dd : Option Addr) (sl : Array (Option Value)) (x : Int) (u : Tok) (h1 : items.isEmpty = false) (hx : x = 0 ∨ x = 1) :
    Meets (Builtin.«tuple.__mul__» { pos := [Value.ref l, Value.int x u] }) fun x_1 R s => s.heap.get? l = some { cls := Value.type "tuple", dict := dd, data := Data.seq items n, slots := sl } ∧
      (x = 1 → R (Except.ok (Flow.ret (Value.ref l))) s) ∧ (x = 0 → R (Except.ok (Flow.ret (Value.ref s.heap.objs.size))) ⟨s.heap.push { cls := Value.type "tuple", data := Data.seq #[] }, s.gens, s.drawn, s.toks, s.os⟩) := by
  refine Meets.of_wp fun prog w A R s h => ?_
  obtain ⟨hp, g, d, tk, os⟩ := s
  obtain ⟨hl, q1, q0⟩ := h
  have f1 := AutoSeq1.idx_int
  refine wpAny_ite_false (by rcases hx with rfl | rfl <;> rfl) ?_
  refine wpAny_bind ?_
  unfold Builtin.Tuple.tupleItemsOf
  refine wpAny_bind (wpAny_bind (wpAny_load' hl (wpAny_pure (wpAny_pure ?_))))
  rcases hx with rfl | rfl
  · refine wpAny_ite_false (by rw [h1]; rfl) ?_
    refine wpAny_ite_true (by rfl) ?_
    refine wpAny_bind ?_
    unfold Builtin.Tuple.tupleExact
    exact wpAny_newObj_type (wpAny_pure ⟨_, rfl, q0 rfl⟩) (by exact Nat.zero_le _)
  · refine wpAny_ite_true (by rw [h1]; rfl) ?_
    refine wpAny_bind ?_
    unfold Builtin.Tuple.tupleIsExact
    refine wpAny_bind (wpAny_typeOf ⟨_, hl, rfl⟩ (wpAny_pure (wpAny_ite_true rfl (wpAny_bind (wpAny_rule (wpAny_pure ⟨_, rfl, q1 rfl⟩))))))

def rRep01 (K : PySem.W.Frag) : R2 := fun x y H Q => ∃ (l : Addr) (k : Nat) (xs : List V), x = .ref l ∧ y = .int k ∧ H l = some (.tup xs) ∧ xs ≠ [] ∧ xs.length ≤ 1000 ∧ k ≤ 1000 ∧
  ∀ (p : Addr) (H' : Hp), Same H H' → H' p = some (.tup (List.replicate k xs).flatten) → Q (.ref p) H'
theorem op_rep01 {X : Cx} {K : PySem.W.Frag} (hK : X.K = K) : OpR X (binaryOp .Mult) (rRep01 K) := by
  subst hK
  intro pins s σ H x y v u Q I rx ry h
  obtain ⟨l, k, xs, rfl, rfl, hT, hne, hz, hk, hQ⟩ := h
  by_cases h2 : 2 ≤ k
  · refine op_repT pins s σ H (.ref l) (.int k) v u Q I rx ry ⟨l, k, xs, rfl, rfl, .inl (.inl hT), hne, by omega, by omega, hz, fun p hp => ?_⟩
    refine hQ p _ (same_new hp) ?_
    rw [upd_same, Int.toNat_natCast]
  cases rx
  obtain ⟨t, rfl⟩ : ∃ t, u = Value.int k t := ry
  obtain ⟨its, r, ⟨⟨cls, dd, data, sl⟩, ho, hc, n, hd⟩, hs⟩ := L2.Inv.tuple I (.inl (.inl hT))
  cases hc
  replace hd : data = Data.seq its.toArray n := hd
  subst hd
  have hle := Vals.length r
  have hi : its.toArray.isEmpty = false := by
    cases its with
    | nil => exact absurd (List.length_eq_zero_iff.mp hle) hne
    | cons a b => rfl
  have hk01 : (k : Int) = 0 ∨ (k : Int) = 1 := by omega
  refine wpAny_binaryOp_repeat_ref (by decide) ⟨_, ho, rfl⟩ (fun s' => typeIs_int s' k t) noFill_tuple_mul PySem.F.fills_int_mul PySem.F.slot_int_rmul repeat_tuple PySem.F.slot_int_index.lookup
    (call_meets PySem.F.slot_int_rmul (typeIs_int s k t) PySem.F.entry_int_rmul (PySem.F.args_int_rmul_2 (.int k t) (.ref l)) (int_rmul_tuple k t l its.toArray n dd sl)
      ⟨ho, rfl, ⟨_, ho, rfl⟩, call_meets PySem.F.slot_tuple_mul ⟨_, ho, rfl⟩ PySem.F.entry_tuple_mul (PySem.F.args_tuple_mul_2 (.ref l) (.int k t)) (tuple_mul01 l its.toArray n dd sl k t hi hk01) ⟨ho, fun e => ?_, fun e => ?_⟩⟩)
  · obtain rfl : k = 1 := by omega
    exact ⟨.ref l, H, I, rfl, hQ l H (Same.refl H) (by simpa using hT)⟩
  · obtain rfl : k = 0 := by omega
    have nf := HOk.fresh I.hok (Nat.le_refl s.heap.objs.size)
    refine ⟨.ref s.heap.objs.size, upd H s.heap.objs.size (.tup []), L2.Inv.laid (t' := s.toks) I (fun b ob q => Heap.get?_push_of_some _ q) (Nat.le_refl _) ?_, rfl, hQ _ _ (same_new nf) upd_same⟩
    refine ⟨by decide, [], .nil, { cls := Value.type "tuple", data := Data.seq #[] }, by heap_get, rfl, _, rfl⟩
end Bw
end

section
set_option Elab.async false
set_option linter.all false
set_option maxRecDepth 100000
set_option maxHeartbeats 4000000
/-! Dicts with tuples as keys: their lengths; tuples of tuples as keys. -/
namespace Bw
open PySem PySem.Spec PyProof.Rows L2
theorem len_raw {prog : Program} {w : World} {A : Around} {E : Value → Shared → Prop} {s : Shared} {d : Addr} {es : Array DictEntry} {ep : Nat} {Q : Value → Shared → Prop} (hd : (d == sysModules) = false) (hm : s.heap.DictRaw d es ep) (hf : (es.size : Int) < 2 ^ 63)
    (h : Q (Value.int es.size (s.toks + 1)) { heap := s.heap, gens := s.gens, drawn := s.drawn, toks := s.toks + 1 + 1, os := s.os }) : wpAny (model prog w) A (call (Value.builtin "len") [Value.ref d]) Q E s := by
  refine Calls.call_function_entry kind_len plain_len entry_len (args_len1 (Value.ref d)) ?_
  refine wpAny_bind (wpAny_pure (wpAny_bind (wpAny_callSpecial?_slot (Heap.DictRaw.typeIs hm) PySem.F.slot_dict_len (call_meetsIn PySem.F.slot_dict_len (Heap.DictRaw.typeIs hm) PySem.F.entry_dict_len (PySem.F.args_dict_len_1 (Value.ref d)) (meets_dict_len_raw d hd) ⟨es, ep, hm, wpAny_bind (wpAny_holding (wpAny_pure (wpAny_bind (wpAny_letGo ?_))))⟩))))
  have h1 : ¬ (es.size : Int) < 0 := by omega
  have h2 : ¬ (es.size : Int) ≥ 2 ^ 63 := by omega
  exact wpAny_ite_false (decide_eq_false h1) (wpAny_ite_false (decide_eq_false h2) (wpAny_bind (wpAny_mkInt (wpAny_pure ⟨_, rfl, h⟩))))
theorem call_lenT {X : Cx} : CallR X (.builtin "len") fun xs H Q => ∃ a kvs, xs = [V.ref a] ∧ H a = some (.dT kvs) ∧ Q (.int kvs.length) H := by
  intro pins s σ H xs us Q I r h
  obtain ⟨a, kvs, rfl, ha, q⟩ := h
  obtain ⟨u, rfl, ru⟩ := L2.vals1 r
  cases ru
  obtain ⟨hz, hs, ys, pr, o, es, ep, ho, he, hd, hl, nd⟩ := I.hok a _ ha
  have en : es.size = kvs.length := by
    have h1 : es.toList.length = ys.length := by rw [hl, List.length_map]
    have h2 : kvs.length = ys.length := Paired.length pr
    rw [Array.length_toList] at h1; omega
  have big : sizeLine < 2 ^ 62 := by decide
  refine len_raw (es := es) (ep := ep) hs ⟨o, ho, he, hd⟩ (by omega) ⟨.int kvs.length, H, ?_, ⟨_, by rw [en]⟩, q⟩
  exact L2.Inv.tok I _
theorem hu9_of {A : Around} {k : Nat} (h : Room k A) : A.units + 9 < cLine := by have := h.un; omega
/-! ### dicts with spots as keys -/
/-- marked places, begun moves, held units -/
structure Spt where
  m : List Int
  b : List Int
  h : List Int
  deriving DecidableEq
def nnums (l : List Int) : NestedKey := .tup (l.map .num)
def Spt.key (s : Spt) : NestedKey := .tup [nnums s.m, nnums s.b, nnums s.h]
theorem nums_inj : ∀ {x y : List Int}, x.map NestedKey.num = y.map NestedKey.num → x = y
  | [], [], _ => rfl
  | [], _ :: _, h => by cases h
  | _ :: _, [], h => by cases h
  | a :: x, b :: y, h => by
    rw [List.map_cons, List.map_cons] at h
    obtain ⟨h1, h2⟩ := List.cons.inj h
    rw [NestedKey.num.inj h1, nums_inj h2]
theorem Spt.key_inj {x y : Spt} (h : x.key = y.key) : x = y := by
  obtain ⟨a, b, c⟩ := x
  obtain ⟨d, e, f⟩ := y
  have h1 := NestedKey.tup.inj h
  have h2 := List.cons.inj h1
  have h3 := List.cons.inj h2.2
  have h4 := List.cons.inj h3.2
  have e1 : a = d := nums_inj (NestedKey.tup.inj h2.1)
  have e2 : b = e := nums_inj (NestedKey.tup.inj h3.1)
  have e3 : c = f := nums_inj (NestedKey.tup.inj h4.1)
  rw [e1, e2, e3]
def SpotAt (H : Hp) (q : Addr) (s : Spt) : Prop := ∃ a b c, H q = some (.tup [.ref a, .ref b, .ref c]) ∧ H a = some (.tup (s.m.map V.int)) ∧ H b = some (.tup (s.b.map V.int)) ∧ H c = some (.tup (s.h.map V.int))
theorem SpotAt.mono {H H' : Hp} {q : Addr} {s : Spt} (h : SpotAt H q s) (g : Same H H') : SpotAt H' q s := by
  obtain ⟨a, b, c, h1, h2, h3, h4⟩ := h
  exact ⟨a, b, c, g _ _ h1, g _ _ h2, g _ _ h3, g _ _ h4⟩
def ents (ks : List (Spt × Addr)) : List (NestedKey × Addr × Value) := ks.map fun k => (k.1.key, k.2, Value.bool true)
def DNl (P : Program) (w : World) (p : Addr) (ks : List (Spt × Addr)) : Heap → Prop := fun h => ∃ o es ep, h.get? p = some o ∧ o.ExactDict ∧ o.data = Data.dict es ep ∧ es.toList = (ents ks).map (entryOfKey (nestedKind P w)) ∧ (ks.map (·.1)).Nodup ∧ ks.length ≤ sizeLine ∧ (p == sysModules) = false
def dn (P : Program) (w : World) (p : Addr) (ks : List (Spt × Addr)) : HO := .ext (DNl P w p ks)
theorem dn_ok {P : Program} {w : World} {H : Hp} {h : Heap} {p : Addr} {ks : List (Spt × Addr)} (x : DNl P w p ks h) : ObjOk P w H h p (dn P w p ks) := by
  refine ⟨x, ?_, ?_⟩
  · obtain ⟨o, es, ep, ho, _⟩ := x
    exact ⟨o, ho⟩
  · rintro h1 h2 ⟨o, es, ep, ho, r⟩ k
    exact ⟨o, es, ep, k o ho, r⟩
theorem tup_nums {h : Heap} {a : Addr} {its : List Value} : ∀ {l : List Int} {us : List Value}, Vals (l.map V.int) us → NestedAll h (l.map NestedKey.num) us
  | [], us, r => by cases r; exact .nil
  | x :: l, us, r => by
    cases r with
    | cons r rr =>
      obtain ⟨t, rfl⟩ := r
      exact .cons (.int x t) (tup_nums (a := a) (its := its) rr)
theorem nums_is {X : Cx} {pins : List (Addr × Obj)} {σ : L2.St} {H : Hp} {s : Shared} (I : L2.Inv X pins σ H s) {a : Addr} {l : List Int} (h : H a = some (.tup (l.map V.int))) : NestedIs s.heap (nnums l) (.ref a) := by
  obtain ⟨_, its, r, o, ho, hc, n, hd⟩ := I.hok a _ h
  exact .tup ho hc hd (tup_nums (a := a) (its := its) r)
theorem depth_nums : ∀ l : List Int, NestedKey.depthAll (l.map NestedKey.num) ≤ 1
  | [] => by simp [NestedKey.depthAll]
  | x :: l => by
    have := depth_nums l
    simp [NestedKey.depthAll, NestedKey.depth] at this ⊢
    omega
theorem spot_is {X : Cx} {pins : List (Addr × Obj)} {σ : L2.St} {H : Hp} {s : Shared} (I : L2.Inv X pins σ H s) {q : Addr} {sp : Spt} (h : SpotAt H q sp) : (nestedKind X.prog X.w).is s.heap sp.key q := by
  obtain ⟨a, b, c, h1, h2, h3, h4⟩ := h
  obtain ⟨_, its, r, o, ho, hc, n, hd⟩ := I.hok q _ h1
  cases r with
  | cons r rr => cases rr with
    | cons r2 rr => cases rr with
      | cons r3 rr =>
        cases rr; cases r; cases r2; cases r3
        refine ⟨.tup ho hc hd (.cons (nums_is I h2) (.cons (nums_is I h3) (.cons (nums_is I h4) .nil))), ?_⟩
        have d1 := depth_nums sp.m
        have d2 := depth_nums sp.b
        have d3 := depth_nums sp.h
        simp only [Spt.key, nnums, NestedKey.depth, NestedKey.depthAll]
        omega
theorem dict_pairsH {prog : Program} {w : World} {K : Type} [inst : DecidableEq K] {knd : HeapKind prog w K} {A : Around} {E : Value → Shared → Prop} {s : Shared} {env : Env} {keys : List (Option Expr)} {values : List Expr} {pos : Pos} {pairs : List (Sem Value × Sem Value)} {Q : Value → Shared → Prop}
    (hu : knd.room A) (hshape : (evalEachOpt keys env).zip (List.map (fun v => do
      let x ← v
      standAt pos
      pure x) (evalEach values env)) = List.map (fun p => (some p.fst, p.snd)) pairs) (h0 : pairs ≠ []) (hlen : pairs.length ≤ 15)
    (h : wpAny (model prog w) A (evalPairs pairs) (fun vs s₁ => ∃ ps, CarriesH knd s₁.heap vs ps ∧ Heap.DictOfH knd s₁.heap s.heap.objs.size [] ∧ ∀ (h' : Heap) (tk : Nat), Heap.DictOfH knd h' s.heap.objs.size (storedAllH [] ps) → Heap.SameBut s.heap.objs.size s₁.heap h' →
      Q (Value.ref s.heap.objs.size) { heap := h', gens := s₁.gens, drawn := s₁.drawn, toks := tk, os := s₁.os }) E
      { heap := s.heap.push { cls := Value.type "dict", data := Data.dict #[] }, gens := s.gens, drawn := s.drawn, toks := s.toks, os := s.os }) : wpAny (model prog w) A (eval (Expr.Dict keys values pos) env) Q E s := by
  rw [arm_eval_Dict keys values pos env, hshape, dictDisplay_pairs pairs h0 (by omega)]
  refine wpAny_bind (wpAny_standAt (wpAny_bind (wpAny_subDictH hu hlen (wpAny_mono h (fun vs s₁ h₁ => ?_) fun _ _ e => e))))
  obtain ⟨ps, hc, hm, hq⟩ := h₁
  exact ⟨ps, hc, hm, fun h' tk a b => wpAny_pure (hq h' tk a b)⟩
section
variable {X : Cx} {pins : List (Addr × Obj)} {σ : L2.St} {H : Hp} {s : Shared}
theorem dn_at (I : L2.Inv X pins σ H s) {p : Addr} {ks : List (Spt × Addr)} (h : H p = some (dn X.prog X.w p ks)) : DNl X.prog X.w p ks s.heap := (I.hok p _ h).1
theorem dn_of (I : L2.Inv X pins σ H s) {p : Addr} {ks : List (Spt × Addr)} (h : H p = some (dn X.prog X.w p ks)) (hs : ∀ k ∈ ks, SpotAt H k.2 k.1) : Heap.DictOfH (nestedKind X.prog X.w) s.heap p (ents ks) := by
  obtain ⟨o, es, ep, ho, he, hd, hl, nd, _⟩ := dn_at I h
  refine ⟨o, es, ep, ho, he, hd, hl, fun x hx => ?_, ?_⟩
  · obtain ⟨k, hk, rfl⟩ := List.mem_map.mp hx
    exact spot_is I (hs k hk)
  · unfold ents
    rw [List.map_map]
    have : (ks.map ((fun x => x.1) ∘ fun k : Spt × Addr => (k.1.key, k.2, Value.bool true))) = (ks.map (·.1)).map Spt.key := by rw [List.map_map]; rfl
    rw [this]
    exact List.Pairwise.map _ (fun a b hne e => hne (Spt.key_inj e)) nd
theorem at_key (ks : List (Spt × Addr)) (s : Spt) : (atKey (ents ks) s.key).isSome = (ks.map (·.1)).contains s := by
  unfold atKey ents
  induction ks with
  | nil => rfl
  | cons k r ih =>
    simp only [List.map_cons, List.find?_cons, List.contains_cons]
    by_cases h : k.1 = s
    · subst h; simp
    · have h1 : (decide (k.1.key = s.key)) = false := decide_eq_false fun z => h (Spt.key_inj z)
      have h2 : (s == k.1) = false := by simpa using fun z : s = k.1 => h z.symm
      simp only [h1, h2, Bool.false_or]
      first | exact ih | (simpa using ih)
end
def tNotInN (P : Program) (w : World) (ty td : TE) : TE := fun σ H Q => ty σ H fun y H1 => td σ H1 fun x H2 => ∃ (p q : Addr) (s : Spt) (ks : List (Spt × Addr)), x = .ref p ∧ y = .ref q ∧ H2 p = some (dn P w p ks) ∧ SpotAt H2 q s ∧ (∀ k ∈ ks, SpotAt H2 k.2 k.1) ∧ Q (.bl (!(ks.map (·.1)).contains s)) H2
theorem pc_notinN {X : Cx} {o i : Expr} {td ty : TE} (hu : X.A.units + 9 < cLine) (hi : PE X i ty) (ho : PE X o td) : PC X .NotIn i o (tNotInN X.prog X.w ty td) where
  run pins s σ H Q I h := by
    refine thn (hi.run pins s σ H _ I h) fun iv s1 x => ?_
    obtain ⟨y, H1, I1, ry, q1⟩ := x
    refine thn (ho.run pins s1 σ H1 _ I1 q1) fun u s2 x => ?_
    obtain ⟨x, H2, I2, rx, p, q, sp, ks, rfl, rfl, hp, hq, hs, k⟩ := x
    cases rx
    cases ry
    have D := dn_of I2 hp hs
    obtain ⟨o', es, ep, _, _, _, _, _, _, hm⟩ := dn_at I2 hp
    refine notIn_keyed (knd := nestedKind X.prog X.w) (by show X.A.units + 1 + 8 < cLine; omega) (spot_is I2 hq) hm ⟨_, D, rfl⟩ ⟨_, H2, L2.Inv.tok I2 _, ?_, k⟩
    rw [valueAt_pairsH]
    rw [Option.isSome_map]
    exact congrArg (fun b => Value.bool !b) (at_key ks sp)
def sDPutN (P : Program) (w : World) (td ty tv : TE) : TS := fun D σ H => tv σ H fun v H1 => td σ H1 fun x H2 => ty σ H2 fun y H3 => v = .bl true ∧ ∃ (p q : Addr) (s : Spt) (ks : List (Spt × Addr)), x = .ref p ∧ y = .ref q ∧ H3 p = some (dn P w p ks) ∧ SpotAt H3 q s ∧ (∀ k ∈ ks, SpotAt H3 k.2 k.1) ∧ (ks.map (·.1)).contains s = false ∧ ks.length < sizeLine ∧ D.nx σ (upd H3 p (dn P w p (ks ++ [(s, q)])))
theorem ps_dputN {X : Cx} {o i value : Expr} {pos pos' : Pos} {td ty tv : TE} (hu : X.A.units + 9 < cLine) (ho : PE X o td) (hi : PE X i ty) (hv : PE X value tv) (hsw : swapsWith value (some (.Subscript o i pos')) pos.line X.env = pure false) :
    PS X (.Assign [.Subscript o i pos'] value pos) (sDPutN X.prog X.w td ty tv) where
  run pins s σ H D I h := by
    refine wpAny_Assign_Subscript (thn (hv.run pins s σ H _ I h) fun r s1 x => ?_) hsw
    obtain ⟨v, H1, I1, rv, q1⟩ := x
    refine thn (ho.run pins s1 σ H1 _ I1 q1) fun u s2 x => ?_
    obtain ⟨x, H2, I2, rx, q2⟩ := x
    refine thn (hi.run pins s2 σ H2 _ I2 q2) fun iv s3 x3 => ?_
    obtain ⟨y, H3, I3, ry, rfl, p, q, sp, ks, rfl, rfl, hp, hq, hs, hc, hl, k⟩ := x3
    cases rx
    cases ry
    obtain rfl : r = .bool true := rv
    have D3 := dn_of I3 hp hs
    obtain ⟨o', es, ep, _, _, _, _, nd, _, hm⟩ := dn_at I3 hp
    have ln : (ents ks).length ≤ sizeLine := by unfold ents; rw [List.length_map]; omega
    refine wpAny_setItem_heap (knd := nestedKind X.prog X.w) (by show X.A.units + 1 + 8 < cLine; omega) (spot_is I3 hq) D3 (fun h' hd' sb => ?_) ln
    have e : storedH (ents ks) sp.key q (.bool true) = ents (ks ++ [(sp, q)]) := by
      unfold storedH
      rw [if_neg (by rw [at_key, hc]; simp)]
      unfold ents
      rw [List.map_append]; rfl
    rw [e] at hd'
    obtain ⟨o2, es2, ep2, g1, g2, g3, g4, g5, g6⟩ := hd'
    refine ⟨σ, _, d_write (t' := _) I3 (by rw [hp]; trivial) sb ⟨_, g1⟩ (dn_ok ⟨o2, es2, ep2, g1, g2, g3, g4, ?_, by rw [List.length_append]; exact hl, hm⟩), k⟩
    rw [List.map_append]
    refine List.nodup_append.mpr ⟨nd, by simp, ?_⟩
    intro a ha b hb
    rw [List.map_cons, List.map_nil, List.mem_singleton] at hb
    subst hb
    rintro rfl
    rw [List.contains_iff_mem.mpr ha] at hc; cases hc
def tDispN (P : Program) (w : World) (tk tv : TE) : TE := fun σ H Q => ∀ p, H p = none → tPairs [(tk, tv)] σ (upd H p (dn P w p [])) fun ps H2 => H2 p = some (dn P w p []) ∧ ∃ (q : Addr) (s : Spt), ps = [(.ref q, .bl true)] ∧ SpotAt H2 q s ∧ Q (.ref p) (upd H2 p (dn P w p [(s, q)]))
theorem pe_dispN {X : Cx} {pos : Pos} {k v : Expr} {tk tv : TE} (hu : X.A.units + 9 < cLine) (hk : PE X k tk) (hv : PE X v tv) : PE X (.Dict [some k] [v] pos) (tDispN X.prog X.w tk tv) where
  run pins s σ H Q I q := by
    have hn := HOk.fresh I.hok (Nat.le_refl s.heap.objs.size)
    have hm : (s.heap.objs.size == sysModules) = false := beq_eq_false_iff_ne.mpr (Ne.symm (Nat.ne_of_lt (L2.Inv.big I)))
    have I1 := L2.Inv.laid (t' := s.toks) (a := s.heap.objs.size) (o := dn X.prog X.w s.heap.objs.size []) (h' := s.heap.push { cls := Value.type "dict", data := Data.dict #[] }) I (fun b o z => Heap.get?_push_of_some _ z) (Nat.le_refl _) (dn_ok ⟨{ cls := Value.type "dict", data := Data.dict #[] }, #[], _, by heap_get, ⟨rfl, rfl, rfl⟩, rfl, rfl, List.nodup_nil, by decide, hm⟩)
    refine dict_pairsH (knd := nestedKind X.prog X.w) (pairs := pairTrees [some k] [v] X.env pos) (by show X.A.units + 8 < cLine; omega) rfl (by intro z; cases z) (by show 1 ≤ 15; decide) ?_
    refine thn ((pps_cons hk hv pps_nil).run pins _ σ _ _ I1 (q _ hn)) fun ws s2 x => ?_
    obtain ⟨ps, H2, I2, rel, e, q', sp, rfl, hq, q2⟩ := x
    obtain ⟨u1, u2, rfl, r1, r2⟩ : ∃ u1 u2, ws = [(u1, u2)] ∧ L2.RelV (.ref q') u1 ∧ L2.RelV (.bl true) u2 := by
      cases rel with
      | cons r rr => cases rr; exact ⟨_, _, rfl, r.1, r.2⟩
    cases r1
    obtain rfl : u2 = .bool true := r2
    have iq := spot_is I2 hq
    have D0 := dn_of (ks := []) I2 e (fun _ h => by cases h)
    refine ⟨[(sp.key, q', .bool true)], ?_, D0, fun h' tk' hd' sb => ?_⟩
    · unfold CarriesH
      exact ⟨rfl, rfl, iq, trivial⟩
    · have es : storedAllH ([] : List (NestedKey × Addr × Value)) [(sp.key, q', .bool true)] = ents [(sp, q')] := rfl
      rw [es] at hd'
      obtain ⟨o2, es2, ep2, g1, g2, g3, g4, g5, g6⟩ := hd'
      exact ⟨.ref s.heap.objs.size, _, d_write (t' := _) I2 (by rw [e]; trivial) sb ⟨_, g1⟩ (dn_ok ⟨o2, es2, ep2, g1, g2, g3, g4, by simp, (by show 1 ≤ sizeLine; decide), hm⟩), rfl, q2⟩
end Bw
end

section
set_option Elab.async false
set_option linter.all false
set_option maxRecDepth 100000
set_option maxHeartbeats 4000000
/-! The sum of a tuple. -/
namespace Bw
open PySem PySem.Spec PyProof.Rows L2
theorem preSum_sum (ns : List Int) : ∀ k, k ≤ ns.length → preSum (fun i => ns.getD i 0) k = (ns.take k).sum
  | 0, _ => by simp [preSum]
  | k + 1, h => by
    have ih := preSum_sum ns k (by omega)
    have e : ns.take (k + 1) = ns.take k ++ [ns.getD k 0] := by
      rw [List.take_add_one, List.getD_eq_getElem?_getD, List.getElem?_eq_getElem (by omega)]; rfl
    rw [e, List.sum_append]
    show preSum (fun i => ns.getD i 0) k + ns.getD k 0 = _
    rw [ih]; simp
theorem cr_sumT {X : Cx} {K : PySem.W.Frag} (hK : X.K = K) (hc : X.calm = true) : CallR X (.builtin "sum") fun vs H Q => ∃ (a : Addr) (ns : List Int), vs = [V.ref a] ∧ SqT K H a (ns.map V.int) ∧ Q (.int ns.sum) H := by
  subst hK
  intro pins s σ H vs us Q I r h
  obtain ⟨a, ns, rfl, hs, q⟩ := h
  obtain ⟨u, rfl, ru⟩ := L2.vals1 r
  cases ru
  obtain ⟨its, rv, p, hz⟩ := L2.Inv.tuple I hs
  have la : a < s.heap.objs.size := by obtain ⟨o, ho, _⟩ := p; exact Heap.lt_size ho
  have ln : its.length = ns.length := by have := Vals.length rv; rw [List.length_map] at this; exact this.symm
  refine call_sum_walkG (wpAny_pyIter_tuple p ?_)
  refine ⟨s.heap.objs.size, [s.heap.objs.size, a], [s.heap.objs.size], its.toArray.size, _, _, fun i => ns.getD i 0, rfl, Walks.tuple (A := X.A.in1) (I.ok.hd hc) s.heap.objs.size a (Nat.ne_of_lt la) its.toArray, ⟨⟨_, by heap_get, rfl, rfl⟩, ?_⟩, ?_, ?_, ?_⟩
  · obtain ⟨o, ho, r2⟩ := p
    exact ⟨o, Heap.get?_push_of_some _ ho, r2⟩
  · intro b hb
    have : (s.heap.push { cls := Value.type "tuple_iterator", data := Data.fields #[Value.ref a, Value.int 0 0] }).objs.size = s.heap.objs.size + 1 := by simp [Heap.push]
    show b < (s.heap.push _).objs.size
    rw [this]
    simp only [List.mem_cons, List.not_mem_nil, or_false] at hb
    rcases hb with e | e <;> subst e
    · exact Nat.lt_succ_self _
    · exact Nat.lt_succ_of_lt la
  · intro i v hv
    have hv' : its[i]? = some v := by simpa using hv
    have hi : i < ns.length := by have := (List.getElem?_eq_some_iff.mp hv').1; omega
    obtain ⟨u, hu, ru⟩ := Vals.get rv (x := V.int ns[i]) (i := i) (by rw [List.getElem?_map, List.getElem?_eq_getElem hi]; rfl)
    rw [hv'] at hu
    cases hu
    obtain ⟨t, rfl⟩ := ru
    refine ⟨t, ?_⟩
    show Value.int ns[i] t = Value.int (ns.getD i 0) t
    rw [List.getD_eq_getElem?_getD, List.getElem?_eq_getElem hi]; rfl
  · intro h' tk t' hk
    have I2 := L2.Inv.kept (t' := tk) I (h' := h') fun b o ho => hk b o (by simpa using Nat.ne_of_lt (Heap.lt_size ho)) (Heap.get?_push_of_some _ ho)
    refine ⟨.int ns.sum, H, I2, ⟨t', ?_⟩, q⟩
    have e : its.toArray.size = ns.length := by simpa using ln
    rw [e, preSum_sum ns ns.length (Nat.le_refl _), List.take_length]
end Bw
end

section
set_option Elab.async false
set_option linter.all false
set_option maxRecDepth 100000
set_option maxHeartbeats 4000000
namespace Bw
open PySem PySem.Spec PyProof.Rows L2 TL
section
variable {P : Program} {w : World} {K : PySem.W.Frag} {mg : Str → Option Value} {base : Heap}
theorem str_ext {x y : Str} (h : tl x = tl y) : x = y := by
  obtain ⟨⟨a⟩⟩ := x
  obtain ⟨⟨b⟩⟩ := y
  have : a = b := h
  rw [this]
def sp_sign_of : Sp := sp1 fun a H Q _ => ∃ n : Nat, n ≤ 255 ∧ a = .int n ∧ Q (.str (S [sg n])) H
theorem let_at : ∀ k : Fin 26, (Str.ofString "abcdefghijklmnopqrstuvwxyz").cps.toList[k.val]? = some (97 + k.val) := by decide +kernel
theorem dig_at : ∀ k : Fin 10, (Str.ofString "0123456789").cps.toList[k.val]? = some (48 + k.val) := by decide +kernel
theorem sg_self {n : Nat} (h : n = 10 ∨ n = 32 ∨ (97 ≤ n ∧ n ≤ 122) ∨ (48 ≤ n ∧ n ≤ 57)) : sg n = n := if_pos h
theorem sg_else {n : Nat} (h : ¬ (n = 10 ∨ n = 32 ∨ (97 ≤ n ∧ n ≤ 122) ∨ (48 ≤ n ∧ n ≤ 57))) : sg n = 63 := if_neg h
theorem ok_sign_of (Z : Tx w K mg) : Cal P w K mg base CX0 1 (He.fAd K ("sign_of", none)) ["byte"] (sp_sign_of) := by
  obtain ⟨fd, F⟩ := Z.fd_sign_of
  refine ⟨⟨fd, F.ok sc_sign_of (fun vs H Q E h => ?_) (fun cdv A outer s H vs Q E hr h => ?_), F.bindsN fun _ _ _ _ _ _ us hl => match us, hl with | [_], _ => rfl⟩, F.kp⟩
  · exact sp1_len h
  have sc := sc_sign_of
  have nd : N_sign_of.Nodup := sc.nd
  replace h := sp1_get h
  obtain ⟨v_byte, rfl, h⟩ := h
  refine ⟨_, PSs.nox (by exact ((pss_cons (ps_if (pt_cmpR op_eq (pv 0) pe_int (nomark _)) (pss_one (ps_ret pe_str)) pss_nil)
 (pss_cons (ps_if (pt_cmpR op_eq (pv 0) pe_int (nomark _)) (pss_one (ps_ret pe_str)) pss_nil)
 (pss_cons (ps_if (pt_chain op_le op_le pe_int (pv 0) pe_int) (pss_one (ps_ret (pe_ix ix_str (pe_gs rfl Z.g_LETTERS) (pe_op op_sub (pv 0) pe_int) (fun _ _ => rfl)))) pss_nil)
 (pss_cons (ps_if (pt_chain op_le op_le pe_int (pv 0) pe_int) (pss_one (ps_ret (pe_ix ix_str (pe_gs rfl Z.g_DIGITS) (pe_op op_sub (pv 0) pe_int) (fun _ _ => rfl)))) pss_nil)
 (pss_one (ps_ret (pe_gs rfl Z.g_OTHER))))))))), ?_⟩
  obtain ⟨n, hn, rfl, h⟩ := h
  simp [cxK, cxKn, Cx.nox, wipe, PySem.Str.mk.injEq, exists_eq_left', tCall, rI, rU, CMul, tSeq, tIfS, tTest, tOp, tVar, tC, rEq, rNe, tRet, tRetN, tNext, tChain, rI0, tCB, tCons, tNil, tIf, tB, tAnd, tOr, tNot, tAndV, tOrV, tNotV, tDrop, tUn, tAsg, gName, L2.start, List.length_cons, List.length_nil, List.map_cons, List.map_nil, List.cons_append, List.nil_append, List.getElem?_cons_zero, List.getElem?_cons_succ, List.set_cons_zero, List.set_cons_succ, Nat.sub_self, List.replicate_zero, List.replicate_succ, Nat.succ_sub_succ, Nat.reduceSub, Nat.reduceAdd, Nat.reduceLT, Option.some.injEq, exists_eq_left, exists_and_left, exists_eq, V.bl.injEq, V.int.injEq, V.str.injEq, V.ref.injEq, and_true, true_and, scal, exists_eq', decide_eq_true_eq, if_false_left, reduceIte, Bool.false_eq_true, ite_true, ite_false, N_sign_of, rIxS]
  have hl : ∀ m : Nat, 97 ≤ m → m ≤ 122 → atI (Str.ofString "abcdefghijklmnopqrstuvwxyz").cps.toList ((m : Int) - 97) = some m := fun m h1 h2 => by
    have e := atI_nat (let_at ⟨m - 97, by omega⟩)
    simp only at e
    rw [show ((m : Int) - 97) = ((m - 97 : Nat) : Int) by omega, e]
    congr 1; omega
  have hd : ∀ m : Nat, 48 ≤ m → m ≤ 57 → atI (Str.ofString "0123456789").cps.toList ((m : Int) - 48) = some m := fun m h1 h2 => by
    have e := atI_nat (dig_at ⟨m - 48, by omega⟩)
    simp only at e
    rw [show ((m : Int) - 48) = ((m - 48 : Nat) : Int) by omega, e]
    congr 1; omega
  refine if_intro (fun c => ?_) fun c1 => if_intro (fun c => ?_) fun c2 => if_intro (fun c3 => if_intro (fun c4 => ?_) fun c4 => if_intro (fun c5 => if_intro (fun c6 => ?_) fun c6 => ?_) fun c5 => ?_) fun c3 => if_intro (fun c5 => if_intro (fun c6 => ?_) fun c6 => ?_) fun c5 => ?_
  · rw [sg_self (by omega)] at h
    obtain rfl : n = 10 := by omega
    exact h
  · rw [sg_self (by omega)] at h
    obtain rfl : n = 32 := by omega
    exact h
  · rw [sg_self (by omega)] at h
    exact ⟨by decide +kernel, n, hl n (by omega) (by omega), h⟩
  all_goals first
    | (rw [sg_self (by omega)] at h; exact ⟨by decide +kernel, n, hd n (by omega) (by omega), h⟩)
    | (rw [sg_else (by omega)] at h; exact h)
/-! ### the refusals -/
def sp_Refusal_init (K : PySem.W.Frag) : Sp := sp2 fun a b H Q _ => ∃ (p : Addr) (n : Int), a = .ref p ∧ b = .int n ∧ Made K p n H Q
def sp_NoText_init (K : PySem.W.Frag) : Sp := sp1 fun a H Q _ => ∃ p : Addr, a = .ref p ∧ Made K p (-1) H Q
def sp_WrongWorks_init (K : PySem.W.Frag) : Sp := sp3 fun a b c H Q _ => ∃ (p : Addr) (l k : Int), a = .ref p ∧ b = .int l ∧ c = .int k ∧ (-(2 ^ 60) < l ∧ l < 2 ^ 60) ∧ Made K p (-1000 - (100 * l + k)) H Q
def sp_WrongRecipes_init (K : PySem.W.Frag) : Sp := sp1 fun a H Q _ => ∃ p : Addr, a = .ref p ∧ Made K p (-1008) H Q
theorem ok_Refusal_init (Z : Tx w K mg) : Cal P w K mg base CX0 1 (He.fAd K ("Refusal", some "__init__")) ["self", "number"] (sp_Refusal_init K) := by
  obtain ⟨fd, F⟩ := Z.fd_Refusal_init
  refine ⟨⟨fd, F.ok sc_Refusal_init (fun vs H Q E h => ?_) (fun cdv A outer s H vs Q E hr h => ?_), F.bindsN fun _ _ _ _ _ _ us hl => match us, hl with | [_, _], _ => rfl⟩, F.kp⟩
  · exact sp2_len h
  have sc := sc_Refusal_init
  have nd : N_Refusal_init.Nodup := sc.nd
  replace h := sp2_get h
  obtain ⟨v_self, v_number, rfl, h⟩ := h
  refine ⟨_, PSs.nox (by exact ((pss_one (ps_num (pv 0) (pv 1))))), ?_⟩
  obtain ⟨p, n, rfl, rfl, C, x, e, k⟩ := h
  exact ⟨_, rfl, _, rfl, p, C, rfl, x, e, fun dx n1 n2 => k dx n1 n2⟩
theorem ok_NoText_init (Z : Tx w K mg) : Cal P w K mg base CX0 2 (He.fAd K ("NoText", some "__init__")) ["self"] (sp_NoText_init K) := by
  obtain ⟨fd, F⟩ := Z.fd_NoText_init
  have c_Refusal_init := ok_Refusal_init (P := P) (w := w) (base := base) Z
  refine ⟨⟨fd, F.ok sc_NoText_init (fun vs H Q E h => ?_) (fun cdv A outer s H vs Q E hr h => ?_), F.bindsN fun _ _ _ _ _ _ us hl => match us, hl with | [_], _ => rfl⟩, F.kp⟩
  · exact sp1_len h
  have sc := sc_NoText_init
  have nd : N_NoText_init.Nodup := sc.nd
  replace h := sp1_get h
  obtain ⟨v_self, rfl, h⟩ := h
  refine ⟨_, PSs.nox (by exact ((pss_one (ps_expr (pe_baseC (E := E0) Z.ci_Refusal c_Refusal_init (hr.mono (by decide)) rfl Z.g_Refusal pass0 (pa_cons (pv 0) (pa_cons (pe_un un_neg pe_int) pa_nil))))))), ?_⟩
  obtain ⟨p, rfl, h⟩ := h
  exact ⟨_, rfl, 1, rfl, _, _, rfl, p, -1, rfl, rfl, h⟩
theorem ok_WrongWorks_init (Z : Tx w K mg) : Cal P w K mg base CX0 2 (He.fAd K ("WrongWorks", some "__init__")) ["self", "line", "kind"] (sp_WrongWorks_init K) := by
  obtain ⟨fd, F⟩ := Z.fd_WrongWorks_init
  have c_Refusal_init := ok_Refusal_init (P := P) (w := w) (base := base) Z
  refine ⟨⟨fd, F.ok sc_WrongWorks_init (fun vs H Q E h => ?_) (fun cdv A outer s H vs Q E hr h => ?_), F.bindsN fun _ _ _ _ _ _ us hl => match us, hl with | [_, _, _], _ => rfl⟩, F.kp⟩
  · exact sp3_len h
  have sc := sc_WrongWorks_init
  have nd : N_WrongWorks_init.Nodup := sc.nd
  replace h := sp3_get h
  obtain ⟨v_self, v_line, v_kind, rfl, h⟩ := h
  refine ⟨_, PSs.nox (by exact ((pss_one (ps_expr (pe_baseC (E := E0) Z.ci_Refusal c_Refusal_init (hr.mono (by decide)) rfl Z.g_Refusal pass0 (pa_cons (pv 0) (pa_cons (pe_op op_sub (pe_un un_neg pe_int) (pe_op op_add (pe_op op_mul pe_int (pv 1)) (pv 2))) pa_nil))))))), ?_⟩
  obtain ⟨p, l, k, rfl, rfl, rfl, hl, h⟩ := h
  simp [cxK, cxKn, Cx.nox, wipe, PySem.Str.mk.injEq, exists_eq_left', tCall, rI, rU, CMul, tSeq, tIfS, tTest, tOp, tVar, tC, rEq, rNe, tRet, tRetN, tNext, tChain, rI0, tCB, tCons, tNil, tIf, tB, tAnd, tOr, tNot, tAndV, tOrV, tNotV, tDrop, tUn, tAsg, gName, L2.start, List.length_cons, List.length_nil, List.map_cons, List.map_nil, List.cons_append, List.nil_append, List.getElem?_cons_zero, List.getElem?_cons_succ, List.set_cons_zero, List.set_cons_succ, Nat.sub_self, List.replicate_zero, List.replicate_succ, Nat.succ_sub_succ, Nat.reduceSub, Nat.reduceAdd, Nat.reduceLT, Option.some.injEq, exists_eq_left, exists_and_left, exists_eq, V.bl.injEq, V.int.injEq, V.str.injEq, V.ref.injEq, and_true, true_and, scal, exists_eq', decide_eq_true_eq, if_false_left, reduceIte, Bool.false_eq_true, ite_true, ite_false, N_WrongWorks_init]
  exact ⟨_, _, rfl, p, _, rfl, rfl, h⟩
theorem ok_WrongRecipes_init (Z : Tx w K mg) : Cal P w K mg base CX0 3 (He.fAd K ("WrongRecipes", some "__init__")) ["self"] (sp_WrongRecipes_init K) := by
  obtain ⟨fd, F⟩ := Z.fd_WrongRecipes_init
  have c_WrongWorks_init := ok_WrongWorks_init (P := P) (w := w) (base := base) Z
  refine ⟨⟨fd, F.ok sc_WrongRecipes_init (fun vs H Q E h => ?_) (fun cdv A outer s H vs Q E hr h => ?_), F.bindsN fun _ _ _ _ _ _ us hl => match us, hl with | [_], _ => rfl⟩, F.kp⟩
  · exact sp1_len h
  have sc := sc_WrongRecipes_init
  have nd : N_WrongRecipes_init.Nodup := sc.nd
  replace h := sp1_get h
  obtain ⟨v_self, rfl, h⟩ := h
  refine ⟨_, PSs.nox (by exact ((pss_one (ps_expr (pe_baseC (E := E0) Z.ci_WrongWorks c_WrongWorks_init (hr.mono (by decide)) rfl Z.g_WrongWorks pass0 (pa_cons (pv 0) (pa_cons pe_int (pa_cons pe_int pa_nil)))))))), ?_⟩
  obtain ⟨p, rfl, h⟩ := h
  exact ⟨_, rfl, _, _, _, rfl, p, 0, 8, rfl, rfl, rfl, by decide, h⟩
/-! ### texts -/
theorem join_signs (ns : List Int) : Txt.join (Str.ofString "") (ns.map fun n => S [sg n.toNat]) = S ((Vbwbzz.nats ns).map sg) := by
  have key : ∀ l : List Int, joinL [] (l.map fun n => [sg n.toNat]) = l.map fun n => sg n.toNat := by
    intro l
    induction l with
    | nil => rfl
    | cons x r ih =>
      cases r with
      | nil => rfl
      | cons y r => show [sg x.toNat] ++ ([] ++ joinL [] ((y :: r).map fun n => [sg n.toNat])) = _; rw [ih]; rfl
  have e : tl (Txt.join (Str.ofString "") (ns.map fun n => S [sg n.toNat])) = tl (S ((Vbwbzz.nats ns).map sg)) := by
    unfold Txt.join
    rw [StrLaws.glued_eq_join, tl_join, List.map_map]
    show joinL [] (ns.map fun n => [sg n.toNat]) = _
    rw [key]
    show _ = ((Vbwbzz.nats ns).map sg)
    unfold Vbwbzz.nats
    rw [List.map_map]; rfl
  exact str_ext e
def sp_text_of (K : PySem.W.Frag) : Sp := sp2 fun a b H Q E => ∃ (p : Addr) (ns : List Int) (most : Nat), a = .ref p ∧ b = .int most ∧ SqL K H p (ns.map V.int) ∧ ns.length ≤ 60000 ∧
  (Vbwbzz.bytesOk ns most = false → Rz K (-1) E) ∧ (Vbwbzz.bytesOk ns most = true → ∀ H', Same H H' → Q (.str (S ((Vbwbzz.nats ns).map sg))) H')
theorem ok_text_of (Z : Tx w K mg) : Cal P w K mg base (L2.CX P w) 4 (He.fAd K ("text_of", none)) ["numbers", "most"] (sp_text_of K) := by
  obtain ⟨fd, F⟩ := Z.fd_text_of
  have c_NoText_init := ok_NoText_init (P := P) (w := w) (base := base) Z
  have c_sign_of := ok_sign_of (P := P) (w := w) (base := base) Z
  refine ⟨⟨fd, F.ok sc_text_of (fun vs H Q E h => ?_) (fun cdv A outer s H vs Q E hr h => ?_), F.bindsN fun _ _ _ _ _ _ us hl => match us, hl with | [_, _], _ => rfl⟩, F.kp⟩
  · exact sp2_len h
  have sc := sc_text_of
  have nd : N_text_of.Nodup := sc.nd
  replace h := sp2_get h
  obtain ⟨v_numbers, v_most, rfl, h⟩ := h
  refine ⟨_, by exact ((pss_cons (ps_if (pt_cmpR op_gt (pe_callB call_len_seq (by rfl) Z.b_len (by decide +kernel) (pa_cons (pv 0) pa_nil)) (pv 1) (nomark _)) (pss_one (ps_raise rfl (takes_of rfl rfl rfl rfl) (pmk_ecC0 Z.x_NoText Z.in_NoText Z.fn_NoText c_NoText_init (hr.mono (by decide)) pass0 rfl Z.g_NoText))) pss_nil)
 (pss_cons (ps_set (i := 2) nd rfl (by first | exact Or.inl rfl | exact Or.inr rfl) (pe_lst pa_nil))
 (pss_cons (ps_for (passes_of rfl) rfl (pi_list (pv 0)) (pg_name (i := 3) nd rfl (by first | exact Or.inl rfl | exact Or.inr rfl)) (pss_cons (ps_if (PW.pt (pw_or (pt_cmpR op_lt (pv 3) pe_int (nomark _)) (pw_or1 (pt_cmpR op_gt (pv 3) pe_int (nomark _))))) (pss_one (ps_raise rfl (takes_of rfl rfl rfl rfl) (pmk_ecC0 Z.x_NoText Z.in_NoText Z.fn_NoText c_NoText_init (hr.mono (by decide)) pass0 rfl Z.g_NoText))) pss_nil)
 (pss_one (ps_expr (pe_bm PySem.F.plainAttrs_list PySem.F.slot_list_append PySem.F.type_list_append mt_append (pv 2) (pa_cons (pe_calC (E := E0) c_sign_of (hr.mono (by decide)) rfl Z.g_sign_of pass0 (pa_cons (pv 3) pa_nil)) pa_nil))))))
 (pss_one (ps_ret (pe_join pe_str (pv 2)))))))), ?_⟩
  obtain ⟨p, ns, most, rfl, rfl, hS, hl, hE, hQ⟩ := h
  refine ⟨_, rfl, p, _, rfl, .inl hS, _, rfl, _, _, rfl, rfl, _, rfl, ?_⟩
  rw [List.length_map]
  refine if_intro (fun c => ?_) fun c => ?_
  · have c' : ¬ ns.length ≤ most := by have := of_decide_eq_true c; omega
    have hR := hE (by unfold Vbwbzz.bytesOk; rw [decide_eq_false c', Bool.false_and])
    exact ⟨by decide, fun a ha => ⟨_, rfl, a, rfl, rz_made hR Z.x_NoText Z.em_NoText ha⟩⟩
  have c' : ns.length ≤ most := by have := mt decide_eq_true c; omega
  refine ⟨by decide, fun d hd => ?_⟩
  refine ⟨_, rfl, p, rfl, ⟨_, (same_new hd).seq hS⟩, for_list (K := K) (a := p) (xs := ns.map V.int) (fun i σ H' => ∃ v : Option V, σ = [some (.ref p), some (.int most), some (.ref d), v] ∧ Same H H' ∧
    H' d = some (.lst (((ns.take i).map fun n => V.str (S [sg n.toNat])))) ∧ ∀ n ∈ ns.take i, 0 ≤ n ∧ n ≤ 255) ⟨none, rfl, same_new hd, upd_same, by simp⟩ (fun i σ H' _ ⟨_, _, s5, _⟩ => s5.seq hS) ?_ ?_⟩
  · rintro i y σ H' hi ⟨v, rfl, s5, hD, hB⟩
    obtain ⟨n, hn, rfl⟩ : ∃ n, ns[i]? = some n ∧ y = V.int n := by
      rw [List.getElem?_map] at hi
      cases e : ns[i]? with
      | none => rw [e] at hi; cases hi
      | some n => rw [e] at hi; exact ⟨n, rfl, (Option.some.inj hi).symm⟩
    have tk : ns.take (i + 1) = ns.take i ++ [n] := by rw [List.take_succ, hn]; rfl
    have bad : ¬ (0 ≤ n ∧ n ≤ 255) → Rz K (-1) E := fun hb => hE (by
      unfold Vbwbzz.bytesOk
      rw [Bool.and_eq_false_iff]
      refine .inr (Bool.eq_false_iff.mpr fun z => hb ?_)
      have q := List.all_eq_true.mp z n (List.mem_of_getElem? hn)
      unfold Vbwbzz.within at q
      rw [Bool.and_eq_true] at q
      exact ⟨of_decide_eq_true q.1, of_decide_eq_true q.2⟩)
    simp [cxK, cxKn, Cx.nox, wipe, PySem.Str.mk.injEq, exists_eq_left', tCall, rI, rU, CMul, tSeq, tIfS, tTest, tOp, tVar, tC, rEq, rNe, tRet, tRetN, tNext, tChain, rI0, tCB, tCons, tNil, tIf, tB, tAnd, tOr, tNot, tAndV, tOrV, tNotV, tDrop, tUn, tAsg, gName, L2.start, List.length_cons, List.length_nil, List.map_cons, List.map_nil, List.cons_append, List.nil_append, List.getElem?_cons_zero, List.getElem?_cons_succ, List.set_cons_zero, List.set_cons_succ, Nat.sub_self, List.replicate_zero, List.replicate_succ, Nat.succ_sub_succ, Nat.reduceSub, Nat.reduceAdd, Nat.reduceLT, Option.some.injEq, exists_eq_left, exists_and_left, exists_eq, V.bl.injEq, V.int.injEq, V.str.injEq, V.ref.injEq, and_true, true_and, scal, exists_eq', decide_eq_true_eq, if_false_left, reduceIte, Bool.false_eq_true, ite_true, ite_false, tFor, gName]
    refine if_intro (fun c0 => ?_) fun c0 => if_intro (fun c1 => ?_) fun c1 => ?_
    · exact ⟨by decide, fun a ha => ⟨_, rfl, a, rfl, rz_made (bad (by omega)) Z.x_NoText Z.em_NoText ha⟩⟩
    · exact ⟨by decide, fun a ha => ⟨_, rfl, a, rfl, rz_made (bad (by omega)) Z.x_NoText Z.em_NoText ha⟩⟩
    have z0 : 0 ≤ n := by omega
    refine ⟨_, rfl, .inl ⟨rfl, _, SqL.of hD⟩, _, rfl, _, rfl, n.toNat, by omega, by rw [Int.toNat_of_nonneg z0], d, _, _, rfl, rfl, hD, ?_, ?_, ?_, ?_⟩
    · rw [List.length_map, List.length_take]; exact line_lt (by omega)
    · exact same_upd s5 hd
    · rw [upd_same, ← List.map_take, tk, List.map_append]; rfl
    · intro m hm
      rw [tk, List.mem_append] at hm
      rcases hm with hm | hm
      · exact hB m hm
      · rw [List.mem_singleton] at hm; subst hm; omega
  · rintro σ H' ⟨v, rfl, s5, hD, hB⟩
    rw [List.length_map, List.take_length] at hD hB
    have ok : Vbwbzz.bytesOk ns most = true := by
      unfold Vbwbzz.bytesOk
      rw [Bool.and_eq_true]
      refine ⟨decide_eq_true c', List.all_eq_true.mpr fun n hn => ?_⟩
      unfold Vbwbzz.within
      rw [decide_eq_true (hB n hn).1, decide_eq_true (hB n hn).2]; rfl
    have ej : Txt.join (Str.ofString "") (ns.map fun n => S [sg n.toNat]) = S ((Vbwbzz.nats ns).map sg) := join_signs ns
    refine ⟨⟨_, rfl⟩, _, rfl, _, d, ns.map fun n => S [sg n.toNat], rfl, rfl, .inl (SqL.of (by rw [hD, List.map_map]; rfl)), ?_, ?_⟩
    · have : ∀ l : List Int, ((l.map fun n => S [sg n.toNat]).map (·.length)).sum = l.length := by
        intro l
        induction l with
        | nil => rfl
        | cons x r ih => simp only [List.map_cons, List.sum_cons, ih, List.length_cons]; show 1 + r.length = _; omega
      rw [this]
      show ns.length + _ * 0 ≤ _
      omega
    · rw [ej]
      exact hQ ok H' s5
/-- what str of a value tells -/
inductive TxV : V → List Nat → Prop
  | str (t : List Nat) : TxV (.str (S t)) t
  | int (n : Nat) (h : n < 2 ^ 200) : TxV (.int n) (Vbwbzz.decimal n)
inductive TxL : List V → List (List Nat) → Prop
  | nil : TxL [] []
  | cons {x : V} {t : List Nat} {xs : List V} {ts : List (List Nat)} (h : TxV x t) (r : TxL xs ts) : TxL (x :: xs) (t :: ts)
theorem TxL.len {xs : List V} {ts : List (List Nat)} (h : TxL xs ts) : xs.length = ts.length := by
  induction h with
  | nil => rfl
  | cons _ _ ih => simp [ih]
theorem TxL.at_ {xs : List V} {ts : List (List Nat)} (h : TxL xs ts) : ∀ {i : Nat} {x : V} {t : List Nat}, xs[i]? = some x → ts[i]? = some t → TxV x t := by
  induction h with
  | nil => intro i x t h1; simp at h1
  | cons h r ih =>
    intro i x t h1 h2
    cases i with
    | zero => simp at h1 h2; subst h1 h2; exact h
    | succ i => simp at h1 h2; exact ih h1 h2
theorem TxL.app {xs ys : List V} {ts us : List (List Nat)} (h : TxL xs ts) (g : TxL ys us) : TxL (xs ++ ys) (ts ++ us) := by
  induction h with
  | nil => exact g
  | cons h _ ih => exact .cons h ih
theorem TxL.strs : ∀ ts : List (List Nat), TxL (ts.map fun t => V.str (S t)) ts
  | [] => .nil
  | t :: r => .cons (.str t) (TxL.strs r)
theorem log2_le {n : Nat} (h : n < 2 ^ 200) : n.log2 < 1920 := by
  by_cases e : n = 0
  · subst e; decide
  · rw [Nat.log2_lt e]
    exact Nat.lt_of_lt_of_le h (Nat.pow_le_pow_right (by decide) (by decide))
theorem call_strV {X : Cx} : CallR X (.type "str") (fun xs H Q => ∃ x t, xs = [x] ∧ TxV x t ∧ Q (.str (S t)) H) := by
  intro pins s σ H xs us Q I r h
  obtain ⟨x, t, rfl, ht, q⟩ := h
  cases ht with
  | str t =>
    obtain ⟨u, rfl, t, rfl⟩ := vals1 r
    exact PySem.P.str_of_str ⟨.str _, H, I, ⟨t, rfl⟩, q⟩
  | int n hn =>
    have e : (toString (n : Int) : Str) = S (Vbwbzz.decimal n) := str_ext (tl_ofString (toString n))
    rw [← e] at q
    exact call_str_int pins s σ H [.int n] us Q I r ⟨n, rfl, log2_le hn, q⟩
theorem joinL_joined : ∀ ts : List (List Nat), joinL [32] ts = Vbwbzz.joined ts := by
  have key : ∀ (ts : List (List Nat)) (a : List Nat), ts.foldl (fun a x => a ++ (32 :: x)) a = joinL [32] (a :: ts) := by
    intro ts
    induction ts with
    | nil => intro a; rfl
    | cons x r ih =>
      intro a
      rw [List.foldl_cons, ih]
      cases r with
      | nil => simp [joinL]
      | cons y r => simp [joinL]
  intro ts
  cases ts with
  | nil => rfl
  | cons w r => exact (key r w).symm
theorem join_line (ts : List (List Nat)) : Txt.join (Str.ofString " ") (ts.map S) = S (Vbwbzz.joined ts) := by
  apply str_ext
  unfold Txt.join
  rw [StrLaws.glued_eq_join, tl_join, List.map_map]
  have : (tl ∘ S : List Nat → List Nat) = id := rfl
  rw [this, List.map_id]
  exact joinL_joined ts
def sp_line_of : Sp := sp1 fun a H Q _ => ∃ (l : Addr) (xs : List V) (ts : List (List Nat)), a = .ref l ∧ H l = some (.lst xs) ∧ TxL xs ts ∧ ts.length ≤ 100000 ∧ (ts.map (·.length)).sum ≤ 1000000 ∧ ∀ H', Same H H' → Q (.str (S (Vbwbzz.joined ts))) H'
theorem ok_line_of (Z : Tx w K mg) : Cal P w K mg base CX0 1 (He.fAd K ("line_of", none)) ["words"] (sp_line_of) := by
  obtain ⟨fd, F⟩ := Z.fd_line_of
  refine ⟨⟨fd, F.ok sc_line_of (fun vs H Q E h => ?_) (fun cdv A outer s H vs Q E hr h => ?_), F.bindsN fun _ _ _ _ _ _ us hl => match us, hl with | [_], _ => rfl⟩, F.kp⟩
  · exact sp1_len h
  have sc := sc_line_of
  have nd : N_line_of.Nodup := sc.nd
  replace h := sp1_get h
  obtain ⟨v_words, rfl, h⟩ := h
  refine ⟨_, PSs.nox (by exact ((pss_one (ps_ret (pe_join pe_str (pe_lc (own := [("word", 1)]) (g := (gName 1)) rfl nd (pi_list (pv 0)) (blkOk_by (own := [("word", 1)]) (N := N_line_of) (sc := defScope s_line_of) (by decide +kernel)) (fun _ _ _ _ _ => (pg_name (i := 1) nd rfl (by first | exact Or.inl rfl | exact Or.inr rfl))) (fun _ _ _ _ _ => pts_nil) (fun _ _ _ _ _ => (pe_callTy call_strV (by rfl) Z.b_str (by decide +kernel) (pa_cons (pv 1) pa_nil))))))))), ?_⟩
  obtain ⟨l, xs, ts, rfl, hl, hT, hn, hs, hQ⟩ := h
  have el := hT.len
  refine ⟨⟨_, rfl⟩, _, rfl, l, rfl, ⟨_, SqL.of hl⟩, fun D hD => lc_fn (walk_list (xs := xs)) (fun i => .str (S (ts.getD i []))) hD (fun H2 s2 => s2.seq (SqL.of hl)) (by rw [el]; exact line_lt hn) ?_ ?_⟩
  · rintro i x H2 H3 R hi s2 ⟨rfl, hx⟩ k
    have hg : ts[i]? = some (ts[i]'(by omega)) := List.getElem?_eq_getElem (by omega)
    have ev : ts.getD i [] = ts[i]'(by omega) := by rw [List.getD, hg]; rfl
    rw [ev] at k
    exact ⟨rfl, _, rfl, _, _, rfl, hT.at_ hx hg, k _ (Same.refl _)⟩
  intro H2 s2 hD2
  have em : (List.range xs.length).map (fun i => V.str (S (ts.getD i []))) = (ts.map S).map V.str := by
    rw [el, List.map_map]
    exact range_map ts (fun t => V.str (S t)) []
  refine ⟨_, D, ts.map S, rfl, rfl, .inl (SqL.of (by rw [hD2, em])), ?_, ?_⟩
  · rw [List.map_map, List.length_map]
    have e1 : ((fun x : Str => x.length) ∘ S) = fun t : List Nat => t.length := by funext t; show (S t).length = _; rw [len_tl]; rfl
    have e2 : (Str.ofString " ").length = 1 := by decide
    show (ts.map ((fun x : Str => x.length) ∘ S)).sum + _ ≤ _
    rw [e1, e2]; omega
  · rw [join_line]
    exact hQ H2 s2
/-! ### names, numbers -/
theorem S_inj {a b : List Nat} (h : S a = S b) : a = b := by
  have := congrArg tl h
  exact this
theorem S_eq {a b : List Nat} : S a = S b ↔ a = b := ⟨S_inj, fun h => by rw [h]⟩
theorem inV_S (l : List Nat) : ∀ ks : List (List Nat), inV (.str (S l)) (ks.map fun k => .str (S k)) = ks.contains l
  | [] => rfl
  | k :: r => by
    have ih := inV_S l r
    unfold inV at ih ⊢
    rw [List.map_cons, List.any_cons, ih, List.contains_cons]
    congr 1
    show decide (S k = S l) = (l == k)
    by_cases h : l = k
    · subst h; simp
    · rw [decide_eq_false (fun z => h (S_inj z).symm)]; simp [h]
theorem flat_S (ks : List (List Nat)) : (ks.map fun k => V.str (S k)).all flatV = true := by
  rw [List.all_map]; exact List.all_eq_true.mpr fun _ _ => rfl
theorem mem_letters (c : Nat) : decide (c ∈ (Str.ofString "abcdefghijklmnopqrstuvwxyz").cps.toList) = Vbwbab.letter c := by
  have e : (Str.ofString "abcdefghijklmnopqrstuvwxyz").cps.toList = (List.range 26).map fun k => 97 + k := by decide +kernel
  rw [e]
  unfold Vbwbab.letter
  rw [decide_eq_decide, List.mem_map]
  constructor
  · rintro ⟨k, hk, rfl⟩; rw [List.mem_range] at hk; omega
  · intro h; exact ⟨c - 97, by rw [List.mem_range]; omega, by omega⟩
theorem mem_digits (c : Nat) : decide (c ∈ (Str.ofString "0123456789").cps.toList) = Vbwbab.digit c := by
  have e : (Str.ofString "0123456789").cps.toList = (List.range 10).map fun k => 48 + k := by decide +kernel
  rw [e]
  unfold Vbwbab.digit
  rw [decide_eq_decide, List.mem_map]
  constructor
  · rintro ⟨k, hk, rfl⟩; rw [List.mem_range] at hk; omega
  · intro h; exact ⟨c - 48, by rw [List.mem_range]; omega, by omega⟩
theorem len_S (l : List Nat) : (S l).length = l.length := by rw [len_tl]; rfl
theorem range_list {α β : Type} (l : List α) (f : Nat → β) (g : α → β) (h : ∀ i x, l[i]? = some x → f i = g x) : (List.range l.length).map f = l.map g := by
  apply List.ext_getElem
  · simp
  · intro i h1 h2
    simp at h1 h2
    simp [h i _ (List.getElem?_eq_getElem h1)]
def sp_is_name : Sp := sp1 fun a H Q _ => ∃ l : List Nat, a = .str (S l) ∧ l ≠ [] ∧ l.length ≤ 100000 ∧ ∀ H', Same H H' → Q (.bl (Vbwbab.isName l)) H'
theorem kept_keys : ([.str "recipe", .str "end", .str "do", .str "takes", .str "to", .str "if", .str "then", .str "else", .str "either", .str "or", .str "both", .str "and", .str "again", .str "until", .str "use"] : List V) = Vbwbab.KEYS.map fun k => .str (S k) := by decide +kernel
theorem ok_is_name (Z : Tx w K mg) : Cal P w K mg base CX0 2 (He.fAd K ("is_name", none)) ["word"] (sp_is_name) := by
  obtain ⟨fd, F⟩ := Z.fd_is_name
  refine ⟨⟨fd, F.ok sc_is_name (fun vs H Q E h => ?_) (fun cdv A outer s H vs Q E hr h => ?_), F.bindsN fun _ _ _ _ _ _ us hl => match us, hl with | [_], _ => rfl⟩, F.kp⟩
  · exact sp1_len h
  have sc := sc_is_name
  have nd : N_is_name.Nodup := sc.nd
  replace h := sp1_get h
  obtain ⟨v_word, rfl, h⟩ := h
  refine ⟨_, PSs.nox (by exact ((pss_cons (ps_if (PW.pt (pw_or (pt_cmpR op_in_seq (pv 0) (pe_glob rfl Z.g_KEPT (v := .ref _) rfl) rfl) (pw_or (pt_cmpR op_gt (pe_callB call_len_str (by rfl) Z.b_len (by decide +kernel) (pa_cons (pv 0) pa_nil)) (pe_gi rfl Z.g_MOST_SIGNS) (nomark _)) (pw_or1 (pt_cmpR op_notIn_sign (pe_ix ix_str (pv 0) pe_int (fun _ _ => rfl)) (pe_gs rfl Z.g_LETTERS) rfl))))) (pss_one (ps_ret pe_bl)) pss_nil)
 (pss_one (ps_ret (pe_callB (cr_all rfl) (by rfl) Z.b_all (by decide +kernel) (pa_cons (pe_lc (own := [("sign", 1)]) (g := (gName 1)) rfl nd (pi_str (pv 0)) (blkOk_by (own := [("sign", 1)]) (N := N_is_name) (sc := defScope s_is_name) (by decide +kernel)) (fun _ _ _ _ _ => (pg_name (i := 1) nd rfl (by first | exact Or.inl rfl | exact Or.inr rfl))) (fun _ _ _ _ _ => pts_nil) (fun _ _ _ _ _ => (pe_or (pe_cmpR op_in_sign (pv 1) (pe_gs rfl Z.g_LETTERS) rfl) (pe_one (pe_cmpR op_in_sign (pv 1) (pe_gs rfl Z.g_DIGITS) rfl))))) pa_nil))))))), ?_⟩
  obtain ⟨l, rfl, hne, hl, h⟩ := h
  have hk := Z.t_KEPT H
  rw [kept_keys] at hk
  simp [cxK, cxKn, Cx.nox, wipe, PySem.Str.mk.injEq, exists_eq_left', tCall, rI, rU, CMul, tSeq, tIfS, tTest, tOp, tVar, tC, rEq, rNe, tRet, tRetN, tNext, tChain, rI0, tCB, tCons, tNil, tIf, tB, tAnd, tOr, tNot, tAndV, tOrV, tNotV, tDrop, tUn, tAsg, gName, L2.start, List.length_cons, List.length_nil, List.map_cons, List.map_nil, List.cons_append, List.nil_append, List.getElem?_cons_zero, List.getElem?_cons_succ, List.set_cons_zero, List.set_cons_succ, Nat.sub_self, List.replicate_zero, List.replicate_succ, Nat.succ_sub_succ, Nat.reduceSub, Nat.reduceAdd, Nat.reduceLT, Option.some.injEq, exists_eq_left, exists_and_left, exists_eq, V.bl.injEq, V.int.injEq, V.str.injEq, V.ref.injEq, and_true, true_and, scal, exists_eq', decide_eq_true_eq, if_false_left, reduceIte, Bool.false_eq_true, ite_true, ite_false, N_is_name, rIn, rIxS, len_S, mem_letters, mem_digits, V.str.injEq]
  have fin : ∀ {b : Bool}, b = Vbwbab.isName l → ∀ H', Same H H' → Q (.bl b) H' := fun e H' s' => e ▸ h H' s'
  obtain ⟨c0, r, rfl⟩ : ∃ c r, l = c :: r := by
    cases l with
    | nil => exact absurd rfl hne
    | cons c r => exact ⟨c, r, rfl⟩
  refine ⟨_, .inr hk, rfl, fun x hx => List.all_eq_true.mp (flat_S Vbwbab.KEYS) x hx, ?_⟩
  rw [inV_S]
  refine if_intro (fun c => fin ?_ H (Same.refl H)) fun c => ⟨line_of hl, if_intro (fun c1 => fin ?_ H (Same.refl H)) fun c1 => ⟨line_of hl, c0, atI_nat (j := 0) rfl, ?_⟩⟩
  · unfold Vbwbab.isName; rw [c]; simp
  · unfold Vbwbab.isName
    rw [decide_eq_false (show ¬ (c0 :: r).length ≤ 12 by omega)]; simp
  have hk' : Vbwbab.KEYS.contains (c0 :: r) = false := by simpa using c
  have main : Vbwbab.isName (c0 :: r) = (Vbwbab.letter c0 && (c0 :: r).all fun c => Vbwbab.letter c || Vbwbab.digit c) := by
    unfold Vbwbab.isName
    rw [hk', decide_eq_true (show (c0 :: r).length ≤ 12 by omega)]
    simp
  by_cases hc : Vbwbab.letter c0 = true
  · refine .inl ⟨by have := mem_letters c0; rw [hc] at this; simpa using of_decide_eq_true this, ?_⟩
    rw [hc, Bool.true_and] at main
    refine ⟨_, rfl, _, rfl, fun D hD => lc_fn walk_str (fun i => .bl ((c0 :: r)[i]?.any fun c => Vbwbab.letter c || Vbwbab.digit c)) hD (fun _ _ => trivial) (line_lt hl) ?_ ?_⟩
    · rintro i x H2 H3 R hi s2 ⟨rfl, d, hd, rfl⟩ k
      refine ⟨rfl, ?_⟩
      have e : (c0 :: r)[i]? = some d := by
        have : (S (c0 :: r)).cps.toList[i]? = some d := by rw [Array.getElem?_toList]; exact hd
        exact this
      rw [e] at k
      have k1 := k H3 (Same.refl H3)
      by_cases hl : Vbwbab.letter d = true
      · simp only [Option.any_some, hl, Bool.true_or] at k1
        have hm : d ∈ (Str.ofString "abcdefghijklmnopqrstuvwxyz").cps := by have := mem_letters d; rw [hl] at this; simpa using of_decide_eq_true this
        simp [cxK, cxKn, Cx.nox, wipe, PySem.Str.mk.injEq, exists_eq_left', tCall, rI, rU, CMul, tSeq, tIfS, tTest, tOp, tVar, tC, rEq, rNe, tRet, tRetN, tNext, tChain, rI0, tCB, tCons, tNil, tIf, tB, tAnd, tOr, tNot, tAndV, tOrV, tNotV, tDrop, tUn, tAsg, gName, L2.start, List.length_cons, List.length_nil, List.map_cons, List.map_nil, List.cons_append, List.nil_append, List.getElem?_cons_zero, List.getElem?_cons_succ, List.set_cons_zero, List.set_cons_succ, Nat.sub_self, List.replicate_zero, List.replicate_succ, Nat.succ_sub_succ, Nat.reduceSub, Nat.reduceAdd, Nat.reduceLT, Option.some.injEq, exists_eq_left, exists_and_left, exists_eq, V.bl.injEq, V.int.injEq, V.str.injEq, V.ref.injEq, and_true, true_and, scal, exists_eq', decide_eq_true_eq, if_false_left, reduceIte, Bool.false_eq_true, ite_true, ite_false, hm, k1]
      · have hl' : Vbwbab.letter d = false := by simpa using hl
        simp only [Option.any_some, hl', Bool.false_or] at k1
        have hm : ¬ d ∈ (Str.ofString "abcdefghijklmnopqrstuvwxyz").cps := by have := mem_letters d; rw [hl'] at this; simpa using of_decide_eq_false this
        have hd : decide (d ∈ (Str.ofString "0123456789").cps) = Vbwbab.digit d := by have := mem_digits d; simpa using this
        simp [cxK, cxKn, Cx.nox, wipe, PySem.Str.mk.injEq, exists_eq_left', tCall, rI, rU, CMul, tSeq, tIfS, tTest, tOp, tVar, tC, rEq, rNe, tRet, tRetN, tNext, tChain, rI0, tCB, tCons, tNil, tIf, tB, tAnd, tOr, tNot, tAndV, tOrV, tNotV, tDrop, tUn, tAsg, gName, L2.start, List.length_cons, List.length_nil, List.map_cons, List.map_nil, List.cons_append, List.nil_append, List.getElem?_cons_zero, List.getElem?_cons_succ, List.set_cons_zero, List.set_cons_succ, Nat.sub_self, List.replicate_zero, List.replicate_succ, Nat.succ_sub_succ, Nat.reduceSub, Nat.reduceAdd, Nat.reduceLT, Option.some.injEq, exists_eq_left, exists_and_left, exists_eq, V.bl.injEq, V.int.injEq, V.str.injEq, V.ref.injEq, and_true, true_and, scal, exists_eq', decide_eq_true_eq, if_false_left, reduceIte, Bool.false_eq_true, ite_true, ite_false, hm, hd, k1]
    · intro H2 s2 hD2
      refine ⟨D, (c0 :: r).map fun c => Vbwbab.letter c || Vbwbab.digit c, rfl, SqL.of ?_, fin ?_ _ s2⟩
      · rw [hD2, List.map_map]
        congr 2
        exact range_list (c0 :: r) _ _ fun i x hx => by rw [hx]; rfl
      · rw [main, List.all_map]; rfl
  · have hc' : Vbwbab.letter c0 = false := by simpa using hc
    refine .inr ⟨fun z => hc (by have := mem_letters c0; rw [← this]; exact decide_eq_true (by simpa using z)), fin ?_ H (Same.refl H)⟩
    rw [main, hc']; rfl
/-- the number's test -/
def numB (lo hi : Int) (l : List Nat) : Bool := match Vbwbab.numOf l with
  | none => false
  | some n => decide (lo ≤ (n : Int)) && decide ((n : Int) ≤ hi)
theorem all_digit {l : List Nat} (h : l.all Vbwbab.digit = true) : NumText.AllDigits l := by
  intro c hc
  have := List.all_eq_true.mp h c hc
  unfold Vbwbab.digit at this
  exact of_decide_eq_true this
theorem digitsVal_eq (l : List Nat) : NumText.digitsVal l = l.foldl (fun n c => 10 * n + (c - 48)) 0 := by
  unfold NumText.digitsVal
  congr 1
  first | rfl | (funext a c; omega)
theorem num_text {l : List Nat} {n : Nat} (h : Vbwbab.numOf l = some n) : intText? (S l) = some (n : Int) ∧ l.length ≤ 7 := by
  unfold Vbwbab.numOf at h
  split at h
  · cases h
  · rename_i hc
    cases h
    have h1 : l ≠ [] := fun z => hc (.inl (by rw [z]; rfl))
    have h2 : l.length ≤ 7 := by have := fun z => hc (.inr (.inl z)); omega
    have h3 : l.all Vbwbab.digit = true := by
      cases e : l.all Vbwbab.digit with
      | true => rfl
      | false => exact absurd (.inr (.inr (.inl e))) hc
    refine ⟨?_, h2⟩
    rw [← digitsVal_eq]
    exact intText_digits (x := S l) (all_digit h3) h1 (by rw [len_S]; omega)
theorem numB_true {lo hi : Int} {l : List Nat} (h : numB lo hi l = true) : ∃ n, Vbwbab.numOf l = some n ∧ lo ≤ (n : Int) ∧ (n : Int) ≤ hi := by
  unfold numB at h
  cases e : Vbwbab.numOf l with
  | none => rw [e] at h; cases h
  | some n =>
    rw [e] at h
    have := Bool.and_eq_true_iff.mp h
    exact ⟨n, rfl, of_decide_eq_true this.1, of_decide_eq_true this.2⟩
theorem numB_sg (lo hi : Int) (l : List Nat) : numB lo hi (l.map sg) = numB lo hi l := by unfold numB; rw [numOf_sg]
def sp_is_number : Sp := sp3 fun a b c H Q _ => ∃ (l : List Nat) (lo hi : Int), a = .str (S l) ∧ b = .int lo ∧ c = .int hi ∧ l ≠ [] ∧ l.length ≤ 100000 ∧ ∀ H', Same H H' → Q (.bl (numB lo hi l)) H'
theorem ok_is_number (Z : Tx w K mg) : Cal P w K mg base CX0 2 (He.fAd K ("is_number", none)) ["word", "least", "most"] (sp_is_number) := by
  obtain ⟨fd, F⟩ := Z.fd_is_number
  refine ⟨⟨fd, F.ok sc_is_number (fun vs H Q E h => ?_) (fun cdv A outer s H vs Q E hr h => ?_), F.bindsN fun _ _ _ _ _ _ us hl => match us, hl with | [_, _, _], _ => rfl⟩, F.kp⟩
  · exact sp3_len h
  have sc := sc_is_number
  have nd : N_is_number.Nodup := sc.nd
  replace h := sp3_get h
  obtain ⟨v_word, v_least, v_most, rfl, h⟩ := h
  refine ⟨_, PSs.nox (by exact ((pss_cons (ps_if (PW.pt (pw_or (pt_cmpR op_gt (pe_callB call_len_str (by rfl) Z.b_len (by decide +kernel) (pa_cons (pv 0) pa_nil)) (pe_gi rfl Z.g_MOST_DIGITS) (nomark _)) (pw_or1 (pt_not (pt_val (pe_callB (cr_all rfl) (by rfl) Z.b_all (by decide +kernel) (pa_cons (pe_lc (own := [("sign", 3)]) (g := (gName 3)) rfl nd (pi_str (pv 0)) (blkOk_by (own := [("sign", 3)]) (N := N_is_number) (sc := defScope s_is_number) (by decide +kernel)) (fun _ _ _ _ _ => (pg_name (i := 3) nd rfl (by first | exact Or.inl rfl | exact Or.inr rfl))) (fun _ _ _ _ _ => pts_nil) (fun _ _ _ _ _ => (pe_cmpR op_in_sign (pv 3) (pe_gs rfl Z.g_DIGITS) rfl))) pa_nil))))))) (pss_one (ps_ret pe_bl)) pss_nil)
 (pss_cons (ps_if (PW.pt (pw_and (pt_cmpR op_gt (pe_callB call_len_str (by rfl) Z.b_len (by decide +kernel) (pa_cons (pv 0) pa_nil)) pe_int (nomark _)) (pw_and1 (pt_cmpR op_eq (pe_ix ix_str (pv 0) pe_int (fun _ _ => rfl)) pe_str (nomark _))))) (pss_one (ps_ret pe_bl)) pss_nil)
 (pss_one (ps_ret (pe_chain op_le op_le (pv 1) (pe_callTy call_int_str (by rfl) Z.b_int (by decide +kernel) (pa_cons (pv 0) pa_nil)) (pv 2)))))))), ?_⟩
  obtain ⟨l, lo, hi, rfl, rfl, rfl, hne, hl, h⟩ := h
  have fin : ∀ {b : Bool}, b = numB lo hi l → ∀ H', Same H H' → Q (.bl b) H' := fun e H' s' => e ▸ h H' s'
  obtain ⟨c0, r, rfl⟩ : ∃ c r, l = c :: r := by
    cases l with
    | nil => exact absurd rfl hne
    | cons c r => exact ⟨c, r, rfl⟩
  have i0 : atI (S (c0 :: r)).cps.toList 0 = some c0 := atI_nat (j := 0) rfl
  simp [cxK, cxKn, Cx.nox, wipe, PySem.Str.mk.injEq, exists_eq_left', tCall, rI, rU, CMul, tSeq, tIfS, tTest, tOp, tVar, tC, rEq, rNe, tRet, tRetN, tNext, tChain, rI0, tCB, tCons, tNil, tIf, tB, tAnd, tOr, tNot, tAndV, tOrV, tNotV, tDrop, tUn, tAsg, gName, L2.start, List.length_cons, List.length_nil, List.map_cons, List.map_nil, List.cons_append, List.nil_append, List.getElem?_cons_zero, List.getElem?_cons_succ, List.set_cons_zero, List.set_cons_succ, Nat.sub_self, List.replicate_zero, List.replicate_succ, Nat.succ_sub_succ, Nat.reduceSub, Nat.reduceAdd, Nat.reduceLT, Option.some.injEq, exists_eq_left, exists_and_left, exists_eq, V.bl.injEq, V.int.injEq, V.str.injEq, V.ref.injEq, and_true, true_and, scal, exists_eq', decide_eq_true_eq, if_false_left, reduceIte, Bool.false_eq_true, ite_true, ite_false, N_is_number, rIxS, len_S, i0]
  refine ⟨line_of hl, ?_⟩
  have no_long : 7 < (c0 :: r).length → numB lo hi (c0 :: r) = false := fun z => by
    unfold numB Vbwbab.numOf
    rw [if_pos (.inr (.inl z))]
  refine if_intro (fun c => fin (no_long (by simp; omega)).symm H (Same.refl H)) fun c => ?_
  have c7 : (c0 :: r).length ≤ 7 := by simp; omega
  refine ⟨_, rfl, _, rfl, fun D hD => lc_fn walk_str (fun i => .bl ((c0 :: r)[i]?.any Vbwbab.digit)) hD (fun _ _ => trivial) (line_lt hl) ?_ ?_⟩
  · rintro i x H2 H3 R hi s2 ⟨rfl, d, hd, rfl⟩ k
    refine ⟨rfl, ?_⟩
    have e : (c0 :: r)[i]? = some d := by
      have : (S (c0 :: r)).cps.toList[i]? = some d := by rw [Array.getElem?_toList]; exact hd
      exact this
    rw [e] at k
    have k1 := k H3 (Same.refl H3)
    have hd : decide (d ∈ (Str.ofString "0123456789").cps) = Vbwbab.digit d := by have := mem_digits d; simpa using this
    simp only [Option.any_some] at k1
    simp [cxK, cxKn, Cx.nox, wipe, PySem.Str.mk.injEq, exists_eq_left', tCall, rI, rU, CMul, tSeq, tIfS, tTest, tOp, tVar, tC, rEq, rNe, tRet, tRetN, tNext, tChain, rI0, tCB, tCons, tNil, tIf, tB, tAnd, tOr, tNot, tAndV, tOrV, tNotV, tDrop, tUn, tAsg, gName, L2.start, List.length_cons, List.length_nil, List.map_cons, List.map_nil, List.cons_append, List.nil_append, List.getElem?_cons_zero, List.getElem?_cons_succ, List.set_cons_zero, List.set_cons_succ, Nat.sub_self, List.replicate_zero, List.replicate_succ, Nat.succ_sub_succ, Nat.reduceSub, Nat.reduceAdd, Nat.reduceLT, Option.some.injEq, exists_eq_left, exists_and_left, exists_eq, V.bl.injEq, V.int.injEq, V.str.injEq, V.ref.injEq, and_true, true_and, scal, exists_eq', decide_eq_true_eq, if_false_left, reduceIte, Bool.false_eq_true, ite_true, ite_false, hd, k1]
  · intro H2 s2 hD2
    refine ⟨D, (c0 :: r).map Vbwbab.digit, rfl, SqL.of ?_, ?_⟩
    · rw [hD2, List.map_map]
      congr 2
      exact range_list (c0 :: r) _ _ fun i x hx => by rw [hx]; rfl
    have ea : ((c0 :: r).map Vbwbab.digit).all id = (c0 :: r).all Vbwbab.digit := by rw [List.all_map]; rfl
    rw [ea]
    by_cases hd : (c0 :: r).all Vbwbab.digit = true
    · rw [hd]
      refine .inr ⟨rfl, line_of hl, ?_⟩
      have it : intText? (S (c0 :: r)) = some (((c0 :: r).foldl (fun n c => 10 * n + (c - 48)) 0 : Nat) : Int) := by
        rw [← digitsVal_eq]
        exact intText_digits (x := S (c0 :: r)) (all_digit hd) (by simp [S]) (by rw [len_S]; omega)
      have last : (1 < (c0 :: r).length → c0 ≠ 48) → ∀ H', Same H H' → ∃ x, intText? (S (c0 :: r)) = some x ∧ r.length ≤ 639 ∧ if lo ≤ x then Q (.bl (decide (x ≤ hi))) H' else Q (.bl false) H' := fun hz H' s' => by
        refine ⟨_, it, by simp at c7; omega, ?_⟩
        have e : numB lo hi (c0 :: r) = (decide (lo ≤ (((c0 :: r).foldl (fun n c => 10 * n + (c - 48)) 0 : Nat) : Int)) && decide ((((c0 :: r).foldl (fun n c => 10 * n + (c - 48)) 0 : Nat) : Int) ≤ hi)) := by
          unfold numB Vbwbab.numOf
          rw [if_neg (by
            rintro (z | z | z | ⟨z, z2⟩)
            · cases z
            · omega
            · rw [hd] at z; cases z
            · exact hz z2 (by simpa using z))]
        refine if_intro (fun c => fin ?_ H' s') fun c => fin ?_ H' s'
        · rw [e, decide_eq_true c, Bool.true_and]
        · rw [e, decide_eq_false c, Bool.false_and]
      refine if_intro (fun c1 => ⟨line_of hl, if_intro (fun c2 => fin ?_ H2 s2) fun c2 => last (fun _ z => c2 (by subst z; rfl)) H2 s2⟩) fun c1 => last (fun z => absurd z (by rw [List.length_cons]; omega)) H2 s2
      · have e0 : c0 = 48 := by
          have : (⟨#[c0]⟩ : Str) = ⟨#[48]⟩ := c2
          simpa using this
        unfold numB Vbwbab.numOf
        rw [if_pos (.inr (.inr (.inr ⟨by simp [e0], by simp at c1 ⊢; omega⟩)))]
    · have hf : (c0 :: r).all Vbwbab.digit = false := by simpa using hd
      rw [hf]
      refine .inl ⟨rfl, fin ?_ H2 s2⟩
      unfold numB Vbwbab.numOf
      rw [if_pos (.inr (.inr (.inl hf)))]
end
end Bw
end

section
set_option Elab.async false
set_option linter.all false
set_option maxRecDepth 100000
set_option maxHeartbeats 4000000
/-! What lies where: a part of the heap that stays as it is, and a list of what may change. -/
namespace Bw
open PySem PySem.Spec PyProof.Rows L2
theorem small_of {n m : Nat} (h : n = m) (hm : m < 1000 := by decide) : n < 1000 := h ▸ hm
structure Lay (H G : Hp) (ms : List (Addr × HO)) : Prop where
  same : Same G H
  at_ : ∀ p ∈ ms, H p.1 = some p.2
  off : ∀ p ∈ ms, G p.1 = none
  nd : (ms.map (·.1)).Nodup
section
variable {H G H' : Hp} {ms xs ys : List (Addr × HO)} {k : Addr} {o o' : HO}
theorem Lay.nil (s : Same G H) : Lay H G [] := ⟨s, (by simp), (by simp), List.nodup_nil⟩
theorem Lay.get (L : Lay H G ms) (h : (k, o) ∈ ms) : H k = some o := L.at_ _ h
theorem Lay.free (L : Lay H G ms) (h : H k = none) : G k = none ∧ ∀ p ∈ ms, p.1 ≠ k := by
  refine ⟨L.same.free h, fun p hp e => ?_⟩
  have := L.at_ p hp
  rw [e, h] at this; cases this
theorem Lay.new (L : Lay H G ms) (h : H k = none) : Lay (upd H k o) G ((k, o) :: ms) := by
  obtain ⟨hg, hm⟩ := L.free h
  refine ⟨same_upd L.same hg, fun p hp => ?_, fun p hp => ?_, ?_⟩
  · rcases List.mem_cons.mp hp with e | hp
    · subst e; exact upd_same
    · rw [upd_ne (hm p hp)]; exact L.at_ p hp
  · rcases List.mem_cons.mp hp with e | hp
    · subst e; exact hg
    · exact L.off p hp
  · rw [List.map_cons, List.nodup_cons]
    refine ⟨fun z => ?_, L.nd⟩
    obtain ⟨p, hp, e⟩ := List.mem_map.mp z
    exact hm p hp e
theorem Lay.upd (L : Lay H G (xs ++ (k, o) :: ys)) : Lay (L2.upd H k o') G (xs ++ (k, o') :: ys) := by
  have hk : G k = none := L.off (k, o) (by simp)
  have nd := L.nd
  rw [List.map_append, List.map_cons, List.nodup_append] at nd
  obtain ⟨n1, n2, n3⟩ := nd
  rw [List.nodup_cons] at n2
  have ne : ∀ p, p ∈ xs ∨ p ∈ ys → p.1 ≠ k := by
    rintro p (h | h) e
    · exact n3 p.1 (List.mem_map.mpr ⟨p, h, rfl⟩) k (List.mem_cons_self ..) e
    · exact n2.1 (List.mem_map.mpr ⟨p, h, e⟩)
  refine ⟨same_upd L.same hk, fun p hp => ?_, fun p hp => ?_, by rw [List.map_append, List.map_cons, List.nodup_append]; exact ⟨n1, List.nodup_cons.mpr n2, n3⟩⟩
  · rcases List.mem_append.mp hp with h | h
    · rw [upd_ne (ne p (.inl h))]; exact L.at_ p (by simp [h])
    · rcases List.mem_cons.mp h with e | h
      · subst e; exact upd_same
      · rw [upd_ne (ne p (.inr h))]; exact L.at_ p (by simp [h])
  · rcases List.mem_append.mp hp with h | h
    · exact L.off p (by simp [h])
    · rcases List.mem_cons.mp h with e | h
      · subst e; exact hk
      · exact L.off p (by simp [h])
theorem split_at {α : Type} : ∀ {l : List α} {i : Nat} {x : α}, l[i]? = some x → l = l.take i ++ x :: l.drop (i + 1)
  | [], i, x, h => by simp at h
  | a :: l, 0, x, h => by cases h; rfl
  | a :: l, i + 1, x, h => by
    have ih := split_at (l := l) (i := i) (x := x) h
    show a :: l = a :: (l.take i ++ x :: l.drop (i + 1))
    rw [← ih]
theorem set_at {α : Type} : ∀ {l : List α} {i : Nat} {x y : α}, l[i]? = some x → l.set i y = l.take i ++ y :: l.drop (i + 1)
  | [], i, x, y, h => by simp at h
  | a :: l, 0, x, y, h => rfl
  | a :: l, i + 1, x, y, h => by
    have ih := set_at (l := l) (i := i) (x := x) (y := y) h
    show a :: l.set i y = a :: (l.take i ++ y :: l.drop (i + 1))
    rw [ih]
theorem Lay.updAt (L : Lay H G ms) (i : Nat) (h : ms[i]? = some (k, o)) : Lay (L2.upd H k o') G (ms.set i (k, o')) := by
  rw [set_at h]
  have e := split_at h
  rw [e] at L
  exact L.upd
theorem Lay.getAt (L : Lay H G ms) (i : Nat) (h : ms[i]? = some (k, o)) : H k = some o := L.at_ (k, o) (List.mem_of_getElem? h)
theorem Lay.later (L : Lay H G ms) (s : Same H H') : Lay H' G ms := ⟨L.same.trans s, fun p hp => s _ _ (L.at_ p hp), L.off, L.nd⟩
theorem Lay.add (L : Lay H G ms) (hk : H k = some o) (hg : G k = none) (hm : ∀ p ∈ ms, p.1 ≠ k) : Lay H G ((k, o) :: ms) := by
  refine ⟨L.same, fun p hp => ?_, fun p hp => ?_, ?_⟩
  · rcases List.mem_cons.mp hp with e | hp
    · subst e; exact hk
    · exact L.at_ p hp
  · rcases List.mem_cons.mp hp with e | hp
    · subst e; exact hg
    · exact L.off p hp
  · rw [List.map_cons, List.nodup_cons]
    refine ⟨fun z => ?_, L.nd⟩
    obtain ⟨p, hp, e⟩ := List.mem_map.mp z
    exact hm p hp e
theorem Lay.perm (L : Lay H G ms) {ms' : List (Addr × HO)} (p : ms.Perm ms') : Lay H G ms' :=
  ⟨L.same, fun q hq => L.at_ q (p.mem_iff.mpr hq), fun q hq => L.off q (p.mem_iff.mpr hq), (p.map _).nodup_iff.mp L.nd⟩
/-- the first is fixed -/
theorem Lay.fix (L : Lay H G ((k, o) :: ms)) : Lay H (L2.upd G k o) ms ∧ Same G (L2.upd G k o) := by
  have hk : G k = none := L.off (k, o) (List.mem_cons_self ..)
  have nd := L.nd
  rw [List.map_cons, List.nodup_cons] at nd
  refine ⟨⟨fun b u e => ?_, fun p hp => L.at_ p (List.mem_cons_of_mem _ hp), fun p hp => ?_, nd.2⟩, same_new hk⟩
  · by_cases hb : b = k
    · subst hb; rw [upd_same] at e; cases e; exact L.at_ (b, o) (List.mem_cons_self ..)
    · rw [upd_ne hb] at e; exact L.same b u e
  · rw [upd_ne (fun e => nd.1 (List.mem_map.mpr ⟨p, hp, e⟩))]
    exact L.off p (List.mem_cons_of_mem _ hp)
theorem Lay.ne (L : Lay H G ms) {a b : Addr} {u v : HO} (i j : Nat) (hi : ms[i]? = some (a, u)) (hj : ms[j]? = some (b, v)) (hij : i ≠ j) : a ≠ b := by
  intro e
  have h1 : (ms.map (·.1))[i]? = some a := by rw [List.getElem?_map, hi]; rfl
  have h2 : (ms.map (·.1))[j]? = some a := by rw [List.getElem?_map, hj, e]; rfl
  exact hij ((List.getElem?_inj (List.getElem?_eq_some_iff.mp h1).1 L.nd).mp (h1.trans h2.symm))
end
/-- an instance that its __init__ has filled, with one new list -/
theorem new_ins {H G H' : Hp} {ms : List (Addr × HO)} {p dx l C : Addr} {fs : List (Str × V)} (L : Lay H G ms) (np : H p = none) (nd : H dx = none) (hl : upd (upd H dx (.own p)) p (.ins C dx []) l = none)
    (hp : H' p = some (.ins C dx fs)) (hll : H' l = some (.lst [])) (ho : ∀ x, x ≠ p → x ≠ l → H' x = upd (upd H dx (.own p)) p (.ins C dx []) x) : Lay H' G ((p, .ins C dx fs) :: (l, .lst []) :: ms) ∧ Same H H' := by
  have lp : l ≠ p := by rintro rfl; rw [upd_same] at hl; cases hl
  have ld : l ≠ dx := by rintro rfl; rw [upd_ne lp, upd_same] at hl; cases hl
  have nl : H l = none := by rw [upd_ne lp, upd_ne ld] at hl; exact hl
  have s : Same H H' := fun b o e => by
    have b1 : b ≠ p := ne_of_none e np
    have b2 : b ≠ l := ne_of_none e nl
    have b3 : b ≠ dx := ne_of_none e nd
    rw [ho b b1 b2, upd_ne b1, upd_ne b3]; exact e
  obtain ⟨gp, mp⟩ := L.free np
  obtain ⟨gl, ml⟩ := L.free nl
  have L1 := (L.later s).add hll gl ml
  exact ⟨L1.add hp gp (by
    intro q hq
    rcases List.mem_cons.mp hq with e | hq
    · subst e; exact lp
    · exact mp q hq), s⟩
/-! ### the parts -/
section
variable (C : Addr) (G : Hp)
mutual
def PartAt : T → Addr → Prop
  | .mk w n h bs, a => ∃ (dx l : Addr) (as : List Addr), G a = some (.ins C dx (F_Part (.str w.s) (.int n) (.ref l) (.int h))) ∧ G l = some (.lst (as.map V.ref)) ∧ BodsAt bs as
def BodsAt : List (List T) → List Addr → Prop
  | [], as => as = []
  | b :: r, as => ∃ (a : Addr) (as' : List Addr) (ps : List Addr), as = a :: as' ∧ G a = some (.lst (ps.map V.ref)) ∧ PartsAt b ps ∧ BodsAt r as'
def PartsAt : List T → List Addr → Prop
  | [], as => as = []
  | t :: r, as => ∃ (a : Addr) (as' : List Addr), as = a :: as' ∧ PartAt t a ∧ PartsAt r as'
end
end
section
variable {C : Addr} {G G' : Hp}
mutual
theorem PartAt.mono (s : Same G G') : ∀ (t : T) (a : Addr), PartAt C G t a → PartAt C G' t a
  | .mk w n h bs, a, x => by
    unfold PartAt at x ⊢
    obtain ⟨dx, l, as, h1, h2, h3⟩ := x
    exact ⟨dx, l, as, s _ _ h1, s _ _ h2, BodsAt.mono s bs as h3⟩
theorem BodsAt.mono (s : Same G G') : ∀ (bs : List (List T)) (as : List Addr), BodsAt C G bs as → BodsAt C G' bs as
  | [], as, x => by unfold BodsAt at x ⊢; exact x
  | b :: r, as, x => by
    unfold BodsAt at x ⊢
    obtain ⟨a, as', ps, e, h1, h2, h3⟩ := x
    exact ⟨a, as', ps, e, s _ _ h1, PartsAt.mono s b ps h2, BodsAt.mono s r as' h3⟩
theorem PartsAt.mono (s : Same G G') : ∀ (b : List T) (as : List Addr), PartsAt C G b as → PartsAt C G' b as
  | [], as, x => by unfold PartsAt at x ⊢; exact x
  | t :: r, as, x => by
    unfold PartsAt at x ⊢
    obtain ⟨a, as', e, h1, h2⟩ := x
    exact ⟨a, as', e, PartAt.mono s t a h1, PartsAt.mono s r as' h2⟩
end
theorem PartsAt.snoc : ∀ {b : List T} {as : List Addr} {t : T} {a : Addr}, PartsAt C G b as → PartAt C G t a → PartsAt C G (b ++ [t]) (as ++ [a])
  | [], as, t, a, h, x => by
    unfold PartsAt at h; subst h
    show PartsAt C G [t] [a]
    unfold PartsAt; exact ⟨a, [], rfl, x, by unfold PartsAt; rfl⟩
  | u :: r, as, t, a, h, x => by
    unfold PartsAt at h
    obtain ⟨a1, as', rfl, h1, h2⟩ := h
    show PartsAt C G (u :: (r ++ [t])) (a1 :: (as' ++ [a]))
    unfold PartsAt; exact ⟨a1, _, rfl, h1, PartsAt.snoc h2 x⟩
theorem BodsAt.snoc : ∀ {bs : List (List T)} {as : List Addr} {b : List T} {a : Addr} {ps : List Addr}, BodsAt C G bs as → G a = some (.lst (ps.map V.ref)) → PartsAt C G b ps → BodsAt C G (bs ++ [b]) (as ++ [a])
  | [], as, b, a, ps, h, x, y => by
    unfold BodsAt at h; subst h
    show BodsAt C G [b] [a]
    unfold BodsAt; exact ⟨a, [], ps, rfl, x, y, by unfold BodsAt; rfl⟩
  | u :: r, as, b, a, ps, h, x, y => by
    unfold BodsAt at h
    obtain ⟨a1, as', ps1, rfl, h1, h2, h3⟩ := h
    show BodsAt C G (u :: (r ++ [b])) (a1 :: (as' ++ [a]))
    unfold BodsAt; exact ⟨a1, _, ps1, rfl, h1, h2, BodsAt.snoc h3 x y⟩
theorem PartsAt.len : ∀ {b : List T} {as : List Addr}, PartsAt C G b as → as.length = b.length
  | [], as, h => by unfold PartsAt at h; subst h; rfl
  | t :: r, as, h => by
    unfold PartsAt at h
    obtain ⟨a, as', rfl, h1, h2⟩ := h
    simp [PartsAt.len h2]
theorem BodsAt.len : ∀ {b : List (List T)} {as : List Addr}, BodsAt C G b as → as.length = b.length
  | [], as, h => by unfold BodsAt at h; subst h; rfl
  | t :: r, as, h => by
    unfold BodsAt at h
    obtain ⟨a, as', ps, rfl, h1, h2, h3⟩ := h
    simp [BodsAt.len h3]
theorem PartsAt.get : ∀ {b : List T} {as : List Addr} {i : Nat} {t : T}, PartsAt C G b as → b[i]? = some t → ∃ a, as[i]? = some a ∧ PartAt C G t a
  | t :: r, as, 0, u, h, e => by
    unfold PartsAt at h
    obtain ⟨a, as', rfl, h1, h2⟩ := h
    cases e
    exact ⟨a, rfl, h1⟩
  | t :: r, as, i + 1, u, h, e => by
    unfold PartsAt at h
    obtain ⟨a, as', rfl, h1, h2⟩ := h
    exact PartsAt.get (i := i) h2 e
theorem BodsAt.get : ∀ {bs : List (List T)} {as : List Addr} {i : Nat} {b : List T}, BodsAt C G bs as → bs[i]? = some b → ∃ a ps, as[i]? = some a ∧ G a = some (.lst (ps.map V.ref)) ∧ PartsAt C G b ps
  | t :: r, as, 0, u, h, e => by
    unfold BodsAt at h
    obtain ⟨a, as', ps, rfl, h1, h2, h3⟩ := h
    cases e
    exact ⟨a, ps, rfl, h1, h2⟩
  | t :: r, as, i + 1, u, h, e => by
    unfold BodsAt at h
    obtain ⟨a, as', ps, rfl, h1, h2, h3⟩ := h
    exact BodsAt.get (i := i) h3 e
end
end Bw
end

section
set_option Elab.async false
set_option linter.all false
set_option maxRecDepth 100000
set_option maxHeartbeats 4000000
/-! The recipes: parts and the book. -/
namespace Bw
open PySem PySem.Spec PyProof.Rows L2 TL
section
variable {P : Program} {w : World} {K : PySem.W.Frag} {mg : Str → Option Value} {base : Heap}
abbrev cP (K : PySem.W.Frag) : Addr := He.ga K "Part"
abbrev cB (K : PySem.W.Frag) : Addr := He.ga K "Book"
abbrev cR (K : PySem.W.Frag) : Addr := He.ga K "Reader"
def sp_Part_init (K : PySem.W.Frag) : Sp := sp4 fun a b c d H Q _ => ∃ (p dx : Addr), a = .ref p ∧ H p = some (.ins (cP K) dx []) ∧
  ∀ (l : Addr) (H' : Hp), H l = none → H' p = some (.ins (cP K) dx (F_Part b c (.ref l) d)) → H' l = some (.lst []) → (∀ x, x ≠ p → x ≠ l → H' x = H x) → Q .non H'
theorem ok_Part_init (Z : Tx w K mg) : Cal P w K mg base CX0 1 (He.fAd K ("Part", some "__init__")) ["self", "word", "number", "things"] (sp_Part_init K) := by
  obtain ⟨fd, F⟩ := Z.fd_Part_init
  refine ⟨⟨fd, F.ok sc_Part_init (fun vs H Q E h => ?_) (fun cdv A outer s H vs Q E hr h => ?_), F.bindsN fun _ _ _ _ _ _ us hl => match us, hl with | [_, _, _, _], _ => rfl⟩, F.kp⟩
  · exact sp4_len h
  have sc := sc_Part_init
  have nd : N_Part_init.Nodup := sc.nd
  replace h := sp4_get h
  obtain ⟨v_self, v_word, v_number, v_things, rfl, h⟩ := h
  refine ⟨_, PSs.nox (by exact ((pss_cons (ps_fld (pv 0) (pv 1) rfl)
 (pss_cons (ps_fld (pv 0) (pv 2) rfl)
 (pss_cons (ps_fld (pv 0) (pe_lst pa_nil) rfl)
 (pss_one (ps_fld (pv 0) (pv 3) rfl))))))), ?_⟩
  obtain ⟨p, dx, rfl, hp, h⟩ := h
  have n1 := Z.n_Part_word
  have n2 := Z.n_Part_number
  have n3 := Z.n_Part_bodies
  have n4 := Z.n_Part_things
  have cl := Z.cl_Part
  simp [cxK, cxKn, Cx.nox, wipe, PySem.Str.mk.injEq, exists_eq_left', tCall, rI, rU, CMul, tSeq, tIfS, tTest, tOp, tVar, tC, rEq, rNe, tRet, tRetN, tNext, tChain, rI0, tCB, tCons, tNil, tIf, tB, tAnd, tOr, tNot, tAndV, tOrV, tNotV, tDrop, tUn, tAsg, gName, L2.start, List.length_cons, List.length_nil, List.map_cons, List.map_nil, List.cons_append, List.nil_append, List.getElem?_cons_zero, List.getElem?_cons_succ, List.set_cons_zero, List.set_cons_succ, Nat.sub_self, List.replicate_zero, List.replicate_succ, Nat.succ_sub_succ, Nat.reduceSub, Nat.reduceAdd, Nat.reduceLT, Option.some.injEq, exists_eq_left, exists_and_left, exists_eq, V.bl.injEq, V.int.injEq, V.str.injEq, V.ref.injEq, and_true, true_and, scal, exists_eq', decide_eq_true_eq, if_false_left, reduceIte, Bool.false_eq_true, ite_true, ite_false, N_Part_init, -List.lookup_eq_none_iff, sFld, tFld, sFldAug, tMeth, tMake, tBM, tBM0, rAppend, rPop, HO.ins.injEq, HO.lst.injEq, HO.dK.injEq, upd_same, upd_upd, and_assoc, and_self, tLst, tTup, tDNewK, tDNewT, true_implies, forall_eq, forall_eq', hp, n1, n2, n3, n4, cl]
  refine ⟨small_of (m := 1) rfl, fun l hl => ?_⟩
  have e : p ≠ l := by
    rintro rfl
    rw [upd_same] at hl; cases hl
  have hl' : H l = none := by rw [upd_ne (Ne.symm e)] at hl; exact hl
  simp [-List.lookup_eq_none_iff, sFld, tFld, sFldAug, tMeth, tMake, tBM, tBM0, rAppend, rPop, HO.ins.injEq, HO.lst.injEq, HO.dK.injEq, upd_same, upd_upd, and_assoc, and_self, tLst, tTup, tDNewK, tDNewT, true_implies, forall_eq, forall_eq', upd_ne e, n3, n4, cl, mk_Part]
  refine ⟨small_of (m := 2) rfl, small_of (m := 3) rfl, h l _ hl' upd_same (by rw [upd_ne (Ne.symm e), upd_same]) fun x hx hx2 => by rw [upd_ne hx, upd_ne hx2, upd_ne hx]⟩
def thB (b : List T) : Nat := match b with | [] => 1 | x :: r => ((x :: r).map T.things).sum
theorem PartAt.things {C : Addr} {H : Hp} {t : T} {a : Addr} (x : PartAt C H t a) : ∃ dx w n l, H a = some (.ins C dx (F_Part w n l (.int t.things))) := by
  obtain ⟨w, n, h, bs⟩ := t
  unfold PartAt at x
  obtain ⟨dx, l, as, h1, _, _⟩ := x
  exact ⟨dx, _, _, _, h1⟩
theorem sum_nat : ∀ l : List Nat, (l.map fun n : Nat => (n : Int)).sum = ((l.sum : Nat) : Int)
  | [] => rfl
  | x :: r => by rw [List.map_cons, List.sum_cons, List.sum_cons, sum_nat r]; omega
def sp_things_in (K : PySem.W.Frag) : Sp := sp1 fun v H Q _ => ∃ (a : Addr) (b : List T) (as : List Addr), v = .ref a ∧ H a = some (.lst (as.map V.ref)) ∧ PartsAt (cP K) H b as ∧ b.length ≤ 100000 ∧ ∀ H', Same H H' → Q (.int (thB b)) H'
theorem ok_things_in (Z : Tx w K mg) : Cal P w K mg base CX0 1 (He.fAd K ("things_in", none)) ["body"] (sp_things_in K) := by
  obtain ⟨fd, F⟩ := Z.fd_things_in
  refine ⟨⟨fd, F.ok sc_things_in (fun vs H Q E h => ?_) (fun cdv A outer s H vs Q E hr h => ?_), F.bindsN fun _ _ _ _ _ _ us hl => match us, hl with | [_], _ => rfl⟩, F.kp⟩
  · exact sp1_len h
  have sc := sc_things_in
  have nd : N_things_in.Nodup := sc.nd
  replace h := sp1_get h
  obtain ⟨v_body, rfl, h⟩ := h
  refine ⟨_, PSs.nox (by exact ((pss_cons (ps_if (pt_cmpR op_eq (pe_callB call_len_seq (by rfl) Z.b_len (by decide +kernel) (pa_cons (pv 0) pa_nil)) pe_int (nomark _)) (pss_one (ps_ret pe_int)) pss_nil)
 (pss_one (ps_ret (pe_callB (cr_sum rfl) (by rfl) Z.b_sum (by decide +kernel) (pa_cons (pe_lc (own := [("part", 1)]) (g := (gName 1)) rfl nd (pi_list (pv 0)) (blkOk_by (own := [("part", 1)]) (N := N_things_in) (sc := defScope s_things_in) (by decide +kernel)) (fun _ _ _ _ _ => (pg_name (i := 1) nd rfl (by first | exact Or.inl rfl | exact Or.inr rfl))) (fun _ _ _ _ _ => pts_nil) (fun _ _ _ _ _ => (pe_fldK (K := K) rfl (pv 1) rfl))) pa_nil))))))), ?_⟩
  obtain ⟨a, b, as, rfl, ha, hb, hl, h⟩ := h
  have el := hb.len
  simp [cxK, cxKn, Cx.nox, wipe, PySem.Str.mk.injEq, exists_eq_left', tCall, rI, rU, CMul, tSeq, tIfS, tTest, tOp, tVar, tC, rEq, rNe, tRet, tRetN, tNext, tChain, rI0, tCB, tCons, tNil, tIf, tB, tAnd, tOr, tNot, tAndV, tOrV, tNotV, tDrop, tUn, tAsg, gName, L2.start, List.length_cons, List.length_nil, List.map_cons, List.map_nil, List.cons_append, List.nil_append, List.getElem?_cons_zero, List.getElem?_cons_succ, List.set_cons_zero, List.set_cons_succ, Nat.sub_self, List.replicate_zero, List.replicate_succ, Nat.succ_sub_succ, Nat.reduceSub, Nat.reduceAdd, Nat.reduceLT, Option.some.injEq, exists_eq_left, exists_and_left, exists_eq, V.bl.injEq, V.int.injEq, V.str.injEq, V.ref.injEq, and_true, true_and, scal, exists_eq', decide_eq_true_eq, if_false_left, reduceIte, Bool.false_eq_true, ite_true, ite_false, N_things_in, -List.lookup_eq_none_iff, sFld, tFld, sFldAug, tMeth, tMake, tBM, tBM0, rAppend, rPop, HO.ins.injEq, HO.lst.injEq, HO.dK.injEq, upd_same, upd_upd, and_assoc, and_self, tLst, tTup, tDNewK, tDNewT, true_implies, forall_eq, forall_eq', SqL]
  refine ⟨_, .inl (.inl (.inl ha)), ?_⟩
  refine if_intro (fun c => ?_) fun c => ?_
  · have e : b = [] := by
      have : as = [] := by simpa using c
      rw [this] at el
      exact List.length_eq_zero_iff.mp el.symm
    subst e
    exact h H (Same.refl H)
  have ne : b ≠ [] := fun z => c (by rw [z] at el; rw [List.length_eq_zero_iff.mp el]; rfl)
  refine ⟨_, rfl, a, rfl, ⟨_, SqL.of ha⟩, fun D hD => lc_fn (walk_list (xs := as.map V.ref)) (fun i => .int ((b[i]?.map T.things).getD 0)) hD (fun H2 s2 => s2.seq (SqL.of ha)) (by rw [List.length_map, el]; exact line_lt hl) ?_ ?_⟩
  · rintro i x H2 H3 R hi s2 ⟨rfl, hx⟩ k
    refine ⟨rfl, ?_⟩
    rw [List.length_map, el] at hi
    obtain ⟨ai, ha2, hp⟩ := hb.get (List.getElem?_eq_getElem hi)
    rw [List.getElem?_map, ha2] at hx
    cases hx
    obtain ⟨dx, w', n', l', hH⟩ := (PartAt.mono s2 _ _ hp).things
    have k1 := k H3 (Same.refl H3)
    rw [List.getElem?_eq_getElem hi] at k1
    simp [cxK, cxKn, Cx.nox, wipe, PySem.Str.mk.injEq, exists_eq_left', tCall, rI, rU, CMul, tSeq, tIfS, tTest, tOp, tVar, tC, rEq, rNe, tRet, tRetN, tNext, tChain, rI0, tCB, tCons, tNil, tIf, tB, tAnd, tOr, tNot, tAndV, tOrV, tNotV, tDrop, tUn, tAsg, gName, L2.start, List.length_cons, List.length_nil, List.map_cons, List.map_nil, List.cons_append, List.nil_append, List.getElem?_cons_zero, List.getElem?_cons_succ, List.set_cons_zero, List.set_cons_succ, Nat.sub_self, List.replicate_zero, List.replicate_succ, Nat.succ_sub_succ, Nat.reduceSub, Nat.reduceAdd, Nat.reduceLT, Option.some.injEq, exists_eq_left, exists_and_left, exists_eq, V.bl.injEq, V.int.injEq, V.str.injEq, V.ref.injEq, and_true, true_and, scal, exists_eq', decide_eq_true_eq, if_false_left, reduceIte, Bool.false_eq_true, ite_true, ite_false, -List.lookup_eq_none_iff, sFld, tFld, sFldAug, tMeth, tMake, tBM, tBM0, rAppend, rPop, HO.ins.injEq, HO.lst.injEq, HO.dK.injEq, upd_same, upd_upd, and_assoc, and_self, tLst, tTup, tDNewK, tDNewT, true_implies, forall_eq, forall_eq', hH, Z.cl_Part, Z.n_Part_things, lk_Part_things]
    exact k1
  · intro H2 s2 hD2
    refine ⟨D, b.map fun t => (t.things : Int), rfl, .inl (.inl ?_), ?_⟩
    · rw [hD2, List.map_map]
      congr 2
      rw [List.length_map, el]
      exact range_list b _ _ fun i x hx => by rw [hx]; rfl
    · have e : (b.map fun t => (t.things : Int)).sum = ((thB b : Nat) : Int) := by
          have e0 : (b.map fun t => (t.things : Int)) = (b.map T.things).map fun n : Nat => (n : Int) := by rw [List.map_map]; rfl
          rw [e0, sum_nat]
          cases b with
          | nil => exact absurd rfl ne
          | cons x r => rfl
      rw [e]
      exact h H2 s2
theorem wd_inj {a b : Wd} : Str.ofString a.s = Str.ofString b.s → a = b := by
  cases a <;> cases b <;> first | (intro _; rfl) | (intro h; exact absurd h (by decide +kernel))
/-- a part with its number of things, whose object may change -/
structure PartObj (K : PySem.W.Frag) (H : Hp) (a dx l : Addr) (as : List Addr) (t : T) : Prop where
  obj : H a = some (.ins (cP K) dx (F_Part (.str t.w.s) (.int t.n) (.ref l) (.int t.things)))
  lst : H l = some (.lst (as.map V.ref))
  bods : BodsAt (cP K) H t.bodies as
theorem counted_things (w : Wd) (n h : Nat) (bs : List (List T)) : (T.mk w n h bs).counted.things = (bs.map thB).sum + (match w with | .both => bs.length - 1 | .recipe => 0 | _ => 1) := rfl
def sp_Part_count_things (K : PySem.W.Frag) : Sp := sp1 fun v H Q _ => ∃ (a dx l : Addr) (as : List Addr) (t : T), v = .ref a ∧ PartObj K H a dx l as t ∧ t.bodies.length ≤ 100000 ∧ (∀ b ∈ t.bodies, b.length ≤ 100000) ∧ (t.w = .both → t.bodies ≠ []) ∧
  ∀ H1, Same H H1 → Q .non (upd H1 a (.ins (cP K) dx (F_Part (.str t.w.s) (.int t.n) (.ref l) (.int t.counted.things))))
theorem ok_Part_count_things (Z : Tx w K mg) : Cal P w K mg base CX0 2 (He.fAd K ("Part", some "count_things")) ["self"] (sp_Part_count_things K) := by
  obtain ⟨fd, F⟩ := Z.fd_Part_count_things
  have c_things_in := ok_things_in (P := P) (w := w) (base := base) Z
  refine ⟨⟨fd, F.ok sc_Part_count_things (fun vs H Q E h => ?_) (fun cdv A outer s H vs Q E hr h => ?_), F.bindsN fun _ _ _ _ _ _ us hl => match us, hl with | [_], _ => rfl⟩, F.kp⟩
  · exact sp1_len h
  have sc := sc_Part_count_things
  have nd : N_Part_count_things.Nodup := sc.nd
  replace h := sp1_get h
  obtain ⟨v_self, rfl, h⟩ := h
  refine ⟨_, PSs.nox (by exact ((pss_cons (ps_fld (pv 0) (pe_callB (cr_sum rfl) (by rfl) Z.b_sum (by decide +kernel) (pa_cons (pe_lc (own := [("body", 1)]) (g := (gName 1)) rfl nd (pi_list (pe_fld (pv 0) rfl)) (blkOk_by (own := [("body", 1)]) (N := N_Part_count_things) (sc := defScope s_Part_count_things) (by decide +kernel)) (fun _ _ _ _ _ => (pg_name (i := 1) nd rfl (by first | exact Or.inl rfl | exact Or.inr rfl))) (fun _ _ _ _ _ => pts_nil) (fun _ _ _ _ _ => (pe_calC (E := E0) c_things_in (hr.mono (by decide)) rfl Z.g_things_in pass0 (pa_cons (pv 1) pa_nil)))) pa_nil)) rfl)
 (pss_one (ps_if (pt_cmpR op_eq (pe_fld (pv 0) rfl) pe_str (nomark _)) (pss_one (ps_fldaug (pv 0) (pe_op op_sub (pe_callB call_len_seq (by rfl) Z.b_len (by decide +kernel) (pa_cons (pe_fld (pv 0) rfl) pa_nil)) pe_int) in_add)) (pss_one (ps_if (pt_cmpR op_ne (pe_fld (pv 0) rfl) pe_str (nomark _)) (pss_one (ps_fldaug (pv 0) pe_int in_add)) pss_nil))))))), ?_⟩
  obtain ⟨a, dx, l, as, ⟨w', n', h', bs⟩, rfl, ⟨ho, hl, hb⟩, hz, hz2, hnb, h⟩ := h
  have el := hb.len
  simp only [T.w, T.n, T.things, T.bodies] at ho hb hz hz2 hnb h el
  simp [cxK, cxKn, Cx.nox, wipe, PySem.Str.mk.injEq, exists_eq_left', tCall, rI, rU, CMul, tSeq, tIfS, tTest, tOp, tVar, tC, rEq, rNe, tRet, tRetN, tNext, tChain, rI0, tCB, tCons, tNil, tIf, tB, tAnd, tOr, tNot, tAndV, tOrV, tNotV, tDrop, tUn, tAsg, gName, L2.start, List.length_cons, List.length_nil, List.map_cons, List.map_nil, List.cons_append, List.nil_append, List.getElem?_cons_zero, List.getElem?_cons_succ, List.set_cons_zero, List.set_cons_succ, Nat.sub_self, List.replicate_zero, List.replicate_succ, Nat.succ_sub_succ, Nat.reduceSub, Nat.reduceAdd, Nat.reduceLT, Option.some.injEq, exists_eq_left, exists_and_left, exists_eq, V.bl.injEq, V.int.injEq, V.str.injEq, V.ref.injEq, and_true, true_and, scal, exists_eq', decide_eq_true_eq, if_false_left, reduceIte, Bool.false_eq_true, ite_true, ite_false, N_Part_count_things, -List.lookup_eq_none_iff, sFld, tFld, sFldAug, tMeth, tMake, tBM, tBM0, rAppend, rPop, HO.ins.injEq, HO.lst.injEq, HO.dK.injEq, upd_same, upd_upd, and_assoc, and_self, tLst, tTup, tDNewK, tDNewT, true_implies, forall_eq, forall_eq']
  refine ⟨_, rfl, a, _, _, _, _, rfl, ho, Z.cl_Part, Z.n_Part_bodies, lk_Part_bodies _ _ _ _, l, rfl, ⟨_, SqL.of hl⟩, fun D hD => lc_fn (walk_list (xs := as.map V.ref)) (fun i => .int ((bs[i]?.map thB).getD 0)) hD (fun H2 s2 => s2.seq (SqL.of hl)) (by rw [List.length_map, el]; exact line_lt hz) ?_ ?_⟩
  · rintro i x H2 H3 R hi s2 ⟨rfl, hx⟩ k
    refine ⟨rfl, ?_⟩
    rw [List.length_map, el] at hi
    obtain ⟨ai, ps, ha2, hp, hq⟩ := hb.get (List.getElem?_eq_getElem hi)
    rw [List.getElem?_map, ha2] at hx
    cases hx
    refine ⟨_, rfl, _, rfl, ai, bs[i], ps, rfl, s2 _ _ hp, PartsAt.mono s2 _ _ hq, hz2 _ (List.getElem_mem hi), fun H4 s4 => ?_⟩
    have k1 := k H4 s4
    rw [List.getElem?_eq_getElem hi] at k1
    exact k1
  · intro H2 s2 hD2
    have ho2 := s2 _ _ ho
    have hl2 := s2 _ _ hl
    have ne : l ≠ a := ne_of hl2 ho2 (by intro z; cases z)
    refine ⟨D, bs.map fun b => (thB b : Int), rfl, .inl (.inl ?_), ?_⟩
    · rw [hD2, List.map_map]
      congr 2
      rw [List.length_map, el]
      exact range_list bs _ _ fun i x hx => by rw [hx]; rfl
    have e : (bs.map fun b => (thB b : Int)).sum = (((bs.map thB).sum : Nat) : Int) := by
      rw [← sum_nat, List.map_map]; rfl
    rw [e]
    simp [ho2, Z.cl_Part, Z.n_Part_things, Z.n_Part_word, Z.n_Part_bodies, pt_Part_things, lk_Part_word, lk_Part_things, lk_Part_bodies, ln_Part, -List.lookup_eq_none_iff, sFld, tFld, sFldAug, tMeth, tMake, tBM, tBM0, rAppend, rPop, HO.ins.injEq, HO.lst.injEq, HO.dK.injEq, upd_same, upd_upd, and_assoc, and_self, tLst, tTup, tDNewK, tDNewT, true_implies, forall_eq, forall_eq', upd_ne ne, hl2, SqL, rAdd]
    refine if_intro (fun c1 => ?_) fun c1 => ?_
    · obtain rfl : w' = .both := wd_inj (b := .both) c1
      refine ⟨_, .inl (.inl (.inl (by rw [upd_ne ne]; exact hl2))), ?_⟩
      have hpos : 1 ≤ bs.length := List.length_pos_iff.mpr (hnb rfl)
      have e2 : ((((bs.map thB).sum : Nat) : Int) + (((as.map V.ref).length : Nat) - 1 : Int)) = (((T.mk .both n' h' bs).counted.things : Nat) : Int) := by
        rw [counted_things, List.length_map, el]
        show _ = (((bs.map thB).sum + (bs.length - 1) : Nat) : Int)
        omega
      rw [e2]
      exact h H2 s2
    have hb1 : w' ≠ .both := fun z => c1 (by rw [z]; rfl)
    by_cases hb2 : w' = .recipe
    · subst hb2
      exact .inl ⟨rfl, h H2 s2⟩
    · refine .inr ⟨fun z => hb2 (wd_inj (b := .recipe) z), ?_⟩
      have e2 : (((bs.map thB).sum : Nat) : Int) + 1 = (((T.mk w' n' h' bs).counted.things : Nat) : Int) := by
        rw [counted_things]
        cases w' <;> first | exact absurd rfl hb1 | exact absurd rfl hb2 | rfl
      rw [e2]
      exact h H2 s2
end
end Bw
end

section
set_option Elab.async false
set_option linter.all false
set_option maxRecDepth 100000
set_option maxHeartbeats 4000000
/-! The recipes: the book. -/
namespace Bw
open PySem PySem.Spec PyProof.Rows L2 TL
/-- a dict from names to their places -/
def dix (l : List (List Nat)) : List (L2.Key × V) := l.zipIdx.map fun p => (Sum.inr (S p.1), V.int p.2)
theorem dix_snoc (l : List (List Nat)) (w : List Nat) : dix (l ++ [w]) = dix l ++ [(Sum.inr (S w), V.int l.length)] := by
  unfold dix
  rw [List.zipIdx_append, List.map_append]
  simp
theorem dix_len (l : List (List Nat)) : (dix l).length = l.length := by unfold dix; simp
theorem valV_zip (w : List Nat) : ∀ (l : List (List Nat)) (n : Nat), valV ((l.zipIdx n).map fun p => ((Sum.inr (S p.1) : L2.Key), V.int p.2)) (Sum.inr (S w)) = (if l.contains w = true then some (n + l.findIdx fun x => x == w) else none).map fun i : Nat => V.int i
  | [], n => rfl
  | x :: r, n => by
    rw [List.zipIdx_cons, List.map_cons]
    by_cases h : x = w
    · subst h
      rw [valV_pos rfl, if_pos (by simp)]
      simp [List.findIdx_cons]
    · rw [valV_neg (fun z => h (S_inj (Sum.inr.inj z)))]
      have ih := valV_zip w r (n + 1)
      rw [ih]
      have h2 : (x == w) = false := by simpa using h
      have h3 : (w == x) = false := by simpa using fun z : w = x => h z.symm
      simp only [List.contains_cons, List.findIdx_cons, h2, h3, Bool.false_or, cond_false]
      congr 1
      split
      · congr 1; omega
      · rfl
theorem valV_dix (l : List (List Nat)) (w : List Nat) : valV (dix l) (Sum.inr (S w)) = (idx l w).map fun i : Nat => V.int i := by
  have h := valV_zip w l 0
  unfold dix
  rw [h]
  unfold idx Vbwbab.indexOf
  simp
theorem idx_none {l : List (List Nat)} {w : List Nat} : idx l w = none ↔ l.contains w = false := by
  unfold idx Vbwbab.indexOf
  by_cases h : l.contains w = true
  · rw [if_pos h, h]; simp
  · rw [if_neg h]; simpa using h
theorem idx_snoc {l : List (List Nat)} {w : List Nat} (h : idx l w = none) : idx (l ++ [w]) w = some l.length := by
  have hc := idx_none.mp h
  unfold idx Vbwbab.indexOf
  rw [if_pos (by simp)]
  congr 1
  rw [List.findIdx_append]
  have : l.findIdx (fun x => x == w) = l.length := by
    rw [List.findIdx_eq_length]
    intro x hx
    have : ¬ x = w := fun z => by subst z; simp [hx] at hc
    simpa using this
  rw [this]; simp
section
variable {P : Program} {w : World} {K : PySem.W.Frag} {mg : Str → Option Value} {base : Heap}
structure BA where
  dxB : Addr
  dr : Addr
  pl : Addr
  ds : Addr
  tl : Addr
  dc : Addr
  pas : List Addr
  tas : List Addr
def bms (K : PySem.W.Frag) (a : Addr) (A : BA) (k : Bk) : List (Addr × HO) :=
  [(a, .ins (cB K) A.dxB (F_Book (.ref A.dr) (.ref A.pl) (.ref A.ds) (.ref A.tl) (.ref A.dc) (.bl k.ei))), (A.dr, .dK (dix k.names)), (A.pl, .lst (A.pas.map V.ref)), (A.ds, .dK (dix k.snames)), (A.tl, .lst (A.tas.map V.ref)), (A.dc, .dK (dix k.conds))]
def TimesAt (G : Hp) (ts : List (Nat × Nat)) (tas : List Addr) : Prop := tas.length = ts.length ∧ ∀ (i : Nat) (a : Addr) (t : Nat × Nat), tas[i]? = some a → ts[i]? = some t → G a = some (.tup [.int t.1, .int t.2])
structure BookAt (K : PySem.W.Frag) (H G : Hp) (a : Addr) (A : BA) (k : Bk) (rest : List (Addr × HO)) : Prop where
  lay : Lay H G (bms K a A k ++ rest)
  parts : PartsAt (cP K) G (k.recs.map (·.2)) A.pas
  times : TimesAt G (k.steps.map (·.2)) A.tas
def sp_Book_init (K : PySem.W.Frag) : Sp := sp1 fun v H Q _ => ∃ (p dx : Addr) (G : Hp) (rest : List (Addr × HO)), v = .ref p ∧ Lay H G ((p, .ins (cB K) dx []) :: rest) ∧ ∀ (H' : Hp) (A : BA), A.dxB = dx → BookAt K H' G p A Bk.empty rest → Q .non H'
def sp_Book_condition_of (K : PySem.W.Frag) : Sp := sp2 fun v0 v1 H Q E => ∃ (a : Addr) (A : BA) (k : Bk) (G : Hp) (rest : List (Addr × HO)) (nm : List Nat), v0 = .ref a ∧ v1 = .str (S nm) ∧ BookAt K H G a A k rest ∧ k.conds.length ≤ 100000 ∧
  (condOf k nm = none → Rz K (-1008) E) ∧ ∀ i k', condOf k nm = some (i, k') → ∀ H', BookAt K H' G a A k' rest → Q (.int (i : Nat)) H'
theorem raise_wr (Z : Tx w K mg) {σ : L2.St} {H : Hp} {E : XK} (hR : Rz K (-1008) E) : tMkE (He.ga K "WrongRecipes") (sp_WrongRecipes_init K) tNil σ H fun cls d H' => E cls d H' :=
  ⟨by decide, fun a ha => ⟨_, rfl, a, rfl, rz_made hR Z.x_WrongRecipes Z.em_WrongRecipes ha⟩⟩
theorem opt_none {o : Option Nat} : (o.map fun i : Nat => V.int i) = none ↔ o = none := by cases o <;> simp
theorem ok_Book_condition_of (Z : Tx w K mg) : Cal P w K mg base (L2.CX P w) 5 (He.fAd K ("Book", some "condition_of")) ["self", "name"] (sp_Book_condition_of K) := by
  obtain ⟨fd, F⟩ := Z.fd_Book_condition_of
  have c_WrongRecipes_init := ok_WrongRecipes_init (P := P) (w := w) (base := base) Z
  refine ⟨⟨fd, F.ok sc_Book_condition_of (fun vs H Q E h => ?_) (fun cdv A outer s H vs Q E hr h => ?_), F.bindsN fun _ _ _ _ _ _ us hl => match us, hl with | [_, _], _ => rfl⟩, F.kp⟩
  · exact sp2_len h
  have sc := sc_Book_condition_of
  have nd : N_Book_condition_of.Nodup := sc.nd
  replace h := sp2_get h
  obtain ⟨v_self, v_name, rfl, h⟩ := h
  refine ⟨_, by exact ((pss_cons (ps_if (pt_cmp (pc_dnotin (hu_of hr) (pv 1) (pe_fld (pv 0) rfl))) (pss_cons (ps_if (pt_cmpR op_eq (pe_callB call_lenD (by rfl) Z.b_len (by decide +kernel) (pa_cons (pe_fld (pv 0) rfl) pa_nil)) (pe_gi rfl Z.g_MOST_CONDITIONS) (nomark _)) (pss_one (ps_raise rfl (takes_of rfl rfl rfl rfl) (pmk_ecC0 Z.x_WrongRecipes Z.in_WrongRecipes Z.fn_WrongRecipes c_WrongRecipes_init (hr.mono (by decide)) pass0 rfl Z.g_WrongRecipes))) pss_nil)
 (pss_one (ps_dput (hu_of hr) (pe_fld (pv 0) rfl) (pv 1) (pe_callB call_lenD (by rfl) Z.b_len (by decide +kernel) (pa_cons (pe_fld (pv 0) rfl) pa_nil)) rfl))) pss_nil)
 (pss_one (ps_ret (pe_dget (hu_of hr) (pe_fld (pv 0) rfl) (pv 1) (fun _ _ => rfl)))))), ?_⟩
  obtain ⟨a, A, k, G, rest, nm, rfl, rfl, B, hz, hE, hQ⟩ := h
  have ha := B.lay.get (k := a) (o := _) (List.mem_append_left _ (List.mem_cons_self ..))
  have hc := B.lay.get (k := A.dc) (o := .dK (dix k.conds)) (by simp [bms])
  simp [cxK, cxKn, Cx.nox, wipe, PySem.Str.mk.injEq, exists_eq_left', tCall, rI, rU, CMul, tSeq, tIfS, tTest, tOp, tVar, tC, rEq, rNe, tRet, tRetN, tNext, tChain, rI0, tCB, tCons, tNil, tIf, tB, tAnd, tOr, tNot, tAndV, tOrV, tNotV, tDrop, tUn, tAsg, gName, L2.start, List.length_cons, List.length_nil, List.map_cons, List.map_nil, List.cons_append, List.nil_append, List.getElem?_cons_zero, List.getElem?_cons_succ, List.set_cons_zero, List.set_cons_succ, Nat.sub_self, List.replicate_zero, List.replicate_succ, Nat.succ_sub_succ, Nat.reduceSub, Nat.reduceAdd, Nat.reduceLT, Option.some.injEq, exists_eq_left, exists_and_left, exists_eq, V.bl.injEq, V.int.injEq, V.str.injEq, V.ref.injEq, and_true, true_and, scal, exists_eq', decide_eq_true_eq, if_false_left, reduceIte, Bool.false_eq_true, ite_true, ite_false, N_Book_condition_of, -List.lookup_eq_none_iff, sFld, tFld, sFldAug, tMeth, tMake, tBM, tBM0, rAppend, rPop, HO.ins.injEq, HO.lst.injEq, HO.dK.injEq, upd_same, upd_upd, and_assoc, and_self, tLst, tTup, tDNewK, tDNewT, true_implies, forall_eq, forall_eq', ha, Z.cl_Book, Z.n_Book_conditions, lk_Book_conditions, sDPut, tDGet, tDNotIn]
  refine ⟨_, DGet.k (k := .inr (S nm)) hc, ?_⟩
  rw [valV_dix]
  refine if_intro (fun c => ⟨_, hc, ?_⟩) fun c => ?_
  · have c' := opt_none.mp c
    refine if_intro (fun c2 => raise_wr Z (hE ?_)) fun c2 => ⟨_, hc, _, DPut.k (k := .inr (S nm)) hc (by rw [dix_len]; exact line_lt hz), ?_⟩
    · unfold condOf; rw [c']; exact if_pos (by rw [dix_len] at c2; omega)
    have e : putK (dix k.conds) (Sum.inr (S nm)) (V.int (dix k.conds).length) = dix (k.conds ++ [nm]) := by
      rw [putK_new _ (by rw [valV_dix, c']; rfl), dix_snoc, dix_len]
    rw [e]
    have L : BookAt K (upd H A.dc (.dK (dix (k.conds ++ [nm])))) G a A { k with conds := k.conds ++ [nm] } rest :=
      ⟨B.lay.upd (xs := [(a, .ins (cB K) A.dxB (F_Book (.ref A.dr) (.ref A.pl) (.ref A.ds) (.ref A.tl) (.ref A.dc) (.bl k.ei))), (A.dr, .dK (dix k.names)), (A.pl, .lst (A.pas.map V.ref)), (A.ds, .dK (dix k.snames)), (A.tl, .lst (A.tas.map V.ref))]) (ys := rest), B.parts, B.times⟩
    have ha2 := L.lay.get (k := a) (o := _) (List.mem_append_left _ (List.mem_cons_self ..))
    refine ⟨_, _, _, ha2, Z.cl_Book, Z.n_Book_conditions, _, lk_Book_conditions _ _ _ _ _ _, _, rfl, _, ?_, hQ k.conds.length _ ?_ _ L⟩
    · have := DGet.k (k := .inr (S nm)) (upd_same (H := H) (a := A.dc) (o := .dK (dix (k.conds ++ [nm]))))
      rw [valV_dix, idx_snoc c'] at this
      exact this
    · unfold condOf; rw [c']; exact if_neg (by rw [dix_len] at c2; omega)
  · obtain ⟨i, hi⟩ : ∃ i, idx k.conds nm = some i := Option.ne_none_iff_exists'.mp (fun z => c (opt_none.mpr z))
    have := DGet.k (k := .inr (S nm)) hc
    rw [valV_dix, hi] at this
    exact ⟨_, this, hQ i k (by unfold condOf; rw [hi]) H B⟩
/-- the times that are told -/
def TimeV (G : Hp) (v : V) : Option (Nat × Nat) → Prop
  | none => v = .non
  | some t => ∃ a, v = .ref a ∧ G a = some (.tup [.int t.1, .int t.2])
def sp_Book_step_of (K : PySem.W.Frag) : Sp := sp3 fun v0 v1 v2 H Q E => ∃ (a : Addr) (A : BA) (k : Bk) (G : Hp) (rest : List (Addr × HO)) (nm : List Nat) (tm : Option (Nat × Nat)), v0 = .ref a ∧ v1 = .str (S nm) ∧ TimeV G v2 tm ∧ BookAt K H G a A k rest ∧ k.steps.length ≤ 100000 ∧
  (stepOf k nm tm = none → Rz K (-1008) E) ∧ ∀ i k', stepOf k nm tm = some (i, k') → ∀ H' G' A', Same G G' → A'.dxB = A.dxB → BookAt K H' G' a A' k' rest → Q (.int (i : Nat)) H'
theorem TimeV.mono {G G' : Hp} (s : Same G G') {v : V} : ∀ {tm : Option (Nat × Nat)}, TimeV G v tm → TimeV G' v tm
  | none, h => h
  | some _, ⟨a, e, h⟩ => ⟨a, e, s _ _ h⟩
theorem TimesAt.mono {G G' : Hp} (s : Same G G') {ts : List (Nat × Nat)} {tas : List Addr} (h : TimesAt G ts tas) : TimesAt G' ts tas := ⟨h.1, fun i a t h1 h2 => s _ _ (h.2 i a t h1 h2)⟩
theorem TimesAt.snoc {G : Hp} {ts : List (Nat × Nat)} {tas : List Addr} {t : Nat × Nat} {a : Addr} (h : TimesAt G ts tas) (x : G a = some (.tup [.int t.1, .int t.2])) : TimesAt G (ts ++ [t]) (tas ++ [a]) := by
  refine ⟨by simp [h.1], fun i b u h1 h2 => ?_⟩
  by_cases hi : i < ts.length
  · rw [List.getElem?_append_left (by rw [h.1]; exact hi)] at h1
    rw [List.getElem?_append_left hi] at h2
    exact h.2 i b u h1 h2
  · rw [List.getElem?_append_right (by rw [h.1]; omega)] at h1
    rw [List.getElem?_append_right (by omega)] at h2
    have e : i - ts.length = 0 := by
      have := (List.getElem?_eq_some_iff.mp h2).1
      simp at this; omega
    rw [h.1, e] at h1
    rw [e] at h2
    cases h1; cases h2
    exact x
theorem pair_eqv (a b c d : Nat) : PyData.eqv (.tuple [.int a, .int b]) (.tuple [.int c, .int d]) = decide ((a, b) = (c, d)) := by
  have : PyData.eqv (.tuple [.int a, .int b]) (.tuple [.int c, .int d]) = (((a : Int) == c) && (((b : Int) == d) && true)) := rfl
  rw [this, Bool.and_true]
  rw [Bool.eq_iff_iff, Bool.and_eq_true, decide_eq_true_eq, beq_iff_eq, beq_iff_eq, Prod.mk.injEq]
  omega
theorem dp_pair {H : Hp} {a : Addr} {t : Nat × Nat} (h : H a = some (.tup [.int t.1, .int t.2])) : Dp K H (.ref a) (.tuple [.int t.1, .int t.2]) := .tup (.inl (.inl h)) (.cons (.int _) (.cons (.int _) .nil))
/-- a step's entry is there -/
def hasStep (k : Bk) (nm : List Nat) (tm : Option (Nat × Nat)) (k1 : Bk) (i : Nat) : Prop := idx k1.snames nm = some i ∧ ((∃ p, tm = some p ∧ k1.steps[i]?.map (·.2) ≠ some p) → stepOf k nm tm = none) ∧ ((∀ p, tm = some p → k1.steps[i]?.map (·.2) = some p) → stepOf k nm tm = some (i, k1))
theorem ok_Book_step_of (Z : Tx w K mg) : Cal P w K mg base (L2.CX P w) 5 (He.fAd K ("Book", some "step_of")) ["self", "name", "times"] (sp_Book_step_of K) := by
  obtain ⟨fd, F⟩ := Z.fd_Book_step_of
  have c_WrongRecipes_init := ok_WrongRecipes_init (P := P) (w := w) (base := base) Z
  refine ⟨⟨fd, F.ok sc_Book_step_of (fun vs H Q E h => ?_) (fun cdv A outer s H vs Q E hr h => ?_), F.bindsN fun _ _ _ _ _ _ us hl => match us, hl with | [_, _, _], _ => rfl⟩, F.kp⟩
  · exact sp3_len h
  have sc := sc_Book_step_of
  have nd : N_Book_step_of.Nodup := sc.nd
  replace h := sp3_get h
  obtain ⟨v_self, v_name, v_times, rfl, h⟩ := h
  refine ⟨_, by exact ((C8.pss_cut (ps_if (pt_cmp (pc_dnotin (hu_of hr) (pv 1) (pe_fld (pv 0) rfl))) (pss_cons (ps_if (pt_cmpR op_eq (pe_callB call_lenD (by rfl) Z.b_len (by decide +kernel) (pa_cons (pe_fld (pv 0) rfl) pa_nil)) (pe_gi rfl Z.g_MOST_STEPS) (nomark _)) (pss_one (ps_raise rfl (takes_of rfl rfl rfl rfl) (pmk_ecC0 Z.x_WrongRecipes Z.in_WrongRecipes Z.fn_WrongRecipes c_WrongRecipes_init (hr.mono (by decide)) pass0 rfl Z.g_WrongRecipes))) pss_nil)
 (pss_cons (ps_dput (hu_of hr) (pe_fld (pv 0) rfl) (pv 1) (pe_callB call_lenD (by rfl) Z.b_len (by decide +kernel) (pa_cons (pe_fld (pv 0) rfl) pa_nil)) rfl)
 (pss_one (ps_expr (pe_bm PySem.F.plainAttrs_list PySem.F.slot_list_append PySem.F.type_list_append mt_append (pe_fld (pv 0) rfl) (pa_cons (pe_ifExp (pt_cmpR op_isN (pv 2) pe_non (nomark _)) (pe_tup (pa_cons pe_int (pa_cons pe_int pa_nil))) (pv 2)) pa_nil)))))) pss_nil)
 (pss_cons (ps_set (i := 3) nd rfl (by first | exact Or.inl rfl | exact Or.inr rfl) (pe_dget (hu_of hr) (pe_fld (pv 0) rfl) (pv 1) (fun _ _ => rfl)))
 (pss_cons (ps_if (PW.pt (pw_and (pt_cmpR op_notN (pv 2) pe_non (nomark _)) (pw_and1 (pt_cmpR (op_neD hr.units) (pv 2) (pe_ix ix_list (pe_fld (pv 0) rfl) (pv 3) (fun _ _ => rfl)) (nomark _))))) (pss_one (ps_raise rfl (takes_of rfl rfl rfl rfl) (pmk_ecC0 Z.x_WrongRecipes Z.in_WrongRecipes Z.fn_WrongRecipes c_WrongRecipes_init (hr.mono (by decide)) pass0 rfl Z.g_WrongRecipes))) pss_nil)
 (pss_one (ps_ret (pv 3))))))), ?_⟩
  obtain ⟨a, A, k, G, rest, nm, tm, rfl, rfl, ht, B, hz, hE, hQ⟩ := h
  have ha := B.lay.get (k := a) (o := _) (List.mem_append_left _ (List.mem_cons_self ..))
  have hs := B.lay.get (k := A.ds) (o := .dK (dix k.snames)) (by simp [bms])
  refine ⟨fun σ' H' => ∃ G' A' k1 i, σ' = [some (.ref a), some (.str (S nm)), some v_times, none] ∧ Same G G' ∧ A'.dxB = A.dxB ∧ BookAt K H' G' a A' k1 rest ∧ hasStep k nm tm k1 i, ?_, ?_⟩
  · simp [cxK, cxKn, Cx.nox, wipe, PySem.Str.mk.injEq, exists_eq_left', tCall, rI, rU, CMul, tSeq, tIfS, tTest, tOp, tVar, tC, rEq, rNe, tRet, tRetN, tNext, tChain, rI0, tCB, tCons, tNil, tIf, tB, tAnd, tOr, tNot, tAndV, tOrV, tNotV, tDrop, tUn, tAsg, gName, L2.start, List.length_cons, List.length_nil, List.map_cons, List.map_nil, List.cons_append, List.nil_append, List.getElem?_cons_zero, List.getElem?_cons_succ, List.set_cons_zero, List.set_cons_succ, Nat.sub_self, List.replicate_zero, List.replicate_succ, Nat.succ_sub_succ, Nat.reduceSub, Nat.reduceAdd, Nat.reduceLT, Option.some.injEq, exists_eq_left, exists_and_left, exists_eq, V.bl.injEq, V.int.injEq, V.str.injEq, V.ref.injEq, and_true, true_and, scal, exists_eq', decide_eq_true_eq, if_false_left, reduceIte, Bool.false_eq_true, ite_true, ite_false, N_Book_step_of, -List.lookup_eq_none_iff, sFld, tFld, sFldAug, tMeth, tMake, tBM, tBM0, rAppend, rPop, HO.ins.injEq, HO.lst.injEq, HO.dK.injEq, upd_same, upd_upd, and_assoc, and_self, tLst, tTup, tDNewK, tDNewT, true_implies, forall_eq, forall_eq', ha, Z.cl_Book, Z.n_Book_steps, Z.n_Book_times, lk_Book_steps, lk_Book_times, sDPut, tDGet, tDNotIn]
    refine ⟨_, DGet.k (k := .inr (S nm)) hs, ?_⟩
    rw [valV_dix]
    refine if_intro (fun c => ⟨_, hs, ?_⟩) fun c => ?_
    · have c' := opt_none.mp c
      refine if_intro (fun c2 => raise_wr Z (hE ?_)) fun c2 => ⟨_, hs, _, DPut.k (k := .inr (S nm)) hs (by rw [dix_len]; unfold Bk.snames; rw [List.length_map]; exact line_lt hz), ?_⟩
      · unfold stepOf; rw [c']
        exact if_pos (by rw [dix_len] at c2; unfold Bk.snames at c2; rw [List.length_map] at c2; omega)
      have e : putK (dix k.snames) (Sum.inr (S nm)) (V.int (dix k.snames).length) = dix (k.snames ++ [nm]) := by
        rw [putK_new _ (by rw [valV_dix, c']; rfl), dix_snoc, dix_len]
      rw [e]
      have L1 : Lay (upd H A.ds (.dK (dix (k.snames ++ [nm])))) G ((bms K a A k ++ rest).set 3 (A.ds, .dK (dix (k.snames ++ [nm])))) := B.lay.updAt 3 rfl
      have nw : idx k.snames nm = none := c'
      have fin : ∀ (H2 : Hp) (G' : Hp) (tp : Addr), Same G G' → Lay H2 G' ((bms K a A k ++ rest).set 3 (A.ds, .dK (dix (k.snames ++ [nm])))) → G' tp = some (.tup [.int (tm.getD (0, 0)).1, .int (tm.getD (0, 0)).2]) →
          ∃ G', Same G G' ∧ ∃ A' : BA, A'.dxB = A.dxB ∧ ∃ k1 : Bk, BookAt K (upd H2 A.tl (.lst (A.tas.map V.ref ++ [.ref tp]))) G' a A' k1 rest ∧ ∃ i, hasStep k nm tm k1 i := fun H2 G' tp sg L htp => by
        refine ⟨G', sg, { A with tas := A.tas ++ [tp] }, rfl, { k with steps := k.steps ++ [(nm, tm.getD (0, 0))] }, ⟨?_, B.parts.mono sg _ _, ?_⟩, k.steps.length, ?_, ?_, ?_⟩
        · have L2 : Lay (upd H2 A.tl (.lst (A.tas.map V.ref ++ [.ref tp]))) G' (((bms K a A k ++ rest).set 3 (A.ds, .dK (dix (k.snames ++ [nm])))).set 4 (A.tl, .lst (A.tas.map V.ref ++ [.ref tp]))) := L.updAt 4 rfl
          have e2 : A.tas.map V.ref ++ [V.ref tp] = (A.tas ++ [tp]).map V.ref := by rw [List.map_append]; rfl
          have e3 : k.snames ++ [nm] = ({ k with steps := k.steps ++ [(nm, tm.getD (0, 0))] } : Bk).snames := by unfold Bk.snames; rw [List.map_append]; rfl
          rw [e2, e3] at L2
          rw [e2]
          exact L2
        · rw [List.map_append]; exact (B.times.mono sg).snoc htp
        · have := idx_snoc nw
          unfold Bk.snames at this ⊢
          rw [List.map_append]
          rw [List.length_map] at this
          exact this
        · rintro ⟨p, rfl, hp⟩
          exact absurd (by simp) hp
        · intro _
          unfold stepOf; rw [nw]
          exact if_neg (by rw [dix_len] at c2; unfold Bk.snames at c2; rw [List.length_map] at c2; omega)
      have ha1 := L1.getAt 0 rfl
      have ht1 := L1.getAt 4 rfl
      refine ⟨_, _, _, ha1, Z.cl_Book, Z.n_Book_times, _, lk_Book_times _ _ _ _ _ _, .inl ⟨rfl, _, SqL.of ht1⟩, ?_⟩
      have hlen : (A.tas.map V.ref).length < sizeLine := by rw [List.length_map, B.times.1, List.length_map]; exact line_lt hz
      refine if_intro (fun cn => ⟨by decide, fun p hp => ⟨_, rfl, _, ?_, hlen, ?_⟩⟩) fun cn => ⟨_, rfl, _, ht1, hlen, ?_⟩
      · have := (L1.new (k := p) (o := .tup [.int 0, .int 0]) hp).getAt 5 rfl
        exact this
      · have et : tm = none := by
          cases tm with
          | none => rfl
          | some p => obtain ⟨q, e, _⟩ := ht; rw [e] at cn; cases cn
        subst et
        have ⟨L2, sg⟩ := (L1.new (k := p) (o := .tup [.int 0, .int 0]) hp).fix
        exact fin _ _ p sg L2 upd_same
      · obtain ⟨q, et⟩ : ∃ q, tm = some q := by
          cases tm with
          | none => exact absurd ht cn
          | some q => exact ⟨q, rfl⟩
        subst et
        obtain ⟨tp, rfl, htp⟩ := ht
        exact fin _ _ tp (Same.refl G) L1 htp
    · obtain ⟨i, hi⟩ : ∃ i, idx k.snames nm = some i := Option.ne_none_iff_exists'.mp (fun z => c (opt_none.mpr z))
      refine ⟨G, Same.refl G, A, rfl, k, B, i, hi, ?_, ?_⟩
      · rintro ⟨p, rfl, hp⟩
        unfold stepOf; rw [hi]; exact if_neg hp
      · intro hp
        unfold stepOf; rw [hi]
        cases tm with
        | none => rfl
        | some p => exact if_pos (hp p rfl)
  · rintro σ' H' ⟨G', A', k1, i, rfl, s1, eA, B1, hi, hn, hy⟩
    have ha := B1.lay.get (k := a) (o := _) (List.mem_append_left _ (List.mem_cons_self ..))
    have hs := B1.lay.get (k := A'.ds) (o := .dK (dix k1.snames)) (by simp [bms])
    have htl := B1.lay.get (k := A'.tl) (o := .lst (A'.tas.map V.ref)) (by simp [bms])
    simp [cxK, cxKn, Cx.nox, wipe, PySem.Str.mk.injEq, exists_eq_left', tCall, rI, rU, CMul, tSeq, tIfS, tTest, tOp, tVar, tC, rEq, rNe, tRet, tRetN, tNext, tChain, rI0, tCB, tCons, tNil, tIf, tB, tAnd, tOr, tNot, tAndV, tOrV, tNotV, tDrop, tUn, tAsg, gName, L2.start, List.length_cons, List.length_nil, List.map_cons, List.map_nil, List.cons_append, List.nil_append, List.getElem?_cons_zero, List.getElem?_cons_succ, List.set_cons_zero, List.set_cons_succ, Nat.sub_self, List.replicate_zero, List.replicate_succ, Nat.succ_sub_succ, Nat.reduceSub, Nat.reduceAdd, Nat.reduceLT, Option.some.injEq, exists_eq_left, exists_and_left, exists_eq, V.bl.injEq, V.int.injEq, V.str.injEq, V.ref.injEq, and_true, true_and, scal, exists_eq', decide_eq_true_eq, if_false_left, reduceIte, Bool.false_eq_true, ite_true, ite_false, N_Book_step_of, -List.lookup_eq_none_iff, sFld, tFld, sFldAug, tMeth, tMake, tBM, tBM0, rAppend, rPop, HO.ins.injEq, HO.lst.injEq, HO.dK.injEq, upd_same, upd_upd, and_assoc, and_self, tLst, tTup, tDNewK, tDNewT, true_implies, forall_eq, forall_eq', ha, Z.cl_Book, Z.n_Book_steps, Z.n_Book_times, lk_Book_steps, lk_Book_times, sDPut, tDGet, tDNotIn]
    have g := DGet.k (k := .inr (S nm)) hs
    rw [valV_dix, hi] at g
    refine ⟨_, g, ?_⟩
    cases tm with
    | none =>
      refine .inl ⟨ht, hQ i k1 (hy fun p z => by cases z) H' G' A' s1 eA B1⟩
    | some p =>
      obtain ⟨tp, rfl, htp⟩ := ht
      refine .inr ⟨(by intro z; cases z), ?_⟩
      have hlt : i < k1.steps.length := by
        have := hi
        unfold idx Vbwbab.indexOf at this
        split at this
        · rename_i hc
          cases this
          have := List.findIdx_lt_length_of_exists (xs := k1.snames) (p := fun x => x == nm) ⟨nm, by simpa using hc, by simp⟩
          unfold Bk.snames at this ⊢
          rw [List.length_map] at this
          exact this
        · cases this
      obtain ⟨ti, hti⟩ : ∃ ti, A'.tas[i]? = some ti := ⟨A'.tas[i]'(by rw [B1.times.1, List.length_map]; exact hlt), List.getElem?_eq_getElem _⟩
      have hst : (k1.steps.map (·.2))[i]? = some (k1.steps[i].2) := by rw [List.getElem?_map, List.getElem?_eq_getElem hlt]; rfl
      have htu := B1.lay.same _ _ (B1.times.2 i ti _ hti hst)
      refine ⟨_, _, (i : Nat), _, rfl, rfl, SqL.of htl, atI_nat (by rw [List.getElem?_map, hti]; rfl), ?_⟩
      refine ⟨_, _, dp_pair (B1.lay.same _ _ (s1 _ _ htp)), dp_pair htu, rfl, rfl, ?_⟩
      rw [pair_eqv]
      have em : k1.steps[i]?.map (·.2) = some k1.steps[i].2 := by rw [List.getElem?_eq_getElem hlt]; rfl
      by_cases he : (p.1, p.2) = (k1.steps[i].2.1, k1.steps[i].2.2)
      · refine .inl ⟨by rw [decide_eq_true he]; rfl, hQ i k1 (hy fun q z => ?_) H' G' A' s1 eA B1⟩
        cases z
        rw [em]
        exact congrArg some he.symm
      · refine .inr ⟨by rw [decide_eq_false he]; rfl, raise_wr Z (hE (hn ⟨p, rfl, fun z => he ?_⟩))⟩
        rw [em] at z
        exact (Option.some.inj z).symm
def sp_Book_add_recipe (K : PySem.W.Frag) : Sp := sp3 fun v0 v1 v2 H Q E => ∃ (a p : Addr) (A : BA) (k : Bk) (G : Hp) (rest : List (Addr × HO)) (nm : List Nat) (t : T), v0 = .ref a ∧ v1 = .str (S nm) ∧ v2 = .ref p ∧ BookAt K H G a A k rest ∧ PartAt (cP K) G t p ∧ t.n = k.recs.length ∧ idx k.names nm = none ∧ k.recs.length ≤ 100000 ∧
  (addRec k nm t = none → Rz K (-1008) E) ∧ ∀ k', addRec k nm t = some k' → ∀ H' A', A'.dxB = A.dxB → BookAt K H' G a A' k' rest → Q .non H'
theorem PartAt.num {C : Addr} {H : Hp} {t : T} {a : Addr} (x : PartAt C H t a) : ∃ dx w l, H a = some (.ins C dx (F_Part w (.int t.n) l (.int t.things))) := by
  obtain ⟨w, n, h, bs⟩ := t
  unfold PartAt at x
  obtain ⟨dx, l, as, h1, _, _⟩ := x
  exact ⟨dx, _, _, h1⟩
theorem ok_Book_add_recipe (Z : Tx w K mg) : Cal P w K mg base (L2.CX P w) 5 (He.fAd K ("Book", some "add_recipe")) ["self", "name", "part"] (sp_Book_add_recipe K) := by
  obtain ⟨fd, F⟩ := Z.fd_Book_add_recipe
  have c_WrongRecipes_init := ok_WrongRecipes_init (P := P) (w := w) (base := base) Z
  refine ⟨⟨fd, F.ok sc_Book_add_recipe (fun vs H Q E h => ?_) (fun cdv A outer s H vs Q E hr h => ?_), F.bindsN fun _ _ _ _ _ _ us hl => match us, hl with | [_, _, _], _ => rfl⟩, F.kp⟩
  · exact sp3_len h
  have sc := sc_Book_add_recipe
  have nd : N_Book_add_recipe.Nodup := sc.nd
  replace h := sp3_get h
  obtain ⟨v_self, v_name, v_part, rfl, h⟩ := h
  refine ⟨_, by exact ((pss_cons (ps_if (PW.pt (pw_or (pt_cmpR op_eq (pe_callB call_lenD (by rfl) Z.b_len (by decide +kernel) (pa_cons (pe_fld (pv 0) rfl) pa_nil)) (pe_gi rfl Z.g_MOST_RECIPES) (nomark _)) (pw_or1 (pt_cmpR op_gt (pe_fld (pv 2) rfl) (pe_gi rfl Z.g_MOST_THINGS) (nomark _))))) (pss_one (ps_raise rfl (takes_of rfl rfl rfl rfl) (pmk_ecC0 Z.x_WrongRecipes Z.in_WrongRecipes Z.fn_WrongRecipes c_WrongRecipes_init (hr.mono (by decide)) pass0 rfl Z.g_WrongRecipes))) pss_nil)
 (pss_cons (ps_dput (hu_of hr) (pe_fld (pv 0) rfl) (pv 1) (pe_fld (pv 2) rfl) rfl)
 (pss_one (ps_expr (pe_bm PySem.F.plainAttrs_list PySem.F.slot_list_append PySem.F.type_list_append mt_append (pe_fld (pv 0) rfl) (pa_cons (pv 2) pa_nil))))))), ?_⟩
  obtain ⟨a, p, A, k, G, rest, nm, t, rfl, rfl, rfl, B, hp, hn, hi, hz, hE, hQ⟩ := h
  have ha := B.lay.getAt 0 rfl
  have hr := B.lay.getAt 1 rfl
  obtain ⟨dx, w', l', hp'⟩ := hp.num
  have hp2 := B.lay.same _ _ hp'
  have er : (dix k.names).length = k.recs.length := by rw [dix_len]; unfold Bk.names; rw [List.length_map]
  simp [cxK, cxKn, Cx.nox, wipe, PySem.Str.mk.injEq, exists_eq_left', tCall, rI, rU, CMul, tSeq, tIfS, tTest, tOp, tVar, tC, rEq, rNe, tRet, tRetN, tNext, tChain, rI0, tCB, tCons, tNil, tIf, tB, tAnd, tOr, tNot, tAndV, tOrV, tNotV, tDrop, tUn, tAsg, gName, L2.start, List.length_cons, List.length_nil, List.map_cons, List.map_nil, List.cons_append, List.nil_append, List.getElem?_cons_zero, List.getElem?_cons_succ, List.set_cons_zero, List.set_cons_succ, Nat.sub_self, List.replicate_zero, List.replicate_succ, Nat.succ_sub_succ, Nat.reduceSub, Nat.reduceAdd, Nat.reduceLT, Option.some.injEq, exists_eq_left, exists_and_left, exists_eq, V.bl.injEq, V.int.injEq, V.str.injEq, V.ref.injEq, and_true, true_and, scal, exists_eq', decide_eq_true_eq, if_false_left, reduceIte, Bool.false_eq_true, ite_true, ite_false, N_Book_add_recipe, -List.lookup_eq_none_iff, sFld, tFld, sFldAug, tMeth, tMake, tBM, tBM0, rAppend, rPop, HO.ins.injEq, HO.lst.injEq, HO.dK.injEq, upd_same, upd_upd, and_assoc, and_self, tLst, tTup, tDNewK, tDNewT, true_implies, forall_eq, forall_eq', ha, hp2, Z.cl_Book, Z.cl_Part, Z.n_Part_things, Z.n_Part_number, Z.n_Book_recipes, Z.n_Book_parts, lk_Book_recipes, lk_Book_parts, lk_Part_things, lk_Part_number, sDPut]
  refine ⟨_, hr, ?_⟩
  have go : ¬ (k.recs.length = 10 ∨ 30 < t.things) → ∃ x, DPut H A.dr (V.str (S nm)) (V.int ↑t.n) x ∧ True := fun _ => ⟨_, DPut.k (k := .inr (S nm)) hr (by rw [er]; exact line_lt hz), trivial⟩
  rw [er]
  refine if_intro (fun c => raise_wr Z (hE ?_)) fun c => if_intro (fun c2 => raise_wr Z (hE ?_)) fun c2 => ⟨_, DPut.k (k := .inr (S nm)) hr (by rw [er]; exact line_lt hz), ?_⟩
  · unfold addRec; exact if_pos (.inl (by omega))
  · unfold addRec; exact if_pos (.inr (by omega))
  have e : putK (dix k.names) (Sum.inr (S nm)) (V.int t.n) = dix (k.names ++ [nm]) := by
    rw [putK_new _ (by rw [valV_dix, hi]; rfl), dix_snoc, hn]
    unfold Bk.names; rw [List.length_map]
  rw [e]
  have L1 : Lay (upd H A.dr (.dK (dix (k.names ++ [nm])))) G ((bms K a A k ++ rest).set 1 (A.dr, .dK (dix (k.names ++ [nm])))) := B.lay.updAt 1 rfl
  have ha1 := L1.getAt 0 rfl
  have hl1 := L1.getAt 2 rfl
  have len : (A.pas.map V.ref).length < sizeLine := by rw [List.length_map, B.parts.len, List.length_map]; exact line_lt hz
  refine ⟨_, _, _, ha1, Z.cl_Book, Z.n_Book_parts, _, lk_Book_parts _ _ _ _ _ _, .inl ⟨rfl, _, SqL.of hl1⟩, _, rfl, _, hl1, len, hQ { k with recs := k.recs ++ [(nm, t)] } ?_ _ { A with pas := A.pas ++ [p] } rfl ⟨?_, ?_, B.times⟩⟩
  · unfold addRec; exact if_neg (by omega)
  · have L2 : Lay (upd _ A.pl (.lst (A.pas.map V.ref ++ [.ref p]))) G (((bms K a A k ++ rest).set 1 (A.dr, .dK (dix (k.names ++ [nm])))).set 2 (A.pl, .lst (A.pas.map V.ref ++ [.ref p]))) := L1.updAt 2 rfl
    have e2 : A.pas.map V.ref ++ [V.ref p] = (A.pas ++ [p]).map V.ref := by rw [List.map_append]; rfl
    have e3 : k.names ++ [nm] = ({ k with recs := k.recs ++ [(nm, t)] } : Bk).names := by unfold Bk.names; rw [List.map_append]; rfl
    rw [e2, e3] at L2
    rw [e2, e3]
    exact L2
  · rw [List.map_append]; exact B.parts.snoc hp
theorem ok_Book_init (Z : Tx w K mg) : Cal P w K mg base CX0 1 (He.fAd K ("Book", some "__init__")) ["self"] (sp_Book_init K) := by
  obtain ⟨fd, F⟩ := Z.fd_Book_init
  refine ⟨⟨fd, F.ok sc_Book_init (fun vs H Q E h => ?_) (fun cdv A outer s H vs Q E hr h => ?_), F.bindsN fun _ _ _ _ _ _ us hl => match us, hl with | [_], _ => rfl⟩, F.kp⟩
  · exact sp1_len h
  have sc := sc_Book_init
  have nd : N_Book_init.Nodup := sc.nd
  replace h := sp1_get h
  obtain ⟨v_self, rfl, h⟩ := h
  refine ⟨_, PSs.nox (by exact ((pss_cons (ps_fld (pv 0) pe_dnewK rfl)
 (pss_cons (ps_fld (pv 0) (pe_lst pa_nil) rfl)
 (pss_cons (ps_fld (pv 0) pe_dnewK rfl)
 (pss_cons (ps_fld (pv 0) (pe_lst pa_nil) rfl)
 (pss_cons (ps_fld (pv 0) pe_dnewK rfl)
 (pss_one (ps_fld (pv 0) pe_bl rfl))))))))), ?_⟩
  obtain ⟨p, dx, G, rest, rfl, L0, h⟩ := h
  have hp := L0.getAt 0 rfl
  simp [cxK, cxKn, Cx.nox, wipe, PySem.Str.mk.injEq, exists_eq_left', tCall, rI, rU, CMul, tSeq, tIfS, tTest, tOp, tVar, tC, rEq, rNe, tRet, tRetN, tNext, tChain, rI0, tCB, tCons, tNil, tIf, tB, tAnd, tOr, tNot, tAndV, tOrV, tNotV, tDrop, tUn, tAsg, gName, L2.start, List.length_cons, List.length_nil, List.map_cons, List.map_nil, List.cons_append, List.nil_append, List.getElem?_cons_zero, List.getElem?_cons_succ, List.set_cons_zero, List.set_cons_succ, Nat.sub_self, List.replicate_zero, List.replicate_succ, Nat.succ_sub_succ, Nat.reduceSub, Nat.reduceAdd, Nat.reduceLT, Option.some.injEq, exists_eq_left, exists_and_left, exists_eq, V.bl.injEq, V.int.injEq, V.str.injEq, V.ref.injEq, and_true, true_and, scal, exists_eq', decide_eq_true_eq, if_false_left, reduceIte, Bool.false_eq_true, ite_true, ite_false, N_Book_init, -List.lookup_eq_none_iff, sFld, tFld, sFldAug, tMeth, tMake, tBM, tBM0, rAppend, rPop, HO.ins.injEq, HO.lst.injEq, HO.dK.injEq, upd_same, upd_upd, and_assoc, and_self, tLst, tTup, tDNewK, tDNewT, true_implies, forall_eq, forall_eq', hp, Z.cl_Book, Z.n_Book_recipes, Z.n_Book_parts, Z.n_Book_steps, Z.n_Book_times, Z.n_Book_conditions, Z.n_Book_has_either]
  have cl := Z.cl_Book
  intro p1 h1
  have L1 : Lay _ G _ := L0.new (o := .dK []) h1
  refine ⟨_, _, _, L1.getAt 1 rfl, cl, Z.n_Book_recipes, small_of (m := 0) rfl, fun p2 h2 => ?_⟩
  have M1 : Lay _ G _ := L1.updAt (o' := .ins (cB K) dx (putF "recipes" (.ref p1) [])) 1 rfl
  have L2 : Lay _ G _ := M1.new (o := .lst []) h2
  refine ⟨_, _, _, L2.getAt 2 rfl, cl, Z.n_Book_parts, small_of (m := 1) rfl, fun p3 h3 => ?_⟩
  have M2 : Lay _ G _ := L2.updAt (o' := .ins (cB K) dx (putF "parts" (.ref p2) (putF "recipes" (.ref p1) []))) 2 rfl
  have L3 : Lay _ G _ := M2.new (o := .dK []) h3
  refine ⟨_, _, _, L3.getAt 3 rfl, cl, Z.n_Book_steps, small_of (m := 2) rfl, fun p4 h4 => ?_⟩
  have M3 : Lay _ G _ := L3.updAt (o' := .ins (cB K) dx (putF "steps" (.ref p3) (putF "parts" (.ref p2) (putF "recipes" (.ref p1) [])))) 3 rfl
  have L4 : Lay _ G _ := M3.new (o := .lst []) h4
  refine ⟨_, _, _, L4.getAt 4 rfl, cl, Z.n_Book_times, small_of (m := 3) rfl, fun p5 h5 => ?_⟩
  have M4 : Lay _ G _ := L4.updAt (o' := .ins (cB K) dx (putF "times" (.ref p4) (putF "steps" (.ref p3) (putF "parts" (.ref p2) (putF "recipes" (.ref p1) []))))) 4 rfl
  have L5 : Lay _ G _ := M4.new (o := .dK []) h5
  refine ⟨_, _, _, L5.getAt 5 rfl, cl, Z.n_Book_conditions, small_of (m := 4) rfl, cl, Z.n_Book_has_either, small_of (m := 5) rfl, h _ ⟨dx, p1, p2, p3, p4, p5, [], []⟩ rfl ⟨?_, by unfold PartsAt; rfl, rfl, by intro i a t h; simp at h⟩⟩
  have M5 : Lay _ G _ := L5.updAt (o' := .ins (cB K) dx (F_Book (.ref p1) (.ref p2) (.ref p3) (.ref p4) (.ref p5) (.bl false))) 5 rfl
  rw [mk_Book]
  refine M5.perm ?_
  exact (List.reverse_perm [(p5, HO.dK []), (p4, .lst []), (p3, .dK []), (p2, .lst []), (p1, .dK []), (p, .ins (cB K) dx (F_Book (.ref p1) (.ref p2) (.ref p3) (.ref p4) (.ref p5) (.bl false)))]).symm.append_right rest
end
end Bw
end

section
set_option Elab.async false
set_option linter.all false
set_option maxRecDepth 100000
set_option maxHeartbeats 4000000
/-! The recipes: the reader. -/
namespace Bw
open PySem PySem.Spec PyProof.Rows L2 TL
section
variable {P : Program} {w : World} {K : PySem.W.Frag} {mg : Str → Option Value} {base : Heap}
theorem perm_mid {α : Type} (X Y Z : List α) : (X ++ (Y ++ Z)).Perm (Y ++ (X ++ Z)) := by
  rw [← List.append_assoc, ← List.append_assoc]
  exact List.perm_append_comm.append_right _
structure FA where
  a : Addr
  dx : Addr
  l : Addr
  lb : Addr
  as : List Addr
  ps : List Addr
def fms (K : PySem.W.Frag) (f : FA) (t : T) : List (Addr × HO) := [(f.a, .ins (cP K) f.dx (F_Part (.str t.w.s) (.int t.n) (.ref f.l) (.int t.things))), (f.l, .lst ((f.as ++ [f.lb]).map V.ref)), (f.lb, .lst (f.ps.map V.ref))]
def FrameAt (K : PySem.W.Frag) (G : Hp) (f : FA) (t : T) : Prop := ∃ bs b, t.bodies = bs ++ [b] ∧ BodsAt (cP K) G bs f.as ∧ PartsAt (cP K) G b f.ps
def stms (K : PySem.W.Frag) : List FA → List T → List (Addr × HO)
  | f :: fs, t :: ts => fms K f t ++ stms K fs ts
  | _, _ => []
def FramesAt (K : PySem.W.Frag) (G : Hp) : List FA → List T → Prop
  | [], [] => True
  | f :: fs, t :: ts => FrameAt K G f t ∧ FramesAt K G fs ts
  | _, _ => False
theorem FrameAt.mono {G G' : Hp} (s : Same G G') {f : FA} {t : T} (h : FrameAt K G f t) : FrameAt K G' f t := by
  obtain ⟨bs, b, e, h1, h2⟩ := h
  exact ⟨bs, b, e, h1.mono s _ _, h2.mono s _ _⟩
theorem FramesAt.mono {G G' : Hp} (s : Same G G') : ∀ {fs : List FA} {ts : List T}, FramesAt K G fs ts → FramesAt K G' fs ts
  | [], [], _ => trivial
  | f :: fs, t :: ts, h => ⟨h.1.mono s, FramesAt.mono s h.2⟩
theorem FramesAt.len {G : Hp} : ∀ {fs : List FA} {ts : List T}, FramesAt K G fs ts → fs.length = ts.length
  | [], [], _ => rfl
  | f :: fs, t :: ts, h => by simp [FramesAt.len h.2]
structure RA where
  dxR : Addr
  wl : Addr
  sl : Addr
  bk : Addr
  A : BA
  fr : List FA
  pre : List (List Nat)
def wordV (w : List Nat) : V := .str (S (w.map sg))
def rent (K : PySem.W.Frag) (a : Addr) (ra : RA) (nm : List Nat) : Addr × HO := (a, .ins (cR K) ra.dxR (F_Reader (.ref ra.wl) (.int ra.pre.length) (.ref ra.sl) (.str (S nm)) (.ref ra.bk)))
def sent (ra : RA) : Addr × HO := (ra.sl, .lst ((ra.fr.map (·.a)).reverse.map V.ref))
def rms (K : PySem.W.Frag) (a : Addr) (ra : RA) (r : RS) : List (Addr × HO) := rent K a ra r.nm :: sent ra :: (bms K ra.bk ra.A r.bk ++ stms K ra.fr r.st)
structure ReaderAt (K : PySem.W.Frag) (H G : Hp) (a : Addr) (ra : RA) (r : RS) : Prop where
  lay : Lay H G (rms K a ra r)
  words : G ra.wl = some (.lst ((ra.pre ++ r.t).map wordV))
  wlen : (ra.pre ++ r.t).length ≤ 100000
  wne : ∀ x ∈ ra.pre ++ r.t, x ≠ [] ∧ x.length ≤ 100000
  parts : PartsAt (cP K) G (r.bk.recs.map (·.2)) ra.A.pas
  times : TimesAt G (r.bk.steps.map (·.2)) ra.A.tas
  frames : FramesAt K G ra.fr r.st
/-- the book within the reader, and back -/
theorem ReaderAt.book {H G : Hp} {a : Addr} {ra : RA} {r : RS} (h : ReaderAt K H G a ra r) : BookAt K H G ra.bk ra.A r.bk (rent K a ra r.nm :: sent ra :: stms K ra.fr r.st) :=
  ⟨h.lay.perm (by
    show (([rent K a ra r.nm, sent ra] : List (Addr × HO)) ++ (bms K ra.bk ra.A r.bk ++ stms K ra.fr r.st)).Perm (bms K ra.bk ra.A r.bk ++ ([rent K a ra r.nm, sent ra] ++ stms K ra.fr r.st))
    rw [← List.append_assoc, ← List.append_assoc]
    exact List.perm_append_comm.append_right _), h.parts, h.times⟩
theorem ReaderAt.ofBook {H H' G G' : Hp} {a : Addr} {ra : RA} {r : RS} {A' : BA} {k' : Bk} (h : ReaderAt K H G a ra r) (s : Same G G') (B : BookAt K H' G' ra.bk A' k' (rent K a ra r.nm :: sent ra :: stms K ra.fr r.st)) : ReaderAt K H' G' a { ra with A := A' } { r with bk := k' } :=
  ⟨B.lay.perm (by
    show (bms K ra.bk A' k' ++ (([rent K a ra r.nm, sent ra] : List (Addr × HO)) ++ stms K ra.fr r.st)).Perm ([rent K a ra r.nm, sent ra] ++ (bms K ra.bk A' k' ++ stms K ra.fr r.st))
    rw [← List.append_assoc, ← List.append_assoc]
    exact List.perm_append_comm.append_right _), s _ _ h.words, h.wlen, h.wne, B.parts, B.times, h.frames.mono s⟩
theorem ReaderAt.later {H H' G : Hp} {a : Addr} {ra : RA} {r : RS} (h : ReaderAt K H G a ra r) (s : Same H H') : ReaderAt K H' G a ra r := ⟨h.lay.later s, h.words, h.wlen, h.wne, h.parts, h.times, h.frames⟩
/-- a text that stands for itself -/
def Pl (k : List Nat) : Bool := decide (k.map sg = k) && k.all fun c => decide (c ≠ 63)
theorem key_eq {w k : List Nat} (hk : Pl k = true) : (S (w.map sg) = S k) ↔ w = k := by
  unfold Pl at hk
  rw [Bool.and_eq_true] at hk
  constructor
  · intro h
    exact map_sg_eq (S_inj h) fun c hc => of_decide_eq_true (List.all_eq_true.mp hk.2 c hc)
  · rintro rfl
    rw [of_decide_eq_true hk.1]
theorem kw_S (k : String) : Str.ofString k = S (kw k) := str_ext (tl_ofString k)
def headIs (o : Option (List Nat)) (z : Str) : Bool := match o with
  | none => false
  | some x => decide (S (x.map sg) = z)
def sp_Reader_next_is (K : PySem.W.Frag) : Sp := sp2 fun v0 v1 H Q _ => ∃ (a : Addr) (G : Hp) (ra : RA) (r : RS) (z : Str), v0 = .ref a ∧ v1 = .str z ∧ ReaderAt K H G a ra r ∧ Q (.bl (headIs r.t.head? z)) H
theorem ok_Reader_next_is (Z : Tx w K mg) : Cal P w K mg base CX0 1 (He.fAd K ("Reader", some "next_is")) ["self", "word"] (sp_Reader_next_is K) := by
  obtain ⟨fd, F⟩ := Z.fd_Reader_next_is
  refine ⟨⟨fd, F.ok sc_Reader_next_is (fun vs H Q E h => ?_) (fun cdv A outer s H vs Q E hr h => ?_), F.bindsN fun _ _ _ _ _ _ us hl => match us, hl with | [_, _], _ => rfl⟩, F.kp⟩
  · exact sp2_len h
  have sc := sc_Reader_next_is
  have nd : N_Reader_next_is.Nodup := sc.nd
  replace h := sp2_get h
  obtain ⟨v_self, v_word, rfl, h⟩ := h
  refine ⟨_, PSs.nox (by exact ((pss_one (ps_ret (pe_and (pe_cmpR op_lt (pe_fld (pv 0) rfl) (pe_callB call_len_seq (by rfl) Z.b_len (by decide +kernel) (pa_cons (pe_fld (pv 0) rfl) pa_nil)) (nomark _)) (pe_one (pe_cmpR op_eq (pe_ix ix_list (pe_fld (pv 0) rfl) (pe_fld (pv 0) rfl) (fun _ _ => rfl)) (pv 1) (nomark _)))))))), ?_⟩
  obtain ⟨a, G, ra, r, z, rfl, rfl, B, h⟩ := h
  have ha : H a = some (.ins (cR K) ra.dxR (F_Reader (.ref ra.wl) (.int ra.pre.length) (.ref ra.sl) (.str (S r.nm)) (.ref ra.bk))) := B.lay.getAt 0 rfl
  have hw := B.lay.same _ _ B.words
  simp [cxK, cxKn, Cx.nox, wipe, PySem.Str.mk.injEq, exists_eq_left', tCall, rI, rU, CMul, tSeq, tIfS, tTest, tOp, tVar, tC, rEq, rNe, tRet, tRetN, tNext, tChain, rI0, tCB, tCons, tNil, tIf, tB, tAnd, tOr, tNot, tAndV, tOrV, tNotV, tDrop, tUn, tAsg, gName, L2.start, List.length_cons, List.length_nil, List.map_cons, List.map_nil, List.cons_append, List.nil_append, List.getElem?_cons_zero, List.getElem?_cons_succ, List.set_cons_zero, List.set_cons_succ, Nat.sub_self, List.replicate_zero, List.replicate_succ, Nat.succ_sub_succ, Nat.reduceSub, Nat.reduceAdd, Nat.reduceLT, Option.some.injEq, exists_eq_left, exists_and_left, exists_eq, V.bl.injEq, V.int.injEq, V.str.injEq, V.ref.injEq, and_true, true_and, scal, exists_eq', decide_eq_true_eq, if_false_left, reduceIte, Bool.false_eq_true, ite_true, ite_false, N_Reader_next_is, -List.lookup_eq_none_iff, sFld, tFld, sFldAug, tMeth, tMake, tBM, tBM0, rAppend, rPop, HO.ins.injEq, HO.lst.injEq, HO.dK.injEq, upd_same, upd_upd, and_assoc, and_self, tLst, tTup, tDNewK, tDNewT, true_implies, forall_eq, forall_eq', ha, hw, Z.cl_Reader, Z.n_Reader_place, Z.n_Reader_words, lk_Reader_place, lk_Reader_words]
  refine ⟨_, .inl (SqL.of hw), ?_⟩
  have el : ((ra.pre ++ r.t).map wordV).length = ra.pre.length + r.t.length := by simp
  refine if_intro (fun c => ?_) fun c => ?_
  · obtain ⟨x, t, hx⟩ : ∃ x t, r.t = x :: t := by
      cases e : r.t with
      | nil => rw [el, e] at c; simp at c
      | cons x t => exact ⟨x, t, rfl⟩
    refine ⟨_, _, (ra.pre.length : Nat), wordV x, rfl, rfl, SqL.of hw, atI_nat (by rw [hx, List.map_append, List.getElem?_append_right (by simp)]; simp), rfl, ?_⟩
    rw [hx] at h
    have e : decide (wordV x = V.str z) = decide (S (x.map sg) = z) := by
      rw [decide_eq_decide]; unfold wordV; simp
    rw [e]; exact h
  · have e : r.t = [] := by
      rw [el] at c
      exact List.length_eq_zero_iff.mp (by omega)
    rw [e] at h
    exact h
/-- a method that changes the reader -/
def spM (K : PySem.W.Frag) (ok : RS → Prop) (f : RS → Option RS) (v : V) (H : Hp) (Q : VK) (E : XK) : Prop := ∃ (a : Addr) (G : Hp) (ra : RA) (r : RS), v = .ref a ∧ ReaderAt K H G a ra r ∧ ok r ∧ (f r = none → Rz K (-1008) E) ∧
  ∀ r', f r = some r' → ∀ (H' G' : Hp) (ra' : RA), Same G G' → ra'.bk = ra.bk → ReaderAt K H' G' a ra' r' → Q .non H'
/-- a method that changes the reader and gives something back -/
def spMV {α : Type} (K : PySem.W.Frag) (val : α → V) (ok : RS → Prop) (f : RS → Option (α × RS)) (v : V) (H : Hp) (Q : VK) (E : XK) : Prop := ∃ (a : Addr) (G : Hp) (ra : RA) (r : RS), v = .ref a ∧ ReaderAt K H G a ra r ∧ ok r ∧ (f r = none → Rz K (-1008) E) ∧
  ∀ x r', f r = some (x, r') → ∀ (H' G' : Hp) (ra' : RA), Same G G' → (ra'.bk = ra.bk ∧ ra'.fr = ra.fr) → ReaderAt K H' G' a ra' r' → Q (val x) H'
def sp_Reader_next_word (K : PySem.W.Frag) : Sp := sp1 fun v H Q E => spMV K wordV (fun _ => True) nextWord v H Q E
theorem ok_Reader_next_word (Z : Tx w K mg) : Cal P w K mg base (L2.CX P w) 5 (He.fAd K ("Reader", some "next_word")) ["self"] (sp_Reader_next_word K) := by
  obtain ⟨fd, F⟩ := Z.fd_Reader_next_word
  have c_WrongRecipes_init := ok_WrongRecipes_init (P := P) (w := w) (base := base) Z
  refine ⟨⟨fd, F.ok sc_Reader_next_word (fun vs H Q E h => ?_) (fun cdv A outer s H vs Q E hr h => ?_), F.bindsN fun _ _ _ _ _ _ us hl => match us, hl with | [_], _ => rfl⟩, F.kp⟩
  · exact sp1_len h
  have sc := sc_Reader_next_word
  have nd : N_Reader_next_word.Nodup := sc.nd
  replace h := sp1_get h
  obtain ⟨v_self, rfl, h⟩ := h
  refine ⟨_, by exact ((pss_cons (ps_if (pt_cmpR op_eq (pe_fld (pv 0) rfl) (pe_callB call_len_seq (by rfl) Z.b_len (by decide +kernel) (pa_cons (pe_fld (pv 0) rfl) pa_nil)) (nomark _)) (pss_one (ps_raise rfl (takes_of rfl rfl rfl rfl) (pmk_ecC0 Z.x_WrongRecipes Z.in_WrongRecipes Z.fn_WrongRecipes c_WrongRecipes_init (hr.mono (by decide)) pass0 rfl Z.g_WrongRecipes))) pss_nil)
 (pss_cons (ps_fldaug (pv 0) pe_int in_add)
 (pss_one (ps_ret (pe_ix ix_list (pe_fld (pv 0) rfl) (pe_op op_sub (pe_fld (pv 0) rfl) pe_int) (fun _ _ => rfl))))))), ?_⟩
  obtain ⟨a, G, ra, r, rfl, B, -, hE, hQ⟩ := h
  have ha : H a = some (.ins (cR K) ra.dxR (F_Reader (.ref ra.wl) (.int ra.pre.length) (.ref ra.sl) (.str (S r.nm)) (.ref ra.bk))) := B.lay.getAt 0 rfl
  have hw := B.lay.same _ _ B.words
  have ne : ra.wl ≠ a := ne_of hw ha (by intro z; cases z)
  have el : ((ra.pre ++ r.t).map wordV).length = ra.pre.length + r.t.length := by simp
  simp [cxK, cxKn, Cx.nox, wipe, PySem.Str.mk.injEq, exists_eq_left', tCall, rI, rU, CMul, tSeq, tIfS, tTest, tOp, tVar, tC, rEq, rNe, tRet, tRetN, tNext, tChain, rI0, tCB, tCons, tNil, tIf, tB, tAnd, tOr, tNot, tAndV, tOrV, tNotV, tDrop, tUn, tAsg, gName, L2.start, List.length_cons, List.length_nil, List.map_cons, List.map_nil, List.cons_append, List.nil_append, List.getElem?_cons_zero, List.getElem?_cons_succ, List.set_cons_zero, List.set_cons_succ, Nat.sub_self, List.replicate_zero, List.replicate_succ, Nat.succ_sub_succ, Nat.reduceSub, Nat.reduceAdd, Nat.reduceLT, Option.some.injEq, exists_eq_left, exists_and_left, exists_eq, V.bl.injEq, V.int.injEq, V.str.injEq, V.ref.injEq, and_true, true_and, scal, exists_eq', decide_eq_true_eq, if_false_left, reduceIte, Bool.false_eq_true, ite_true, ite_false, N_Reader_next_word, -List.lookup_eq_none_iff, sFld, tFld, sFldAug, tMeth, tMake, tBM, tBM0, rAppend, rPop, HO.ins.injEq, HO.lst.injEq, HO.dK.injEq, upd_same, upd_upd, and_assoc, and_self, tLst, tTup, tDNewK, tDNewT, true_implies, forall_eq, forall_eq', ha, hw, Z.cl_Reader, Z.n_Reader_place, Z.n_Reader_words, lk_Reader_place, lk_Reader_words, pt_Reader_place, ln_Reader, rAdd]
  refine ⟨_, .inl (SqL.of hw), ?_⟩
  refine if_intro (fun c => raise_wr Z (hE ?_)) fun c => ?_
  · have e : r.t = [] := by
      rw [el] at c
      exact List.length_eq_zero_iff.mp (by omega)
    unfold nextWord; rw [e]
  · obtain ⟨x, t, hx⟩ : ∃ x t, r.t = x :: t := by
      cases e : r.t with
      | nil => rw [el, e] at c; simp at c
      | cons x t => exact ⟨x, t, rfl⟩
    have B' : ReaderAt K (upd H a (.ins (cR K) ra.dxR (F_Reader (.ref ra.wl) (.int ((ra.pre.length : Int) + 1)) (.ref ra.sl) (.str (S r.nm)) (.ref ra.bk)))) G a { ra with pre := ra.pre ++ [x] } { r with t := t } := by
      have e1 : ((ra.pre.length : Int) + 1) = (((ra.pre ++ [x]).length : Nat) : Int) := by simp
      have e2 : (ra.pre ++ [x]) ++ t = ra.pre ++ r.t := by rw [hx]; simp
      refine ⟨?_, by rw [e2]; exact B.words, by rw [e2]; exact B.wlen, by rw [e2]; exact B.wne, B.parts, B.times, B.frames⟩
      rw [e1]
      exact B.lay.updAt 0 rfl
    refine ⟨_, _, (ra.pre.length : Nat), wordV x, rfl, rfl, SqL.of (B'.lay.same _ _ B.words), atI_nat (by rw [hx, List.map_append, List.getElem?_append_right (by simp)]; simp), ?_⟩
    exact hQ x { r with t := t } (by unfold nextWord; rw [hx]) _ G { ra with pre := ra.pre ++ [x] } (Same.refl G) ⟨rfl, rfl⟩ B'
theorem nextWord_in {r : RS} {x : List Nat} {r' : RS} (h : nextWord r = some (x, r')) : r.t = x :: r'.t ∧ r' = { r with t := r'.t } := by
  unfold nextWord at h
  cases e : r.t with
  | nil => rw [e] at h; cases h
  | cons w t => rw [e] at h; cases h; exact ⟨rfl, rfl⟩
def sp_Reader_next_name (K : PySem.W.Frag) : Sp := sp1 fun v H Q E => spMV K (fun n => .str (S n)) (fun _ => True) nextName v H Q E
theorem ok_Reader_next_name (Z : Tx w K mg) : Cal P w K mg base (L2.CX P w) 6 (He.fAd K ("Reader", some "next_name")) ["self"] (sp_Reader_next_name K) := by
  obtain ⟨fd, F⟩ := Z.fd_Reader_next_name
  have c_Reader_next_word := ok_Reader_next_word (P := P) (w := w) (base := base) Z
  have c_is_name := ok_is_name (P := P) (w := w) (base := base) Z
  have c_WrongRecipes_init := ok_WrongRecipes_init (P := P) (w := w) (base := base) Z
  refine ⟨⟨fd, F.ok sc_Reader_next_name (fun vs H Q E h => ?_) (fun cdv A outer s H vs Q E hr h => ?_), F.bindsN fun _ _ _ _ _ _ us hl => match us, hl with | [_], _ => rfl⟩, F.kp⟩
  · exact sp1_len h
  have sc := sc_Reader_next_name
  have nd : N_Reader_next_name.Nodup := sc.nd
  replace h := sp1_get h
  obtain ⟨v_self, rfl, h⟩ := h
  refine ⟨_, by exact ((pss_cons (ps_set (i := 1) nd rfl (by first | exact Or.inl rfl | exact Or.inr rfl) (pe_metC0 (E := E) (pv 0) Z.cl_Reader Z.m_Reader_next_word c_Reader_next_word (hr.mono (by decide)) (passes_call (takes_of rfl rfl rfl rfl) (fun _ _ _ _ z => z))))
 (pss_cons (ps_if (pt_not (pt_val (pe_calC (E := E0) c_is_name (hr.mono (by decide)) rfl Z.g_is_name pass0 (pa_cons (pv 1) pa_nil)))) (pss_one (ps_raise rfl (takes_of rfl rfl rfl rfl) (pmk_ecC0 Z.x_WrongRecipes Z.in_WrongRecipes Z.fn_WrongRecipes c_WrongRecipes_init (hr.mono (by decide)) pass0 rfl Z.g_WrongRecipes))) pss_nil)
 (pss_one (ps_ret (pv 1)))))), ?_⟩
  obtain ⟨a, G, ra, r, rfl, B, -, hE, hQ⟩ := h
  refine ⟨_, rfl, a, ra.dxR, _, rfl, B.lay.getAt 0 rfl, lm_Reader_next_word _ _ _ _ _, _, rfl, a, G, ra, r, rfl, B, trivial, fun e => hE (by unfold nextName; rw [e]), fun x r' e H1 G1 ra1 s1 k1 B1 => ?_⟩
  have hx := B.wne x (List.mem_append_right _ (by rw [(nextWord_in e).1]; exact List.mem_cons_self ..))
  simp [cxK, cxKn, Cx.nox, wipe, PySem.Str.mk.injEq, exists_eq_left', tCall, rI, rU, CMul, tSeq, tIfS, tTest, tOp, tVar, tC, rEq, rNe, tRet, tRetN, tNext, tChain, rI0, tCB, tCons, tNil, tIf, tB, tAnd, tOr, tNot, tAndV, tOrV, tNotV, tDrop, tUn, tAsg, gName, L2.start, List.length_cons, List.length_nil, List.map_cons, List.map_nil, List.cons_append, List.nil_append, List.getElem?_cons_zero, List.getElem?_cons_succ, List.set_cons_zero, List.set_cons_succ, Nat.sub_self, List.replicate_zero, List.replicate_succ, Nat.succ_sub_succ, Nat.reduceSub, Nat.reduceAdd, Nat.reduceLT, Option.some.injEq, exists_eq_left, exists_and_left, exists_eq, V.bl.injEq, V.int.injEq, V.str.injEq, V.ref.injEq, and_true, true_and, scal, exists_eq', decide_eq_true_eq, if_false_left, reduceIte, Bool.false_eq_true, ite_true, ite_false]
  refine ⟨_, rfl, x.map sg, rfl, by simpa using hx.1, by rw [List.length_map]; exact hx.2, fun H2 s2 => ?_⟩
  rw [isName_sg]
  cases hn : Vbwbab.isName x with
  | false => exact .inl ⟨rfl, raise_wr Z (hE (by unfold nextName; rw [e]; simp [hn]))⟩
  | true =>
    refine .inr ⟨rfl, ?_⟩
    have ex : wordV x = .str (S x) := by unfold wordV; rw [name_sg hn]
    rw [ex]
    exact hQ x r' (by unfold nextName; rw [e]; simp [hn]) H2 G1 ra1 s1 k1 (B1.later s2)
def sp_Reader_next_time (K : PySem.W.Frag) : Sp := sp2 fun v v1 H Q E => ∃ lo : Nat, v1 = .int lo ∧ spMV K (fun n : Nat => .int n) (fun _ => True) (nextTime lo) v H Q E
theorem ok_Reader_next_time (Z : Tx w K mg) : Cal P w K mg base (L2.CX P w) 6 (He.fAd K ("Reader", some "next_time")) ["self", "least"] (sp_Reader_next_time K) := by
  obtain ⟨fd, F⟩ := Z.fd_Reader_next_time
  have c_Reader_next_word := ok_Reader_next_word (P := P) (w := w) (base := base) Z
  have c_is_number := ok_is_number (P := P) (w := w) (base := base) Z
  have c_WrongRecipes_init := ok_WrongRecipes_init (P := P) (w := w) (base := base) Z
  refine ⟨⟨fd, F.ok sc_Reader_next_time (fun vs H Q E h => ?_) (fun cdv A outer s H vs Q E hr h => ?_), F.bindsN fun _ _ _ _ _ _ us hl => match us, hl with | [_, _], _ => rfl⟩, F.kp⟩
  · exact sp2_len h
  have sc := sc_Reader_next_time
  have nd : N_Reader_next_time.Nodup := sc.nd
  replace h := sp2_get h
  obtain ⟨v_self, v_least, rfl, h⟩ := h
  refine ⟨_, by exact ((pss_cons (ps_set (i := 2) nd rfl (by first | exact Or.inl rfl | exact Or.inr rfl) (pe_metC0 (E := E) (pv 0) Z.cl_Reader Z.m_Reader_next_word c_Reader_next_word (hr.mono (by decide)) (passes_call (takes_of rfl rfl rfl rfl) (fun _ _ _ _ z => z))))
 (pss_cons (ps_if (pt_not (pt_val (pe_calC (E := E0) c_is_number (hr.mono (by decide)) rfl Z.g_is_number pass0 (pa_cons (pv 2) (pa_cons (pv 1) (pa_cons (pe_gi rfl Z.g_MOST_TIME) pa_nil)))))) (pss_one (ps_raise rfl (takes_of rfl rfl rfl rfl) (pmk_ecC0 Z.x_WrongRecipes Z.in_WrongRecipes Z.fn_WrongRecipes c_WrongRecipes_init (hr.mono (by decide)) pass0 rfl Z.g_WrongRecipes))) pss_nil)
 (pss_one (ps_ret (pe_callTy call_int_str (by rfl) Z.b_int (by decide +kernel) (pa_cons (pv 2) pa_nil))))))), ?_⟩
  obtain ⟨lo, rfl, a, G, ra, r, rfl, B, -, hE, hQ⟩ := h
  refine ⟨_, rfl, a, ra.dxR, _, rfl, B.lay.getAt 0 rfl, lm_Reader_next_word _ _ _ _ _, _, rfl, a, G, ra, r, rfl, B, trivial, fun e => hE (by unfold nextTime; rw [e]), fun x r' e H1 G1 ra1 s1 k1 B1 => ?_⟩
  have hx := B.wne x (List.mem_append_right _ (by rw [(nextWord_in e).1]; exact List.mem_cons_self ..))
  simp [cxK, cxKn, Cx.nox, wipe, PySem.Str.mk.injEq, exists_eq_left', tCall, rI, rU, CMul, tSeq, tIfS, tTest, tOp, tVar, tC, rEq, rNe, tRet, tRetN, tNext, tChain, rI0, tCB, tCons, tNil, tIf, tB, tAnd, tOr, tNot, tAndV, tOrV, tNotV, tDrop, tUn, tAsg, gName, L2.start, List.length_cons, List.length_nil, List.map_cons, List.map_nil, List.cons_append, List.nil_append, List.getElem?_cons_zero, List.getElem?_cons_succ, List.set_cons_zero, List.set_cons_succ, Nat.sub_self, List.replicate_zero, List.replicate_succ, Nat.succ_sub_succ, Nat.reduceSub, Nat.reduceAdd, Nat.reduceLT, Option.some.injEq, exists_eq_left, exists_and_left, exists_eq, V.bl.injEq, V.int.injEq, V.str.injEq, V.ref.injEq, and_true, true_and, scal, exists_eq', decide_eq_true_eq, if_false_left, reduceIte, Bool.false_eq_true, ite_true, ite_false]
  refine ⟨_, _, _, rfl, x.map sg, lo, 1000000, rfl, rfl, rfl, by simpa using hx.1, by rw [List.length_map]; exact hx.2, fun H2 s2 => ?_⟩
  rw [numB_sg]
  have e4 : nextTime lo r = (match Vbwbab.numOf x with
    | none => none
    | some n => if lo ≤ n ∧ n ≤ 1000000 then some (n, r') else none) := by unfold nextTime; rw [e] <;> rfl
  cases hn : numB lo 1000000 x with
  | false => exact .inl ⟨rfl, raise_wr Z (hE (by
      rw [e4]
      unfold numB at hn
      cases e2 : Vbwbab.numOf x with
      | none => rfl
      | some n =>
        rw [e2] at hn
        show (if lo ≤ n ∧ n ≤ 1000000 then _ else _) = none
        rw [if_neg]
        rintro ⟨h1, h2⟩
        have : (decide ((lo : Int) ≤ (n : Int)) && decide ((n : Int) ≤ 1000000)) = true := by
          rw [decide_eq_true (by omega), decide_eq_true (by omega)]; rfl
        have hn' : (decide ((lo : Int) ≤ (n : Int)) && decide ((n : Int) ≤ 1000000)) = false := hn
        rw [this] at hn'; cases hn'))⟩
  | true =>
    obtain ⟨n, e2, h1, h2⟩ := numB_true hn
    have e3 : Vbwbab.numOf (x.map sg) = some n := by rw [numOf_sg]; exact e2
    obtain ⟨it, i7⟩ := num_text e3
    refine .inr ⟨rfl, S (x.map sg), rfl, n, it, by rw [len_S]; omega, ?_⟩
    refine hQ n r' ?_ H2 G1 ra1 s1 k1 (B1.later s2)
    rw [e4, e2]
    exact if_pos ⟨by omega, by omega⟩
def sp_Reader_expect (K : PySem.W.Frag) : Sp := sp2 fun v v1 H Q E => ∃ k : List Nat, v1 = .str (S k) ∧ Pl k = true ∧ spM K (fun _ => True) (expect k) v H Q E
theorem ok_Reader_expect (Z : Tx w K mg) : Cal P w K mg base (L2.CX P w) 6 (He.fAd K ("Reader", some "expect")) ["self", "word"] (sp_Reader_expect K) := by
  obtain ⟨fd, F⟩ := Z.fd_Reader_expect
  have c_Reader_next_word := ok_Reader_next_word (P := P) (w := w) (base := base) Z
  have c_WrongRecipes_init := ok_WrongRecipes_init (P := P) (w := w) (base := base) Z
  refine ⟨⟨fd, F.ok sc_Reader_expect (fun vs H Q E h => ?_) (fun cdv A outer s H vs Q E hr h => ?_), F.bindsN fun _ _ _ _ _ _ us hl => match us, hl with | [_, _], _ => rfl⟩, F.kp⟩
  · exact sp2_len h
  have sc := sc_Reader_expect
  have nd : N_Reader_expect.Nodup := sc.nd
  replace h := sp2_get h
  obtain ⟨v_self, v_word, rfl, h⟩ := h
  refine ⟨_, by exact ((pss_one (ps_if (pt_cmpR op_ne (pe_metC0 (E := E) (pv 0) Z.cl_Reader Z.m_Reader_next_word c_Reader_next_word (hr.mono (by decide)) (passes_call (takes_of rfl rfl rfl rfl) (fun _ _ _ _ z => z))) (pv 1) (nomark _)) (pss_one (ps_raise rfl (takes_of rfl rfl rfl rfl) (pmk_ecC0 Z.x_WrongRecipes Z.in_WrongRecipes Z.fn_WrongRecipes c_WrongRecipes_init (hr.mono (by decide)) pass0 rfl Z.g_WrongRecipes))) pss_nil))), ?_⟩
  obtain ⟨k, rfl, hk, a, G, ra, r, rfl, B, -, hE, hQ⟩ := h
  refine ⟨_, rfl, a, ra.dxR, _, rfl, B.lay.getAt 0 rfl, lm_Reader_next_word _ _ _ _ _, _, rfl, a, G, ra, r, rfl, B, trivial, fun e => hE (by unfold expect; rw [e]), fun x r' e H1 G1 ra1 s1 k1 B1 => ?_⟩
  simp [cxK, cxKn, Cx.nox, wipe, PySem.Str.mk.injEq, exists_eq_left', tCall, rI, rU, CMul, tSeq, tIfS, tTest, tOp, tVar, tC, rEq, rNe, tRet, tRetN, tNext, tChain, rI0, tCB, tCons, tNil, tIf, tB, tAnd, tOr, tNot, tAndV, tOrV, tNotV, tDrop, tUn, tAsg, gName, L2.start, List.length_cons, List.length_nil, List.map_cons, List.map_nil, List.cons_append, List.nil_append, List.getElem?_cons_zero, List.getElem?_cons_succ, List.set_cons_zero, List.set_cons_succ, Nat.sub_self, List.replicate_zero, List.replicate_succ, Nat.succ_sub_succ, Nat.reduceSub, Nat.reduceAdd, Nat.reduceLT, Option.some.injEq, exists_eq_left, exists_and_left, exists_eq, V.bl.injEq, V.int.injEq, V.str.injEq, V.ref.injEq, and_true, true_and, scal, exists_eq', decide_eq_true_eq, if_false_left, reduceIte, Bool.false_eq_true, ite_true, ite_false, wordV]
  have ek := key_eq (w := x) hk
  by_cases hx : x = k
  · refine .inl ⟨ek.mpr hx, hQ r' (by unfold expect; rw [e]; exact if_pos hx) H1 G1 ra1 s1 k1.1 B1⟩
  · exact .inr ⟨fun z => hx (ek.mp z), raise_wr Z (hE (by unfold expect; rw [e]; exact if_neg hx))⟩
/-! the stack -/
/-- a part that isn't on the stack yet -/
def pms (K : PySem.W.Frag) (a dx l : Addr) (as : List Addr) (t : T) : List (Addr × HO) := [(a, .ins (cP K) dx (F_Part (.str t.w.s) (.int t.n) (.ref l) (.int t.things))), (l, .lst (as.map V.ref))]
structure ReaderP (K : PySem.W.Frag) (H G : Hp) (a : Addr) (ra : RA) (r : RS) (p dx l : Addr) (as : List Addr) (t : T) : Prop where
  lay : Lay H G (pms K p dx l as t ++ rms K a ra r)
  bods : BodsAt (cP K) G t.bodies as
  words : G ra.wl = some (.lst ((ra.pre ++ r.t).map wordV))
  wlen : (ra.pre ++ r.t).length ≤ 100000
  wne : ∀ x ∈ ra.pre ++ r.t, x ≠ [] ∧ x.length ≤ 100000
  parts : PartsAt (cP K) G (r.bk.recs.map (·.2)) ra.A.pas
  times : TimesAt G (r.bk.steps.map (·.2)) ra.A.tas
  frames : FramesAt K G ra.fr r.st
def sp_Reader_push (K : PySem.W.Frag) : Sp := sp2 fun v v1 H Q _ => ∃ (a p dx l : Addr) (as : List Addr) (t : T) (G : Hp) (ra : RA) (r : RS), v = .ref a ∧ v1 = .ref p ∧ ReaderP K H G a ra r p dx l as t ∧ r.st.length ≤ 90000 ∧ t.bodies.length ≤ 90000 ∧ ∀ (H' : Hp) (ra' : RA), ra'.bk = ra.bk → ReaderAt K H' G a ra' (push t r) → Q .non H'
theorem ok_Reader_push (Z : Tx w K mg) : Cal P w K mg base CX0 1 (He.fAd K ("Reader", some "push")) ["self", "part"] (sp_Reader_push K) := by
  obtain ⟨fd, F⟩ := Z.fd_Reader_push
  refine ⟨⟨fd, F.ok sc_Reader_push (fun vs H Q E h => ?_) (fun cdv A outer s H vs Q E hr h => ?_), F.bindsN fun _ _ _ _ _ _ us hl => match us, hl with | [_, _], _ => rfl⟩, F.kp⟩
  · exact sp2_len h
  have sc := sc_Reader_push
  have nd : N_Reader_push.Nodup := sc.nd
  replace h := sp2_get h
  obtain ⟨v_self, v_part, rfl, h⟩ := h
  refine ⟨_, PSs.nox (by exact ((pss_cons (ps_expr (pe_bm PySem.F.plainAttrs_list PySem.F.slot_list_append PySem.F.type_list_append mt_append (pe_fld (pv 1) rfl) (pa_cons (pe_lst pa_nil) pa_nil)))
 (pss_one (ps_expr (pe_bm PySem.F.plainAttrs_list PySem.F.slot_list_append PySem.F.type_list_append mt_append (pe_fld (pv 0) rfl) (pa_cons (pv 1) pa_nil))))))), ?_⟩
  obtain ⟨a, p, dx, l, as, t, G, ra, r, rfl, rfl, B, h1, h2, h⟩ := h
  have hp := B.lay.getAt 0 rfl
  have hl := B.lay.getAt 1 rfl
  have ha : H a = some (.ins (cR K) ra.dxR (F_Reader (.ref ra.wl) (.int ra.pre.length) (.ref ra.sl) (.str (S r.nm)) (.ref ra.bk))) := B.lay.getAt 2 rfl
  have hs : H ra.sl = some (.lst ((ra.fr.map (·.a)).reverse.map V.ref)) := B.lay.getAt 3 rfl
  simp [cxK, cxKn, Cx.nox, wipe, PySem.Str.mk.injEq, exists_eq_left', tCall, rI, rU, CMul, tSeq, tIfS, tTest, tOp, tVar, tC, rEq, rNe, tRet, tRetN, tNext, tChain, rI0, tCB, tCons, tNil, tIf, tB, tAnd, tOr, tNot, tAndV, tOrV, tNotV, tDrop, tUn, tAsg, gName, L2.start, List.length_cons, List.length_nil, List.map_cons, List.map_nil, List.cons_append, List.nil_append, List.getElem?_cons_zero, List.getElem?_cons_succ, List.set_cons_zero, List.set_cons_succ, Nat.sub_self, List.replicate_zero, List.replicate_succ, Nat.succ_sub_succ, Nat.reduceSub, Nat.reduceAdd, Nat.reduceLT, Option.some.injEq, exists_eq_left, exists_and_left, exists_eq, V.bl.injEq, V.int.injEq, V.str.injEq, V.ref.injEq, and_true, true_and, scal, exists_eq', decide_eq_true_eq, if_false_left, reduceIte, Bool.false_eq_true, ite_true, ite_false, N_Reader_push, -List.lookup_eq_none_iff, sFld, tFld, sFldAug, tMeth, tMake, tBM, tBM0, rAppend, rPop, HO.ins.injEq, HO.lst.injEq, HO.dK.injEq, upd_same, upd_upd, and_assoc, and_self, tLst, tTup, tDNewK, tDNewT, true_implies, forall_eq, forall_eq', ha, hp, hl, Z.cl_Reader, Z.cl_Part, Z.n_Part_bodies, Z.n_Reader_stack, lk_Part_bodies, lk_Reader_stack]
  refine ⟨.inl ⟨rfl, _, SqL.of hl⟩, fun lb hlb => ?_⟩
  have L1 : Lay (upd H lb (.lst [])) G _ := B.lay.new (o := .lst []) hlb
  have L2 : Lay _ G _ := L1.updAt (o' := .lst (as.map V.ref ++ [.ref lb])) 2 rfl
  have elen : (as.map V.ref).length < sizeLine := by rw [List.length_map, B.bods.len]; exact line_lt (by omega)
  have slen : ((ra.fr.map (·.a)).reverse.map V.ref).length < sizeLine := by simp [B.frames.len]; exact line_lt (by omega)
  refine ⟨_, L1.getAt 2 rfl, elen, _, _, _, L2.getAt 3 rfl, Z.cl_Reader, Z.n_Reader_stack, _, lk_Reader_stack _ _ _ _ _, .inl ⟨rfl, _, SqL.of (L2.getAt 4 rfl)⟩, _, rfl, _, L2.getAt 4 rfl, slen, ?_⟩
  have L3 : Lay _ G _ := L2.updAt (o' := .lst ((ra.fr.map (·.a)).reverse.map V.ref ++ [.ref p])) 4 rfl
  refine h _ { ra with fr := ⟨p, dx, l, lb, as, []⟩ :: ra.fr } rfl ⟨L3.perm ?_, B.words, B.wlen, B.wne, B.parts, B.times, ?_⟩
  · have e1 : (ra.fr.map (·.a)).reverse.map V.ref ++ [V.ref p] = ((((⟨p, dx, l, lb, as, []⟩ : FA) :: ra.fr).map (·.a)).reverse.map V.ref) := by simp
    have e2 : as.map V.ref ++ [V.ref lb] = (as ++ [lb]).map V.ref := by simp
    rw [e1, e2]
    refine (perm_mid [(lb, HO.lst []), (p, _), (l, _)] [_, _] _).trans ?_
    refine List.Perm.append_left [_, _] ?_
    refine (perm_mid [(lb, HO.lst []), (p, _), (l, _)] (bms K ra.bk ra.A r.bk) _).trans ?_
    refine List.Perm.append_left _ ?_
    exact (List.perm_append_comm (l₁ := [(lb, HO.lst [])]) (l₂ := [(p, _), (l, _)])).append_right _
  · exact ⟨⟨t.bodies, [], rfl, B.bods, by unfold PartsAt; rfl⟩, B.frames⟩
/-- a part that is whole goes into the last body on top -/
def sp_Reader_add_part (K : PySem.W.Frag) : Sp := sp2 fun v v1 H Q E => ∃ (p : Addr) (t : T), v1 = .ref p ∧ ∃ (a : Addr) (G : Hp) (ra : RA) (r : RS), v = .ref a ∧ ReaderAt K H G a ra r ∧ PartAt (cP K) G t p ∧ r.st ≠ [] ∧ (∀ u ∈ r.st, ∀ b ∈ u.bodies, b.length ≤ 90000) ∧
  ∀ r', addPart t r = some r' → ∀ (H' : Hp) (ra' : RA), ra'.bk = ra.bk → ReaderAt K H' G a ra' r' → Q .non H'
theorem ok_Reader_add_part (Z : Tx w K mg) : Cal P w K mg base CX0 1 (He.fAd K ("Reader", some "add_part")) ["self", "part"] (sp_Reader_add_part K) := by
  obtain ⟨fd, F⟩ := Z.fd_Reader_add_part
  refine ⟨⟨fd, F.ok sc_Reader_add_part (fun vs H Q E h => ?_) (fun cdv A outer s H vs Q E hr h => ?_), F.bindsN fun _ _ _ _ _ _ us hl => match us, hl with | [_, _], _ => rfl⟩, F.kp⟩
  · exact sp2_len h
  have sc := sc_Reader_add_part
  have nd : N_Reader_add_part.Nodup := sc.nd
  replace h := sp2_get h
  obtain ⟨v_self, v_part, rfl, h⟩ := h
  refine ⟨_, PSs.nox (by exact ((pss_one (ps_expr (pe_bm PySem.F.plainAttrs_list PySem.F.slot_list_append PySem.F.type_list_append mt_append (pe_ix ix_list (pe_fld (pe_ix ix_list (pe_fld (pv 0) rfl) (pe_un un_neg pe_int) (fun _ _ => rfl)) rfl) (pe_un un_neg pe_int) (fun _ _ => rfl)) (pa_cons (pv 1) pa_nil)))))), ?_⟩
  obtain ⟨p, t, rfl, a, G, ra, r, rfl, B, hp, hne, hb, h⟩ := h
  obtain ⟨u, st, hst⟩ : ∃ u st, r.st = u :: st := by
    cases e : r.st with
    | nil => exact absurd e hne
    | cons u st => exact ⟨u, st, rfl⟩
  obtain ⟨f, fs, hfr⟩ : ∃ f fs, ra.fr = f :: fs := by
    have := B.frames.len
    cases e : ra.fr with
    | nil => rw [e, hst] at this; cases this
    | cons f fs => exact ⟨f, fs, rfl⟩
  have fr := B.frames
  rw [hfr, hst] at fr
  obtain ⟨bs, b, eb, hB, hP⟩ := fr.1
  have lay : Lay H G (rent K a ra r.nm :: sent ra :: (bms K ra.bk ra.A r.bk ++ (fms K f u ++ stms K fs st))) := by
    have := B.lay
    unfold rms at this
    rw [hfr, hst] at this
    exact this
  have ha : H a = some (.ins (cR K) ra.dxR (F_Reader (.ref ra.wl) (.int ra.pre.length) (.ref ra.sl) (.str (S r.nm)) (.ref ra.bk))) := lay.getAt 0 rfl
  have hs : H ra.sl = some (.lst ((fs.map (·.a)).reverse.map V.ref ++ [.ref f.a])) := by
    have := lay.getAt 1 (k := ra.sl) (o := .lst ((ra.fr.map (·.a)).reverse.map V.ref)) rfl
    rw [hfr] at this
    rw [this]; simp
  have hf : H f.a = some (.ins (cP K) f.dx (F_Part (.str u.w.s) (.int u.n) (.ref f.l) (.int u.things))) := lay.getAt 8 rfl
  have hl : H f.l = some (.lst (f.as.map V.ref ++ [.ref f.lb])) := by
    have := lay.getAt 9 (k := f.l) (o := .lst ((f.as ++ [f.lb]).map V.ref)) rfl
    rw [this]; simp
  have hb2 : H f.lb = some (.lst (f.ps.map V.ref)) := lay.getAt 10 rfl
  simp [cxK, cxKn, Cx.nox, wipe, PySem.Str.mk.injEq, exists_eq_left', tCall, rI, rU, CMul, tSeq, tIfS, tTest, tOp, tVar, tC, rEq, rNe, tRet, tRetN, tNext, tChain, rI0, tCB, tCons, tNil, tIf, tB, tAnd, tOr, tNot, tAndV, tOrV, tNotV, tDrop, tUn, tAsg, gName, L2.start, List.length_cons, List.length_nil, List.map_cons, List.map_nil, List.cons_append, List.nil_append, List.getElem?_cons_zero, List.getElem?_cons_succ, List.set_cons_zero, List.set_cons_succ, Nat.sub_self, List.replicate_zero, List.replicate_succ, Nat.succ_sub_succ, Nat.reduceSub, Nat.reduceAdd, Nat.reduceLT, Option.some.injEq, exists_eq_left, exists_and_left, exists_eq, V.bl.injEq, V.int.injEq, V.str.injEq, V.ref.injEq, and_true, true_and, scal, exists_eq', decide_eq_true_eq, if_false_left, reduceIte, Bool.false_eq_true, ite_true, ite_false, N_Reader_add_part, -List.lookup_eq_none_iff, sFld, tFld, sFldAug, tMeth, tMake, tBM, tBM0, rAppend, rPop, HO.ins.injEq, HO.lst.injEq, HO.dK.injEq, upd_same, upd_upd, and_assoc, and_self, tLst, tTup, tDNewK, tDNewT, true_implies, forall_eq, forall_eq', ha, hf, Z.cl_Reader, Z.cl_Part, Z.n_Part_bodies, Z.n_Reader_stack, lk_Part_bodies, lk_Reader_stack]
  have blen : (f.ps.map V.ref).length < sizeLine := by
    rw [List.length_map, hP.len]
    exact line_lt (Nat.le_trans (hb u (by rw [hst]; exact List.mem_cons_self ..) b (by rw [eb]; simp)) (by decide))
  refine ⟨_, _, _, _, rfl, rfl, SqL.of hs, atI_last _ _, f.a, rfl, _, _, _, hf, Z.cl_Part, Z.n_Part_bodies, _, lk_Part_bodies _ _ _ _, _, _, _, _, rfl, rfl, SqL.of hl, atI_last _ _, .inl ⟨rfl, _, SqL.of hb2⟩, _, rfl, _, hb2, blen, ?_⟩
  obtain ⟨w', n', h', bs'⟩ := u
  have eb' : bs' = bs ++ [b] := eb
  have add : ∀ (bs : List (List T)) (b : List T) (x : T), addLast (bs ++ [b]) x = bs ++ [b ++ [x]] := by
    intro bs b x
    induction bs with
    | nil => rfl
    | cons c r ih =>
      cases r with
      | nil => rfl
      | cons d r => show c :: addLast ((d :: r) ++ [b]) x = c :: ((d :: r) ++ [b ++ [x]]); rw [ih]
  refine h { r with st := .mk w' n' h' (addLast bs' t) :: st } (by unfold addPart; rw [hst]) _ { ra with fr := { f with ps := f.ps ++ [p] } :: fs } rfl ⟨?_, B.words, B.wlen, B.wne, B.parts, B.times, ⟨⟨bs, b ++ [t], ?_, hB, hP.snoc hp⟩, fr.2⟩⟩
  · have L1 : Lay (upd H f.lb (.lst (f.ps.map V.ref ++ [.ref p]))) G _ := lay.updAt (o' := .lst (f.ps.map V.ref ++ [.ref p])) 10 rfl
    have e1 : f.ps.map V.ref ++ [V.ref p] = (f.ps ++ [p]).map V.ref := by simp
    have e2 : sent ra = sent { ra with fr := { f with ps := f.ps ++ [p] } :: fs } := by unfold sent; rw [hfr]; rfl
    rw [e1, e2] at L1
    rw [e1]
    exact L1
  · show addLast bs' t = _
    rw [eb', add]
end
end Bw
end

section
set_option Elab.async false
set_option linter.all false
set_option maxRecDepth 100000
set_option maxHeartbeats 4000000
/-! The recipes: the reader's turns. -/
namespace Bw
open PySem PySem.Spec PyProof.Rows L2 TL
structure SmallP (r : RS) : Prop where
  bods : ∀ u ∈ r.st, u.bodies.length ≤ 80000
  body : ∀ u ∈ r.st, ∀ b ∈ u.bodies, b.length ≤ 80000
  recs : r.bk.recs.length ≤ 80000
structure Small (r : RS) : Prop extends SmallP r where
  st : r.st.length ≤ 80000
  steps : r.bk.steps.length ≤ 80000
  conds : r.bk.conds.length ≤ 80000
/-- what stands on top -/
def TopOk (r : RS) : Prop := ∀ u s, r.st = u :: s → (u.w = .recipe → u.n = r.bk.recs.length ∧ idx r.bk.names r.nm = none) ∧ (u.w ≠ .recipe → s ≠ [])
def GoodR (r : RS) : Prop := Small r ∧ TopOk r
theorem addLast_len : ∀ {bs : List (List T)} {x : T}, (addLast bs x).length = bs.length
  | [], _ => rfl
  | [b], _ => rfl
  | b :: c :: r, x => by show (addLast (c :: r) x).length + 1 = _; rw [addLast_len]; rfl
section
variable {P : Program} {w : World} {K : PySem.W.Frag} {mg : Str → Option Value} {base : Heap}
theorem fixAt {H G : Hp} {ms : List (Addr × HO)} {k : Addr} {o : HO} (L : Lay H G ms) (i : Nat) (h : ms[i]? = some (k, o)) : Lay H (upd G k o) (ms.take i ++ ms.drop (i + 1)) ∧ Same G (upd G k o) := by
  have e := split_at h
  have M2 : Lay H G ((k, o) :: (ms.take i ++ ms.drop (i + 1))) := L.perm (by
    conv => lhs; rw [e]
    exact List.perm_middle)
  exact M2.fix
def sp_Reader_put_away (K : PySem.W.Frag) : Sp := sp1 fun v H Q E => spM K (fun r => (SmallP r ∧ TopOk r) ∧ r.st ≠ []) putAway v H Q E
theorem ok_Reader_put_away (Z : Tx w K mg) : Cal P w K mg base (L2.CX P w) 6 (He.fAd K ("Reader", some "put_away")) ["self"] (sp_Reader_put_away K) := by
  obtain ⟨fd, F⟩ := Z.fd_Reader_put_away
  have c_Part_count_things := ok_Part_count_things (P := P) (w := w) (base := base) Z
  have c_Book_add_recipe := ok_Book_add_recipe (P := P) (w := w) (base := base) Z
  have c_Reader_add_part := ok_Reader_add_part (P := P) (w := w) (base := base) Z
  refine ⟨⟨fd, F.ok sc_Reader_put_away (fun vs H Q E h => ?_) (fun cdv A outer s H vs Q E hr h => ?_), F.bindsN fun _ _ _ _ _ _ us hl => match us, hl with | [_], _ => rfl⟩, F.kp⟩
  · exact sp1_len h
  have sc := sc_Reader_put_away
  have nd : N_Reader_put_away.Nodup := sc.nd
  replace h := sp1_get h
  obtain ⟨v_self, rfl, h⟩ := h
  refine ⟨_, by exact ((pss_cons (ps_set (i := 1) nd rfl (by first | exact Or.inl rfl | exact Or.inr rfl) (pe_bm0 PySem.F.plainAttrs_list PySem.F.slot_list_pop PySem.F.type_list_pop mt_pop (pe_fld (pv 0) rfl)))
 (pss_cons (ps_expr (pe_metC0 (E := E0) (pv 1) Z.cl_Part Z.m_Part_count_things c_Part_count_things (hr.mono (by decide)) pass0))
 (pss_one (ps_if (pt_cmpR op_eq (pe_fld (pv 1) rfl) pe_str (nomark _)) (pss_one (ps_expr (pe_metC (E := E) (pe_fld (pv 0) rfl) Z.cl_Book Z.m_Book_add_recipe c_Book_add_recipe (hr.mono (by decide)) (passes_call (takes_of rfl rfl rfl rfl) (fun _ _ _ _ z => z)) (pa_cons (pe_fld (pv 0) rfl) (pa_cons (pv 1) pa_nil))))) (pss_one (ps_expr (pe_metC (E := E0) (pv 0) Z.cl_Reader Z.m_Reader_add_part c_Reader_add_part (hr.mono (by decide)) pass0 (pa_cons (pv 1) pa_nil))))))))), ?_⟩
  obtain ⟨a, G, ra, r, rfl, B, ⟨⟨sm, top⟩, hne⟩, hE, hQ⟩ := h
  obtain ⟨u, st, hst⟩ : ∃ u st, r.st = u :: st := by
    cases e : r.st with
    | nil => exact absurd e hne
    | cons u st => exact ⟨u, st, rfl⟩
  obtain ⟨f, fs, hfr⟩ : ∃ f fs, ra.fr = f :: fs := by
    have := B.frames.len
    cases e : ra.fr with
    | nil => rw [e, hst] at this; cases this
    | cons f fs => exact ⟨f, fs, rfl⟩
  have fr := B.frames
  rw [hfr, hst] at fr
  obtain ⟨bs, b, eb, hB, hP⟩ := fr.1
  have lay : Lay H G (rent K a ra r.nm :: sent ra :: (bms K ra.bk ra.A r.bk ++ (fms K f u ++ stms K fs st))) := by
    have := B.lay
    unfold rms at this
    rw [hfr, hst] at this
    exact this
  have ha : H a = some (.ins (cR K) ra.dxR (F_Reader (.ref ra.wl) (.int ra.pre.length) (.ref ra.sl) (.str (S r.nm)) (.ref ra.bk))) := lay.getAt 0 rfl
  have hs : H ra.sl = some (.lst ((fs.map (·.a)).reverse.map V.ref ++ [.ref f.a])) := by
    have := lay.getAt 1 (k := ra.sl) (o := .lst ((ra.fr.map (·.a)).reverse.map V.ref)) rfl
    rw [hfr] at this
    rw [this]; simp
  have L1 : Lay (upd H ra.sl (.lst ((fs.map (·.a)).reverse.map V.ref))) G _ := lay.updAt (o' := .lst ((fs.map (·.a)).reverse.map V.ref)) 1 rfl
  have hf1 : (upd H ra.sl (.lst ((fs.map (·.a)).reverse.map V.ref))) f.a = some (.ins (cP K) f.dx (F_Part (.str u.w.s) (.int u.n) (.ref f.l) (.int u.things))) := L1.getAt 8 rfl
  have hl1 : (upd H ra.sl (.lst ((fs.map (·.a)).reverse.map V.ref))) f.l = some (.lst ((f.as ++ [f.lb]).map V.ref)) := L1.getAt 9 rfl
  have hb1 : (upd H ra.sl (.lst ((fs.map (·.a)).reverse.map V.ref))) f.lb = some (.lst (f.ps.map V.ref)) := L1.getAt 10 rfl
  have po : PartObj K (upd H ra.sl (.lst ((fs.map (·.a)).reverse.map V.ref))) f.a f.dx f.l (f.as ++ [f.lb]) u := ⟨hf1, hl1, by rw [eb]; exact (hB.mono L1.same _ _).snoc hb1 (hP.mono L1.same _ _)⟩
  simp [cxK, cxKn, Cx.nox, wipe, PySem.Str.mk.injEq, exists_eq_left', tCall, rI, rU, CMul, tSeq, tIfS, tTest, tOp, tVar, tC, rEq, rNe, tRet, tRetN, tNext, tChain, rI0, tCB, tCons, tNil, tIf, tB, tAnd, tOr, tNot, tAndV, tOrV, tNotV, tDrop, tUn, tAsg, gName, L2.start, List.length_cons, List.length_nil, List.map_cons, List.map_nil, List.cons_append, List.nil_append, List.getElem?_cons_zero, List.getElem?_cons_succ, List.set_cons_zero, List.set_cons_succ, Nat.sub_self, List.replicate_zero, List.replicate_succ, Nat.succ_sub_succ, Nat.reduceSub, Nat.reduceAdd, Nat.reduceLT, Option.some.injEq, exists_eq_left, exists_and_left, exists_eq, V.bl.injEq, V.int.injEq, V.str.injEq, V.ref.injEq, and_true, true_and, scal, exists_eq', decide_eq_true_eq, if_false_left, reduceIte, Bool.false_eq_true, ite_true, ite_false, N_Reader_put_away, -List.lookup_eq_none_iff, sFld, tFld, sFldAug, tMeth, tMake, tBM, tBM0, rAppend, rPop, HO.ins.injEq, HO.lst.injEq, HO.dK.injEq, upd_same, upd_upd, and_assoc, and_self, tLst, tTup, tDNewK, tDNewT, true_implies, forall_eq, forall_eq', ha, Z.cl_Reader, Z.cl_Part, Z.n_Reader_stack, lk_Reader_stack]
  refine ⟨.inl ⟨rfl, _, SqL.of hs⟩, _, hs, .ref f.a, by simp, f.a, rfl, ?_⟩
  rw [List.dropLast_concat]
  obtain ⟨H1, eH⟩ : ∃ H1, H1 = upd H ra.sl (.lst ((fs.map (·.a)).reverse.map V.ref)) := ⟨_, rfl⟩
  rw [← eH] at L1 hf1 hl1 hb1 po ⊢
  have bne : u.bodies ≠ [] := by rw [eb]; simp
  have um : u ∈ r.st := by rw [hst]; exact List.mem_cons_self ..
  refine ⟨_, _, hf1, lm_Part_count_things _ _ _ _, _, rfl, f.a, f.dx, f.l, f.as ++ [f.lb], u, rfl, po, Nat.le_trans (sm.bods u um) (by decide), fun b hb => Nat.le_trans (sm.body u um b hb) (by decide), fun _ => bne, fun H2 s2 => ?_⟩
  obtain ⟨w', n', h', bs'⟩ := u
  obtain ⟨H3, eH3⟩ : ∃ H3, H3 = upd H2 f.a (.ins (cP K) f.dx (F_Part (.str (T.mk w' n' h' bs').w.s) (.int (T.mk w' n' h' bs').n) (.ref f.l) (.int (T.mk w' n' h' bs').counted.things))) := ⟨_, rfl⟩
  have M0 := (L1.later s2).updAt (o' := .ins (cP K) f.dx (F_Part (.str (T.mk w' n' h' bs').w.s) (.int (T.mk w' n' h' bs').n) (.ref f.l) (.int (T.mk w' n' h' bs').counted.things))) 8 rfl
  rw [← eH3] at M0 ⊢
  obtain ⟨M1, g1⟩ := fixAt M0 10 (k := f.lb) (o := .lst (f.ps.map V.ref)) rfl
  obtain ⟨M2, g2⟩ := fixAt M1 9 (k := f.l) (o := .lst ((f.as ++ [f.lb]).map V.ref)) rfl
  obtain ⟨M3, g3⟩ := fixAt M2 8 (k := f.a) (o := .ins (cP K) f.dx (F_Part (.str w'.s) (.int n') (.ref f.l) (.int (T.mk w' n' h' bs').counted.things))) rfl
  have gl := g2 _ _ (upd_same (H := G) (a := f.lb) (o := .lst (f.ps.map V.ref)))
  have gl := g3 _ _ gl
  have gm := g3 _ _ (upd_same (a := f.l) (o := .lst ((f.as ++ [f.lb]).map V.ref)))
  have gG := (g1.trans g2).trans g3
  obtain ⟨G3, eG⟩ : ∃ G3 : Hp, G3 = upd (upd (upd G f.lb (.lst (f.ps.map V.ref))) f.l (.lst ((f.as ++ [f.lb]).map V.ref))) f.a (.ins (cP K) f.dx (F_Part (.str w'.s) (.int n') (.ref f.l) (.int (T.mk w' n' h' bs').counted.things))) := ⟨_, rfl⟩
  have gp : G3 f.a = some (.ins (cP K) f.dx (F_Part (.str w'.s) (.int n') (.ref f.l) (.int (T.mk w' n' h' bs').counted.things))) := by rw [eG]; exact upd_same
  rw [← eG] at M3 gl gm gG
  have eb' : bs' = bs ++ [b] := eb
  have pt : PartAt (cP K) G3 (T.mk w' n' h' bs').counted f.a := by
    show PartAt (cP K) G3 (T.mk w' n' _ bs') f.a
    unfold PartAt
    exact ⟨f.dx, f.l, f.as ++ [f.lb], gp, gm, by rw [eb']; exact (hB.mono gG _ _).snoc gl (hP.mono gG _ _)⟩
  have B3 : ReaderAt K H3 G3 a { ra with fr := fs } { r with st := st } := ⟨M3, gG _ _ B.words, B.wlen, B.wne, B.parts.mono gG _ _, B.times.mono gG, fr.2.mono gG⟩
  have ha3 : H3 a = some (.ins (cR K) ra.dxR (F_Reader (.ref ra.wl) (.int ra.pre.length) (.ref ra.sl) (.str (S r.nm)) (.ref ra.bk))) := B3.lay.getAt 0 rfl
  have tp := top _ _ hst
  refine ⟨f.a, rfl, _, _, _, M0.getAt 8 rfl, Z.cl_Part, Z.n_Part_word, _, lk_Part_word _ _ _ _, rfl, ?_⟩
  refine if_intro (fun c => ?_) fun c => ?_
  · have ew : w' = .recipe := wd_inj (b := .recipe) (V.str.inj c)
    have ePut : putAway r = (addRec r.bk r.nm (T.mk w' n' h' bs').counted).map fun k => { r with st := st, bk := k } := by
      unfold putAway; rw [hst]; exact if_pos ew
    obtain ⟨tn, ti⟩ := tp.1 ew
    refine ⟨_, _, _, ha3, Z.cl_Reader, Z.n_Reader_book, _, lk_Reader_book _ _ _ _ _, _, rfl, ?_⟩
    have BB := B3.book
    refine ⟨_, _, BB.lay.getAt 0 rfl, lm_Book_add_recipe _ _ _ _ _ _, _, _, _, ha3, Z.cl_Reader, Z.n_Reader_recipe_name, _, lk_Reader_recipe_name _ _ _ _ _, _, _, _, rfl, ra.bk, f.a, ra.A, r.bk, G3, _, r.nm, (T.mk w' n' h' bs').counted, rfl, rfl, rfl, BB, pt, tn, ti, Nat.le_trans sm.recs (by decide), fun e => hE (by rw [ePut, e]; rfl), fun k' e H' A' _ B' => ?_⟩
    exact hQ { r with st := st, bk := k' } (by rw [ePut, e]; rfl) H' G3 { ra with fr := fs, A := A' } gG rfl (B3.ofBook (Same.refl G3) B')
  · have ew : w' ≠ .recipe := fun z => c (by rw [z]; rfl)
    have ePut : putAway r = addPart (T.mk w' n' h' bs').counted { r with st := st } := by
      unfold putAway; rw [hst]; exact if_neg ew
    refine ⟨_, _, ha3, lm_Reader_add_part _ _ _ _ _, _, _, rfl, f.a, _, rfl, a, G3, _, _, rfl, B3, pt, tp.2 ew, fun v hv b hb => Nat.le_trans (sm.body v (by rw [hst]; exact List.mem_cons_of_mem _ hv) b hb) (by decide), fun r' e H' ra' kb B' => ?_⟩
    exact hQ r' (ePut.trans e) H' G3 ra' gG kb B'
/-- all but the words left is as it was -/
def Like (r r' : RS) : Prop := r' = { r with t := r'.t }
theorem Like.refl (r : RS) : Like r r := rfl
theorem Like.trans {a b c : RS} (h : Like a b) (g : Like b c) : Like a c := by
  unfold Like at *
  rw [g, h]
theorem like_word {r r' : RS} {x : List Nat} (h : nextWord r = some (x, r')) : Like r r' := (nextWord_in h).2
theorem like_name {r r' : RS} {x : List Nat} (h : nextName r = some (x, r')) : Like r r' := by
  unfold nextName at h
  cases e : nextWord r with
  | none => rw [e] at h; cases h
  | some y =>
    rw [e] at h
    have h' : (if Vbwbab.isName y.1 = true then some y else none) = some (x, r') := h
    split at h'
    · cases h'; exact like_word e
    · cases h'
theorem like_time {r r' : RS} {lo n : Nat} (h : nextTime lo r = some (n, r')) : Like r r' := by
  unfold nextTime at h
  cases e : nextWord r with
  | none => rw [e] at h; cases h
  | some y =>
    rw [e] at h
    have h' : (match Vbwbab.numOf y.1 with | none => none | some n => if lo ≤ n ∧ n ≤ 1000000 then some (n, y.2) else none) = some (n, r') := h
    cases e2 : Vbwbab.numOf y.1 with
    | none => rw [e2] at h'; cases h'
    | some m =>
      rw [e2] at h'
      have h2 : (if lo ≤ m ∧ m ≤ 1000000 then some (m, y.2) else none) = some (n, r') := h'
      split at h2
      · cases h2; exact like_word (x := y.1) e
      · cases h2
theorem like_expect {r r' : RS} {k : List Nat} (h : expect k r = some r') : Like r r' := by
  unfold expect at h
  cases e : nextWord r with
  | none => rw [e] at h; cases h
  | some y =>
    rw [e] at h
    have h' : (if y.1 = k then some y.2 else none) = some r' := h
    split at h'
    · cases h'; exact like_word (x := y.1) e
    · cases h'
def stepEnd (x : List Nat) (tm : Option (Nat × Nat)) (r : RS) : Option RS := match stepOf r.bk x tm with
  | none => none
  | some (i, k) => addPart (.mk .do_ i 1 []) { r with bk := k }
theorem readStep_no {r r1 : RS} {x : List Nat} (e : nextName r = some (x, r1)) (h : ¬ r1.t.head? = some (kw "takes")) : readStep r = stepEnd x none r1 := by
  unfold readStep; rw [e]; exact if_neg h
theorem readStep_yes {r r1 : RS} {x : List Nat} (e : nextName r = some (x, r1)) (h : r1.t.head? = some (kw "takes")) : readStep r = (match expect (kw "takes") r1 with
      | none => none
      | some r1 => match nextTime 0 r1 with
        | none => none
        | some (lo, r2) => match expect (kw "to") r2 with
          | none => none
          | some r3 => match nextTime lo r3 with
            | none => none
            | some (hi, r4) => stepEnd x (some (lo, hi)) r4) := by
  unfold readStep; rw [e]; exact if_pos h
theorem pl_kw : Pl (kw "takes") = true ∧ Pl (kw "to") = true ∧ Pl (kw "then") = true ∧ Pl (kw "end") = true ∧ Pl (kw "recipe") = true ∧ Pl (kw "do") = true ∧ Pl (kw "use") = true ∧ Pl (kw "again") = true ∧ Pl (kw "if") = true ∧ Pl (kw "either") = true ∧ Pl (kw "both") = true ∧ Pl (kw "until") = true ∧ Pl (kw "else") = true ∧ Pl (kw "or") = true ∧ Pl (kw "and") = true := by decide +kernel
def sp_Reader_read_step (K : PySem.W.Frag) : Sp := sp1 fun v H Q E => spM K (fun r => GoodR r ∧ r.st ≠ []) readStep v H Q E
theorem ok_Reader_read_step (Z : Tx w K mg) : Cal P w K mg base (L2.CX P w) 8 (He.fAd K ("Reader", some "read_step")) ["self"] (sp_Reader_read_step K) := by
  obtain ⟨fd, F⟩ := Z.fd_Reader_read_step
  have c_Reader_next_name := ok_Reader_next_name (P := P) (w := w) (base := base) Z
  have c_Reader_next_is := ok_Reader_next_is (P := P) (w := w) (base := base) Z
  have c_Reader_expect := ok_Reader_expect (P := P) (w := w) (base := base) Z
  have c_Reader_next_time := ok_Reader_next_time (P := P) (w := w) (base := base) Z
  have c_Reader_add_part := ok_Reader_add_part (P := P) (w := w) (base := base) Z
  have c_Part_init := ok_Part_init (P := P) (w := w) (base := base) Z
  have c_Book_step_of := ok_Book_step_of (P := P) (w := w) (base := base) Z
  refine ⟨⟨fd, F.ok sc_Reader_read_step (fun vs H Q E h => ?_) (fun cdv A outer s H vs Q E hr h => ?_), F.bindsN fun _ _ _ _ _ _ us hl => match us, hl with | [_], _ => rfl⟩, F.kp⟩
  · exact sp1_len h
  have sc := sc_Reader_read_step
  have nd : N_Reader_read_step.Nodup := sc.nd
  replace h := sp1_get h
  obtain ⟨v_self, rfl, h⟩ := h
  refine ⟨_, by exact ((pss_cons (ps_set (i := 1) nd rfl (by first | exact Or.inl rfl | exact Or.inr rfl) (pe_metC0 (E := E) (pv 0) Z.cl_Reader Z.m_Reader_next_name c_Reader_next_name (hr.mono (by decide)) (passes_call (takes_of rfl rfl rfl rfl) (fun _ _ _ _ z => z))))
 (pss_cons (ps_set (i := 2) nd rfl (by first | exact Or.inl rfl | exact Or.inr rfl) pe_non)
 (C8.pss_cut (ps_if (pt_val (pe_metC (E := E0) (pv 0) Z.cl_Reader Z.m_Reader_next_is c_Reader_next_is (hr.mono (by decide)) pass0 (pa_cons pe_str pa_nil))) (pss_cons (ps_expr (pe_metC (E := E) (pv 0) Z.cl_Reader Z.m_Reader_expect c_Reader_expect (hr.mono (by decide)) (passes_call (takes_of rfl rfl rfl rfl) (fun _ _ _ _ z => z)) (pa_cons pe_str pa_nil)))
 (pss_cons (ps_set (i := 3) nd rfl (by first | exact Or.inl rfl | exact Or.inr rfl) (pe_metC (E := E) (pv 0) Z.cl_Reader Z.m_Reader_next_time c_Reader_next_time (hr.mono (by decide)) (passes_call (takes_of rfl rfl rfl rfl) (fun _ _ _ _ z => z)) (pa_cons pe_int pa_nil)))
 (pss_cons (ps_expr (pe_metC (E := E) (pv 0) Z.cl_Reader Z.m_Reader_expect c_Reader_expect (hr.mono (by decide)) (passes_call (takes_of rfl rfl rfl rfl) (fun _ _ _ _ z => z)) (pa_cons pe_str pa_nil)))
 (pss_one (ps_set (i := 2) nd rfl (by first | exact Or.inl rfl | exact Or.inr rfl) (pe_tup (pa_cons (pv 3) (pa_cons (pe_metC (E := E) (pv 0) Z.cl_Reader Z.m_Reader_next_time c_Reader_next_time (hr.mono (by decide)) (passes_call (takes_of rfl rfl rfl rfl) (fun _ _ _ _ z => z)) (pa_cons (pv 3) pa_nil)) pa_nil)))))))) pss_nil)
 (pss_one (ps_expr (pe_metC (E := E0) (pv 0) Z.cl_Reader Z.m_Reader_add_part c_Reader_add_part (hr.mono (by decide)) pass0 (pa_cons (pe_makC (E := E0) Z.mk_Part c_Part_init (hr.mono (by decide)) rfl Z.g_Part pass0 (pa_cons pe_str (pa_cons (pe_metC (E := E) (pe_fld (pv 0) rfl) Z.cl_Book Z.m_Book_step_of c_Book_step_of (hr.mono (by decide)) (passes_call (takes_of rfl rfl rfl rfl) (fun _ _ _ _ z => z)) (pa_cons (pv 1) (pa_cons (pv 2) pa_nil))) (pa_cons pe_int pa_nil)))) pa_nil)))))))), ?_⟩
  obtain ⟨a, G, ra, r, rfl, B, ⟨⟨sm, top⟩, hne⟩, hE, hQ⟩ := h
  refine ⟨_, rfl, a, ra.dxR, _, rfl, B.lay.getAt 0 rfl, lm_Reader_next_name _ _ _ _ _, _, rfl, a, G, ra, r, rfl, B, trivial, fun e => hE (by unfold readStep; rw [e]), fun x r1 e1 H1 G1 ra1 s1 k1 B1 => ?_⟩
  simp [cxK, cxKn, Cx.nox, wipe, PySem.Str.mk.injEq, exists_eq_left', tCall, rI, rU, CMul, tSeq, tIfS, tTest, tOp, tVar, tC, rEq, rNe, tRet, tRetN, tNext, tChain, rI0, tCB, tCons, tNil, tIf, tB, tAnd, tOr, tNot, tAndV, tOrV, tNotV, tDrop, tUn, tAsg, gName, L2.start, List.length_cons, List.length_nil, List.map_cons, List.map_nil, List.cons_append, List.nil_append, List.getElem?_cons_zero, List.getElem?_cons_succ, List.set_cons_zero, List.set_cons_succ, Nat.sub_self, List.replicate_zero, List.replicate_succ, Nat.succ_sub_succ, Nat.reduceSub, Nat.reduceAdd, Nat.reduceLT, Option.some.injEq, exists_eq_left, exists_and_left, exists_eq, V.bl.injEq, V.int.injEq, V.str.injEq, V.ref.injEq, and_true, true_and, scal, exists_eq', decide_eq_true_eq, if_false_left, reduceIte, Bool.false_eq_true, ite_true, ite_false, N_Reader_read_step]
  refine ⟨fun σ' H' => ∃ (v : V) (v3 : Option V) (tm : Option (Nat × Nat)) (G2 : Hp) (ra2 : RA) (r2 : RS), σ' = [some (.ref a), some (.str (S x)), some v, v3] ∧ TimeV G2 v tm ∧ Same G G2 ∧ ra2.bk = ra.bk ∧ ReaderAt K H' G2 a ra2 r2 ∧ Like r r2 ∧ readStep r = stepEnd x tm r2, ?_, ?_⟩
  · refine ⟨_, rfl, a, _, _, rfl, B1.lay.getAt 0 rfl, lm_Reader_next_is _ _ _ _ _, _, _, rfl, a, G1, ra1, r1, _, rfl, rfl, B1, _, rfl, ?_⟩
    have et : headIs r1.t.head? (Str.ofString "takes") = decide (r1.t.head? = some (kw "takes")) := by
      unfold headIs
      cases e : r1.t.head? with
      | none => rfl
      | some y =>
        show decide (S (y.map sg) = Str.ofString "takes") = decide (some y = some (kw "takes"))
        rw [decide_eq_decide, kw_S, key_eq pl_kw.1]; simp
    rw [et]
    refine if_intro (fun c => ?_) fun c => ?_
    · have eR := readStep_yes e1 (of_decide_eq_true c)
      refine ⟨_, rfl, a, _, _, rfl, B1.lay.getAt 0 rfl, lm_Reader_expect _ _ _ _ _, _, _, rfl, kw "takes", congrArg V.str (kw_S _), pl_kw.1, a, G1, ra1, r1, rfl, B1, trivial, fun e => hE (by rw [eR, e]), fun r2 e2 H2 G2 ra2 s2 k2 B2 => ?_⟩
      refine ⟨_, rfl, a, _, _, rfl, B2.lay.getAt 0 rfl, lm_Reader_next_time _ _ _ _ _, _, _, rfl, 0, rfl, a, G2, ra2, r2, rfl, B2, trivial, fun e => hE (by rw [eR, e2]; show (match nextTime 0 r2 with | none => none | some (lo, r2) => _) = none; rw [e]), fun lo r3 e3 H3 G3 ra3 s3 k3 B3 => ?_⟩
      refine ⟨_, rfl, a, _, _, rfl, B3.lay.getAt 0 rfl, lm_Reader_expect _ _ _ _ _, _, _, rfl, kw "to", congrArg V.str (kw_S _), pl_kw.2.1, a, G3, ra3, r3, rfl, B3, trivial, fun e => hE (by rw [eR, e2]; show (match nextTime 0 r2 with | none => none | some (lo, r2) => _) = none; rw [e3]; show (match expect (kw "to") r3 with | none => none | some r3 => _) = none; rw [e]), fun r4 e4 H4 G4 ra4 s4 k4 B4 => ?_⟩
      refine ⟨_, rfl, _, rfl, a, _, _, rfl, B4.lay.getAt 0 rfl, lm_Reader_next_time _ _ _ _ _, _, rfl, _, _, rfl, lo, rfl, a, G4, ra4, r4, rfl, B4, trivial, fun e => hE (by
        rw [eR, e2]; show (match nextTime 0 r2 with | none => none | some (lo, r2) => _) = none; rw [e3]; show (match expect (kw "to") r3 with | none => none | some r3 => _) = none; rw [e4]
        show (match nextTime lo r4 with | none => none | some (hi, r4) => _) = none; rw [e]), fun hi r5 e5 H5 G5 ra5 s5 k5 B5 => ?_⟩
      refine ⟨(by show 2 ≤ sizeLine; decide), fun tp htp => ?_⟩
      obtain ⟨L6, s6⟩ := (B5.lay.new (o := .tup [.int lo, .int hi]) htp).fix
      have B6 : ReaderAt K (upd H5 tp (.tup [.int lo, .int hi])) (upd G5 tp (.tup [.int lo, .int hi])) a ra5 r5 := ⟨L6, s6 _ _ B5.words, B5.wlen, B5.wne, B5.parts.mono s6 _ _, B5.times.mono s6, B5.frames.mono s6⟩
      refine ⟨.ref tp, some (.int lo), some (lo, hi), _, ra5, r5, rfl, ⟨tp, rfl, upd_same⟩, ((((s1.trans s2).trans s3).trans s4).trans s5).trans s6, by rw [k5.1, k4, k3.1, k2, k1.1], B6, ((((like_name e1).trans (like_expect e2)).trans (like_time e3)).trans (like_expect e4)).trans (like_time e5), ?_⟩
      rw [eR, e2]; show (match nextTime 0 r2 with | none => none | some (lo, r2) => _) = _
      rw [e3]; show (match expect (kw "to") r3 with | none => none | some r3 => _) = _
      rw [e4]; show (match nextTime lo r4 with | none => none | some (hi, r4) => _) = _
      rw [e5]
    · have eR := readStep_no e1 (fun z => c (decide_eq_true z))
      exact ⟨.non, none, none, G1, ra1, r1, rfl, rfl, s1, k1.1, B1, like_name e1, eR⟩
  · rintro σ' H' ⟨v, v3, tm, G2, ra2, r2, rfl, ht, s2, k2, B2, lk, eR⟩
    have eb : r2.bk = r.bk := by rw [lk]
    have es : r2.st = r.st := by rw [lk]
    have BB := B2.book
    refine ⟨_, rfl, a, _, _, rfl, B2.lay.getAt 0 rfl, lm_Reader_add_part _ _ _ _ _, ?_⟩
    refine ⟨_, rfl, a, _, _, _, _, rfl, B2.lay.getAt 0 rfl, Z.cl_Reader, Z.n_Reader_book, lk_Reader_book _ _ _ _ _, ra2.bk, _, _, rfl, BB.lay.getAt 0 rfl, lm_Book_step_of _ _ _ _ _ _, _, rfl, _, rfl, ?_⟩
    refine ⟨_, _, _, rfl, ra2.bk, ra2.A, r2.bk, G2, _, x, tm, rfl, rfl, ht, BB, by rw [eb]; exact Nat.le_trans sm.steps (by decide), fun e => hE (by rw [eR]; unfold stepEnd; rw [e]), fun i k' e H3 G3 A3 s3 eA B3 => ?_⟩
    have B4 := B2.ofBook s3 B3
    intro p dx np nd ne
    refine ⟨_, _, _, _, rfl, p, dx, rfl, upd_same, fun l H4 hl hp hll ho => ⟨rfl, ?_⟩⟩
    obtain ⟨L4, s4⟩ := new_ins B4.lay np nd hl hp hll ho
    obtain ⟨M1, g1⟩ := fixAt L4 1 rfl
    obtain ⟨M2, g2⟩ := fixAt M1 0 rfl
    have gg := g1.trans g2
    have B5 : ReaderAt K H4 _ a { ra2 with A := A3 } { r2 with bk := k' } := ⟨M2, gg _ _ B4.words, B4.wlen, B4.wne, B4.parts.mono gg _ _, B4.times.mono gg, B4.frames.mono gg⟩
    have pt : PartAt (cP K) (upd (upd G3 l (.lst [])) p (.ins (cP K) dx (F_Part (.str "do") (.int (i : Nat)) (.ref l) (.int 1)))) (.mk .do_ i 1 []) p := by
      unfold PartAt
      exact ⟨dx, l, [], upd_same, g2 _ _ upd_same, by unfold BodsAt; rfl⟩
    refine ⟨_, _, rfl, p, _, rfl, a, _, _, _, rfl, B5, pt, by show r2.st ≠ []; rw [es]; exact hne, fun u hu b hb => ?_, fun r' e' H5 ra' kb B' => ?_⟩
    · have hu' : u ∈ r2.st := hu
      rw [es] at hu'
      exact Nat.le_trans (sm.body u hu' b hb) (by decide)
    · exact hQ r' (by rw [eR]; unfold stepEnd; rw [e]; exact e') H5 _ ra' ((s2.trans s3).trans gg) (kb.trans k2) B'
theorem idx_lt {l : List (List Nat)} {w : List Nat} {i : Nat} (h : idx l w = some i) : i < l.length := by
  unfold idx Vbwbab.indexOf at h
  split at h
  · rename_i hc
    cases h
    exact List.findIdx_lt_length_of_exists (xs := l) (p := fun x => x == w) ⟨w, by simpa using hc, by simp⟩
  · cases h
def sp_Reader_read_use (K : PySem.W.Frag) : Sp := sp1 fun v H Q E => spM K (fun r => GoodR r ∧ r.st ≠ []) readUse v H Q E
theorem ok_Reader_read_use (Z : Tx w K mg) : Cal P w K mg base (L2.CX P w) 8 (He.fAd K ("Reader", some "read_use")) ["self"] (sp_Reader_read_use K) := by
  obtain ⟨fd, F⟩ := Z.fd_Reader_read_use
  have c_Reader_next_name := ok_Reader_next_name (P := P) (w := w) (base := base) Z
  have c_WrongRecipes_init := ok_WrongRecipes_init (P := P) (w := w) (base := base) Z
  have c_Reader_add_part := ok_Reader_add_part (P := P) (w := w) (base := base) Z
  have c_Part_init := ok_Part_init (P := P) (w := w) (base := base) Z
  refine ⟨⟨fd, F.ok sc_Reader_read_use (fun vs H Q E h => ?_) (fun cdv A outer s H vs Q E hr h => ?_), F.bindsN fun _ _ _ _ _ _ us hl => match us, hl with | [_], _ => rfl⟩, F.kp⟩
  · exact sp1_len h
  have sc := sc_Reader_read_use
  have nd : N_Reader_read_use.Nodup := sc.nd
  replace h := sp1_get h
  obtain ⟨v_self, rfl, h⟩ := h
  refine ⟨_, by exact ((pss_cons (ps_set (i := 1) nd rfl (by first | exact Or.inl rfl | exact Or.inr rfl) (pe_metC0 (E := E) (pv 0) Z.cl_Reader Z.m_Reader_next_name c_Reader_next_name (hr.mono (by decide)) (passes_call (takes_of rfl rfl rfl rfl) (fun _ _ _ _ z => z))))
 (pss_cons (ps_if (pt_cmp (pc_dnotin (hu_of hr) (pv 1) (pe_fld (pe_fld (pv 0) rfl) rfl))) (pss_one (ps_raise rfl (takes_of rfl rfl rfl rfl) (pmk_ecC0 Z.x_WrongRecipes Z.in_WrongRecipes Z.fn_WrongRecipes c_WrongRecipes_init (hr.mono (by decide)) pass0 rfl Z.g_WrongRecipes))) pss_nil)
 (pss_cons (ps_set (i := 2) nd rfl (by first | exact Or.inl rfl | exact Or.inr rfl) (pe_dget (hu_of hr) (pe_fld (pe_fld (pv 0) rfl) rfl) (pv 1) (fun _ _ => rfl)))
 (pss_one (ps_expr (pe_metC (E := E0) (pv 0) Z.cl_Reader Z.m_Reader_add_part c_Reader_add_part (hr.mono (by decide)) pass0 (pa_cons (pe_makC (E := E0) Z.mk_Part c_Part_init (hr.mono (by decide)) rfl Z.g_Part pass0 (pa_cons pe_str (pa_cons (pv 2) (pa_cons (pe_fld (pe_ix ix_list (pe_fld (pe_fld (pv 0) rfl) rfl) (pv 2) (fun _ _ => rfl)) rfl) pa_nil)))) pa_nil)))))))), ?_⟩
  obtain ⟨a, G, ra, r, rfl, B, ⟨⟨sm, top⟩, hne⟩, hE, hQ⟩ := h
  refine ⟨_, rfl, a, ra.dxR, _, rfl, B.lay.getAt 0 rfl, lm_Reader_next_name _ _ _ _ _, _, rfl, a, G, ra, r, rfl, B, trivial, fun e => hE (by unfold readUse; rw [e]), fun x r1 e1 H1 G1 ra1 s1 k1 B1 => ?_⟩
  have lk := like_name e1
  have eb : r1.bk = r.bk := by rw [lk]
  have es : r1.st = r.st := by rw [lk]
  have BB := B1.book
  have hr := BB.lay.getAt 1 rfl
  have g := DGet.k (k := .inr (S x)) hr
  rw [valV_dix] at g
  refine ⟨_, rfl, _, rfl, a, _, _, _, _, rfl, B1.lay.getAt 0 rfl, Z.cl_Reader, Z.n_Reader_book, lk_Reader_book _ _ _ _ _, _, _, _, _, _, rfl, BB.lay.getAt 0 rfl, Z.cl_Book, Z.n_Book_recipes, lk_Book_recipes _ _ _ _ _ _, _, _, rfl, g, _, rfl, ?_⟩
  have eU : readUse r = (match idx r1.bk.names x with
    | none => none
    | some i => addPart (.mk .use i ((r1.bk.recs[i]?.map fun p => p.2.things).getD 0) []) r1) := by unfold readUse; rw [e1] <;> rfl
  cases hi : idx r1.bk.names x with
  | none =>
    rw [hi] at eU
    exact raise_wr Z (hE eU)
  | some i =>
    rw [hi] at eU g
    have il : i < r1.bk.recs.length := by have := idx_lt hi; unfold Bk.names at this; rwa [List.length_map] at this
    obtain ⟨pi, hpi, hpt⟩ := B1.parts.get (i := i) (t := (r1.bk.recs[i]).2) (by rw [List.getElem?_map, List.getElem?_eq_getElem il]; rfl)
    obtain ⟨dxi, wi, li, hpo⟩ := hpt.num
    have hpl := BB.lay.getAt 2 rfl
    refine if_intro (fun z => absurd z (by simp)) fun _ => ?_
    refine ⟨_, rfl, a, _, _, _, _, rfl, B1.lay.getAt 0 rfl, Z.cl_Reader, Z.n_Reader_book, lk_Reader_book _ _ _ _ _, _, _, _, _, _, rfl, BB.lay.getAt 0 rfl, Z.cl_Book, Z.n_Book_recipes, lk_Book_recipes _ _ _ _ _ _, _, rfl, _, _, rfl, g, ?_⟩
    refine ⟨_, rfl, a, _, _, rfl, B1.lay.getAt 0 rfl, lm_Reader_add_part _ _ _ _ _, ?_⟩
    refine ⟨_, rfl, _, rfl, a, _, _, _, _, rfl, B1.lay.getAt 0 rfl, Z.cl_Reader, Z.n_Reader_book, lk_Reader_book _ _ _ _ _, _, _, _, _, _, rfl, BB.lay.getAt 0 rfl, Z.cl_Book, Z.n_Book_parts, lk_Book_parts _ _ _ _ _ _, _, rfl, _, _, (i : Nat), .ref pi, rfl, rfl, SqL.of hpl, atI_nat (by rw [List.getElem?_map, hpi]; rfl), _, _, _, _, _, rfl, B1.lay.same _ _ hpo, Z.cl_Part, Z.n_Part_things, lk_Part_things _ _ _ _, ?_⟩
    intro p dx np nd ne
    refine ⟨_, _, _, _, rfl, p, dx, rfl, upd_same, fun l H4 hl hp hll ho => ⟨rfl, ?_⟩⟩
    obtain ⟨L4, s4⟩ := new_ins B1.lay np nd hl hp hll ho
    obtain ⟨M1, g1⟩ := fixAt L4 1 rfl
    obtain ⟨M2, g2⟩ := fixAt M1 0 rfl
    have gg := g1.trans g2
    have B5 : ReaderAt K H4 _ a ra1 r1 := ⟨M2, gg _ _ B1.words, B1.wlen, B1.wne, B1.parts.mono gg _ _, B1.times.mono gg, B1.frames.mono gg⟩
    have eth : ((r1.bk.recs[i]?.map fun p => p.2.things).getD 0) = (r1.bk.recs[i]).2.things := by rw [List.getElem?_eq_getElem il]; rfl
    have pt : PartAt (cP K) (upd (upd G1 l (.lst [])) p (.ins (cP K) dx (F_Part (.str "use") (.int (i : Nat)) (.ref l) (.int ((r1.bk.recs[i]).2.things : Nat))))) (.mk .use i ((r1.bk.recs[i]).2.things) []) p := by
      unfold PartAt
      exact ⟨dx, l, [], upd_same, g2 _ _ upd_same, by unfold BodsAt; rfl⟩
    refine ⟨_, _, rfl, p, _, rfl, a, _, _, _, rfl, B5, pt, by rw [es]; exact hne, fun u hu b hb => ?_, fun r' e' H5 ra' kb B' => ?_⟩
    · rw [es] at hu
      exact Nat.le_trans (sm.body u hu b hb) (by decide)
    · rw [← eth] at e'
      exact hQ r' (eU.trans e') H5 _ ra' (s1.trans gg) (kb.trans k1.1) B'
/-- begin_part's word -/
def partW (v : List Nat) : Option Wd := if v = kw "if" then some .if_ else if v = kw "either" then some .either else if v = kw "both" then some .both else if v = kw "again" then some .again else none
def sp_Reader_begin_part (K : PySem.W.Frag) : Sp := sp2 fun v v1 H Q E => ∃ wd : Wd, v1 = .str wd.s ∧ (wd = .if_ ∨ wd = .either ∨ wd = .both ∨ wd = .again) ∧ spM K (fun r => GoodR r ∧ r.st ≠ []) (beginPart wd) v H Q E
theorem ok_Reader_begin_part (Z : Tx w K mg) : Cal P w K mg base (L2.CX P w) 8 (He.fAd K ("Reader", some "begin_part")) ["self", "word"] (sp_Reader_begin_part K) := by
  obtain ⟨fd, F⟩ := Z.fd_Reader_begin_part
  have c_Book_condition_of := ok_Book_condition_of (P := P) (w := w) (base := base) Z
  have c_Reader_next_name := ok_Reader_next_name (P := P) (w := w) (base := base) Z
  have c_Reader_expect := ok_Reader_expect (P := P) (w := w) (base := base) Z
  have c_Reader_push := ok_Reader_push (P := P) (w := w) (base := base) Z
  have c_Part_init := ok_Part_init (P := P) (w := w) (base := base) Z
  refine ⟨⟨fd, F.ok sc_Reader_begin_part (fun vs H Q E h => ?_) (fun cdv A outer s H vs Q E hr h => ?_), F.bindsN fun _ _ _ _ _ _ us hl => match us, hl with | [_, _], _ => rfl⟩, F.kp⟩
  · exact sp2_len h
  have sc := sc_Reader_begin_part
  have nd : N_Reader_begin_part.Nodup := sc.nd
  replace h := sp2_get h
  obtain ⟨v_self, v_word, rfl, h⟩ := h
  refine ⟨_, by exact ((pss_cons (ps_set (i := 2) nd rfl (by first | exact Or.inl rfl | exact Or.inr rfl) pe_int)
 (C8.pss_cut (ps_if (pt_cmpR op_eq (pv 1) pe_str (nomark _)) (pss_cons (ps_set (i := 2) nd rfl (by first | exact Or.inl rfl | exact Or.inr rfl) (pe_metC (E := E) (pe_fld (pv 0) rfl) Z.cl_Book Z.m_Book_condition_of c_Book_condition_of (hr.mono (by decide)) (passes_call (takes_of rfl rfl rfl rfl) (fun _ _ _ _ z => z)) (pa_cons (pe_metC0 (E := E) (pv 0) Z.cl_Reader Z.m_Reader_next_name c_Reader_next_name (hr.mono (by decide)) (passes_call (takes_of rfl rfl rfl rfl) (fun _ _ _ _ z => z))) pa_nil)))
 (pss_one (ps_expr (pe_metC (E := E) (pv 0) Z.cl_Reader Z.m_Reader_expect c_Reader_expect (hr.mono (by decide)) (passes_call (takes_of rfl rfl rfl rfl) (fun _ _ _ _ z => z)) (pa_cons pe_str pa_nil))))) (pss_one (ps_if (pt_cmpR op_eq (pv 1) pe_str (nomark _)) (pss_one (ps_fld (pe_fld (pv 0) rfl) pe_bl rfl)) pss_nil)))
 (pss_one (ps_expr (pe_metC (E := E0) (pv 0) Z.cl_Reader Z.m_Reader_push c_Reader_push (hr.mono (by decide)) pass0 (pa_cons (pe_makC (E := E0) Z.mk_Part c_Part_init (hr.mono (by decide)) rfl Z.g_Part pass0 (pa_cons (pv 1) (pa_cons (pv 2) (pa_cons pe_int pa_nil)))) pa_nil))))))), ?_⟩
  obtain ⟨wd, rfl, hwd, a, G, ra, r, rfl, B, ⟨⟨sm, top⟩, hne⟩, hE, hQ⟩ := h
  refine ⟨fun σ' H' => ∃ (n : Nat) (G2 : Hp) (ra2 : RA) (r2 : RS), σ' = [some (.ref a), some (.str wd.s), some (.int n)] ∧ Same G G2 ∧ ra2.bk = ra.bk ∧ ReaderAt K H' G2 a ra2 r2 ∧ r2.st = r.st ∧ beginPart wd r = some (push (.mk wd n 0 []) r2), ?_, ?_⟩
  · have BB := B.book
    refine ⟨_, rfl, rfl, _, rfl, if_intro (fun c => ?_) fun c => ⟨_, rfl, rfl, _, rfl, if_intro (fun c2 => ?_) fun c2 => ?_⟩⟩
    · have ew : wd = .if_ := wd_inj (b := .if_) (V.str.inj (of_decide_eq_true c))
      subst ew
      refine ⟨_, rfl, a, _, _, _, _, rfl, B.lay.getAt 0 rfl, Z.cl_Reader, Z.n_Reader_book, lk_Reader_book _ _ _ _ _, ra.bk, _, _, rfl, BB.lay.getAt 0 rfl, lm_Book_condition_of _ _ _ _ _ _, ?_⟩
      refine ⟨_, rfl, a, _, _, rfl, B.lay.getAt 0 rfl, lm_Reader_next_name _ _ _ _ _, _, rfl, a, G, ra, r, rfl, B, trivial, fun e => hE (by unfold beginPart; rw [e]), fun x r1 e1 H1 G1 ra1 s1 k1 B1 => ?_⟩
      have lk := like_name e1
      have eb : r1.bk = r.bk := by rw [lk]
      have es : r1.st = r.st := by rw [lk]
      have BB1 := B1.book
      have eN : beginPart .if_ r = (match condOf r1.bk x with
        | none => none
        | some (i, k) => match expect (kw "then") { r1 with bk := k } with
          | none => none
          | some r2 => some (push (.mk .if_ i 0 []) r2)) := by unfold beginPart; rw [e1] <;> rfl
      rw [← k1.1]
      refine ⟨_, _, rfl, ra1.bk, ra1.A, r1.bk, G1, _, x, rfl, rfl, BB1, by rw [eb]; exact Nat.le_trans sm.conds (by decide), fun e => hE (by rw [eN, e]), fun i k' e2 H2 B2 => ?_⟩
      have B3 := B1.ofBook (Same.refl G1) B2
      refine ⟨_, rfl, a, _, _, rfl, B3.lay.getAt 0 rfl, lm_Reader_expect _ _ _ _ _, _, _, rfl, kw "then", congrArg V.str (kw_S _), pl_kw.2.2.1, a, G1, _, _, rfl, B3, trivial, fun e => hE (by rw [eN, e2]; show (match expect (kw "then") { r1 with bk := k' } with | none => none | some r2 => _) = none; rw [e]), fun r4 e4 H4 G4 ra4 s4 k4 B4 => ?_⟩
      have lk4 := like_expect e4
      refine ⟨i, G4, ra4, r4, rfl, s1.trans s4, k4, B4, by rw [lk4]; exact es, ?_⟩
      rw [eN, e2]; show (match expect (kw "then") { r1 with bk := k' } with | none => none | some r2 => _) = _
      rw [e4]
    · have ew : wd = .either := wd_inj (b := .either) (V.str.inj (of_decide_eq_true c2))
      subst ew
      refine ⟨_, rfl, a, _, _, _, _, rfl, B.lay.getAt 0 rfl, Z.cl_Reader, Z.n_Reader_book, lk_Reader_book _ _ _ _ _, ra.bk, _, _, _, rfl, BB.lay.getAt 0 rfl, Z.cl_Book, Z.n_Book_has_either, by rw [ln_Book]; decide, ?_⟩
      rw [pt_Book_has_either]
      have B2 : BookAt K (upd H ra.bk (.ins (cB K) ra.A.dxB (F_Book (.ref ra.A.dr) (.ref ra.A.pl) (.ref ra.A.ds) (.ref ra.A.tl) (.ref ra.A.dc) (.bl true)))) G ra.bk ra.A { r.bk with ei := true } (rent K a ra r.nm :: sent ra :: stms K ra.fr r.st) := ⟨BB.lay.updAt 0 rfl, BB.parts, BB.times⟩
      exact ⟨0, G, { ra with A := ra.A }, { r with bk := { r.bk with ei := true } }, rfl, Same.refl G, rfl, B.ofBook (Same.refl G) B2, rfl, rfl⟩
    · refine ⟨0, G, ra, r, rfl, Same.refl G, rfl, B, rfl, ?_⟩
      rcases hwd with rfl | rfl | rfl | rfl
      · exact absurd rfl (fun z => c (decide_eq_true z))
      · exact absurd rfl (fun z => c2 (decide_eq_true z))
      · rfl
      · rfl
  · rintro σ' H' ⟨n, G2, ra2, r2, rfl, s2, k2, B2, es, eR⟩
    refine ⟨_, rfl, a, _, _, rfl, B2.lay.getAt 0 rfl, lm_Reader_push _ _ _ _ _, ?_⟩
    refine ⟨_, rfl, _, rfl, ?_⟩
    intro p dx np nd ne
    refine ⟨_, _, _, _, rfl, p, dx, rfl, upd_same, fun l H4 hl hp hll ho => ⟨rfl, ?_⟩⟩
    obtain ⟨L4, s4⟩ := new_ins B2.lay np nd hl hp hll ho
    refine ⟨_, _, rfl, a, p, dx, l, [], .mk wd n 0 [], G2, ra2, r2, rfl, rfl, ⟨L4, by show BodsAt _ _ [] []; unfold BodsAt; rfl, B2.words, B2.wlen, B2.wne, B2.parts, B2.times, B2.frames⟩, by rw [es]; exact Nat.le_trans sm.st (by decide), Nat.zero_le _, fun H5 ra5 k5 B5 => ?_⟩
    exact hQ _ eR H5 G2 ra5 s2 (k5.trans k2) B5
def sp_Reader_begin_body (K : PySem.W.Frag) : Sp := sp2 fun v v1 H Q E => ∃ x : List Nat, v1 = wordV x ∧ spM K (fun r => GoodR r ∧ r.st ≠ []) (beginBody x) v H Q E
theorem ok_Reader_begin_body (Z : Tx w K mg) : Cal P w K mg base (L2.CX P w) 5 (He.fAd K ("Reader", some "begin_body")) ["self", "word"] (sp_Reader_begin_body K) := by
  obtain ⟨fd, F⟩ := Z.fd_Reader_begin_body
  have c_WrongRecipes_init := ok_WrongRecipes_init (P := P) (w := w) (base := base) Z
  refine ⟨⟨fd, F.ok sc_Reader_begin_body (fun vs H Q E h => ?_) (fun cdv A outer s H vs Q E hr h => ?_), F.bindsN fun _ _ _ _ _ _ us hl => match us, hl with | [_, _], _ => rfl⟩, F.kp⟩
  · exact sp2_len h
  have sc := sc_Reader_begin_body
  have nd : N_Reader_begin_body.Nodup := sc.nd
  replace h := sp2_get h
  obtain ⟨v_self, v_word, rfl, h⟩ := h
  refine ⟨_, by exact ((pss_cons (ps_set (i := 2) nd rfl (by first | exact Or.inl rfl | exact Or.inr rfl) (pe_ix ix_list (pe_fld (pv 0) rfl) (pe_un un_neg pe_int) (fun _ _ => rfl)))
 (pss_cons (ps_if (PW.pt (pw_or (pt_cmpR (op_notIn_wd Z.d_BETWEEN.1) (pe_fld (pv 2) rfl) (pe_glob rfl Z.g_BETWEEN (v := .ref _) rfl) rfl) (pw_or1 (pt_cmpR op_ne (pe_ix ix_kdict (pe_glob rfl Z.g_BETWEEN (v := .ref _) rfl) (pe_fld (pv 2) rfl) (fun _ _ => rfl)) (pv 1) (nomark _))))) (pss_one (ps_raise rfl (takes_of rfl rfl rfl rfl) (pmk_ecC0 Z.x_WrongRecipes Z.in_WrongRecipes Z.fn_WrongRecipes c_WrongRecipes_init (hr.mono (by decide)) pass0 rfl Z.g_WrongRecipes))) pss_nil)
 (pss_cons (ps_if (PW.pt (pw_and (pt_cmpR op_ne (pe_fld (pv 2) rfl) pe_str (nomark _)) (pw_and1 (pt_cmpR op_eq (pe_callB call_len_seq (by rfl) Z.b_len (by decide +kernel) (pa_cons (pe_fld (pv 2) rfl) pa_nil)) pe_int (nomark _))))) (pss_one (ps_raise rfl (takes_of rfl rfl rfl rfl) (pmk_ecC0 Z.x_WrongRecipes Z.in_WrongRecipes Z.fn_WrongRecipes c_WrongRecipes_init (hr.mono (by decide)) pass0 rfl Z.g_WrongRecipes))) pss_nil)
 (pss_one (ps_expr (pe_bm PySem.F.plainAttrs_list PySem.F.slot_list_append PySem.F.type_list_append mt_append (pe_fld (pv 2) rfl) (pa_cons (pe_lst pa_nil) pa_nil)))))))), ?_⟩
  obtain ⟨x, rfl, a, G, ra, r, rfl, B, ⟨⟨sm, top⟩, hne⟩, hE, hQ⟩ := h
  obtain ⟨u, st, hst⟩ : ∃ u st, r.st = u :: st := by
    cases e : r.st with
    | nil => exact absurd e hne
    | cons u st => exact ⟨u, st, rfl⟩
  obtain ⟨f, fs, hfr⟩ : ∃ f fs, ra.fr = f :: fs := by
    have := B.frames.len
    cases e : ra.fr with
    | nil => rw [e, hst] at this; cases this
    | cons f fs => exact ⟨f, fs, rfl⟩
  have fr := B.frames
  rw [hfr, hst] at fr
  obtain ⟨bs, b, eb, hB, hP⟩ := fr.1
  have lay : Lay H G (rent K a ra r.nm :: sent ra :: (bms K ra.bk ra.A r.bk ++ (fms K f u ++ stms K fs st))) := by
    have := B.lay
    unfold rms at this
    rw [hfr, hst] at this
    exact this
  have ha : H a = some (.ins (cR K) ra.dxR (F_Reader (.ref ra.wl) (.int ra.pre.length) (.ref ra.sl) (.str (S r.nm)) (.ref ra.bk))) := lay.getAt 0 rfl
  have hs : H ra.sl = some (.lst ((fs.map (·.a)).reverse.map V.ref ++ [.ref f.a])) := by
    have := lay.getAt 1 (k := ra.sl) (o := .lst ((ra.fr.map (·.a)).reverse.map V.ref)) rfl
    rw [hfr] at this
    rw [this]; simp
  have hf : H f.a = some (.ins (cP K) f.dx (F_Part (.str u.w.s) (.int u.n) (.ref f.l) (.int u.things))) := lay.getAt 8 rfl
  have hl : H f.l = some (.lst ((f.as ++ [f.lb]).map V.ref)) := lay.getAt 9 rfl
  simp [cxK, cxKn, Cx.nox, wipe, PySem.Str.mk.injEq, exists_eq_left', tCall, rI, rU, CMul, tSeq, tIfS, tTest, tOp, tVar, tC, rEq, rNe, tRet, tRetN, tNext, tChain, rI0, tCB, tCons, tNil, tIf, tB, tAnd, tOr, tNot, tAndV, tOrV, tNotV, tDrop, tUn, tAsg, gName, L2.start, List.length_cons, List.length_nil, List.map_cons, List.map_nil, List.cons_append, List.nil_append, List.getElem?_cons_zero, List.getElem?_cons_succ, List.set_cons_zero, List.set_cons_succ, Nat.sub_self, List.replicate_zero, List.replicate_succ, Nat.succ_sub_succ, Nat.reduceSub, Nat.reduceAdd, Nat.reduceLT, Option.some.injEq, exists_eq_left, exists_and_left, exists_eq, V.bl.injEq, V.int.injEq, V.str.injEq, V.ref.injEq, and_true, true_and, scal, exists_eq', decide_eq_true_eq, if_false_left, reduceIte, Bool.false_eq_true, ite_true, ite_false, N_Reader_begin_body, -List.lookup_eq_none_iff, sFld, tFld, sFldAug, tMeth, tMake, tBM, tBM0, rAppend, rPop, HO.ins.injEq, HO.lst.injEq, HO.dK.injEq, upd_same, upd_upd, and_assoc, and_self, tLst, tTup, tDNewK, tDNewT, true_implies, forall_eq, forall_eq', ha, Z.cl_Reader, Z.cl_Part, Z.n_Reader_stack, Z.n_Part_word, Z.n_Part_bodies, lk_Reader_stack, lk_Part_word, lk_Part_bodies]
  refine ⟨_, _, _, _, rfl, rfl, SqL.of hs, atI_last _ _, f.a, rfl, ?_⟩
  obtain ⟨rr, hns, hrr⟩ := WD.ns Z.d_BETWEEN (Str.ofString u.w.s)
  have hin : rr.isSome = (betw u.w).isSome := by
    rw [hrr]
    generalize u.w = w0
    cases w0 <;> decide +kernel
  refine ⟨_, _, _, hf, Z.cl_Part, Z.n_Part_word, _, lk_Part_word _ _ _ _, _, rfl, rr, hns, if_intro (fun c => ?_) fun c => ?_⟩
  · rw [c] at hin
    refine raise_wr Z (hE ?_)
    have hb0 : betw u.w = none := by cases e : betw u.w with
      | none => rfl
      | some k => rw [e] at hin; cases hin
    unfold beginBody; rw [hst]
    obtain ⟨w', n', h', bs'⟩ := u
    exact if_pos (by intro z; rw [show betw w' = none from hb0] at z; cases z)
  · obtain ⟨k, hk⟩ : ∃ k, betw u.w = some k := by
      cases e : betw u.w with
      | some k => exact ⟨k, rfl⟩
      | none =>
        rw [e] at hin
        cases rr with
        | none => exact absurd rfl c
        | some r => cases hin
    have hkd : KDct K w (He.ga K "BETWEEN") (Str.ofString u.w.s) (.str (S k)) := by
      have tb := Z.d_BETWEEN.2.1
      generalize u.w = w0 at hk
      cases w0 <;> first | (cases hk; done) | (cases hk; first | exact tb _ (List.mem_cons_self ..) | exact tb _ (List.mem_cons_of_mem _ (List.mem_cons_self ..)) | exact tb _ (List.mem_cons_of_mem _ (List.mem_cons_of_mem _ (List.mem_cons_self ..))))
    have plk : Pl k = true := by
      generalize u.w = w0 at hk
      cases w0 <;> first | (cases hk; done) | (cases hk; first | exact pl_kw.2.2.2.2.2.2.2.2.2.2.2.2.1 | exact pl_kw.2.2.2.2.2.2.2.2.2.2.2.2.2.1 | exact pl_kw.2.2.2.2.2.2.2.2.2.2.2.2.2.2)
    refine ⟨f.a, rfl, _, _, _, hf, Z.cl_Part, Z.n_Part_word, _, lk_Part_word _ _ _ _, _, _, _, rfl, rfl, hkd, rfl, ?_⟩
    have eqk : V.str (S k) = wordV x ↔ betw u.w = some x := by
      unfold wordV
      rw [hk, V.str.injEq, Option.some.injEq]
      constructor
      · intro z; exact ((key_eq plk).mp z.symm).symm
      · intro z; exact ((key_eq plk).mpr z.symm).symm
    have um : u ∈ r.st := by rw [hst]; exact List.mem_cons_self ..
    have elen : ((f.as ++ [f.lb]).map V.ref).length = u.bodies.length := by rw [eb]; simp [hB.len]
    have fin : betw u.w = some x → ¬ (u.w ≠ .both ∧ u.bodies.length = 2) → ∀ p, H p = none → Q .non (upd (upd H p (.lst [])) f.l (.lst ((f.as ++ [f.lb]).map V.ref ++ [.ref p]))) := fun q1 q2 p hp => by
      obtain ⟨w', n', h', bs'⟩ := u
      have L1 : Lay (upd H p (.lst [])) G _ := lay.new (o := .lst []) hp
      have L2 : Lay _ G _ := L1.updAt (o' := .lst ((f.as ++ [f.lb]).map V.ref ++ [.ref p])) 10 rfl
      obtain ⟨M, g⟩ := fixAt L2 11 (k := f.lb) (o := .lst (f.ps.map V.ref)) rfl
      have gl : (upd G f.lb (.lst (f.ps.map V.ref))) f.lb = some (.lst (f.ps.map V.ref)) := upd_same
      have er : beginBody x r = some { r with st := .mk w' n' h' (bs' ++ [[]]) :: st } := by
        unfold beginBody; rw [hst]
        show (if betw w' ≠ some x then none else if w' ≠ .both ∧ bs'.length = 2 then none else _) = _
        rw [if_neg (fun z => z q1)]; exact if_neg q2
      have eb' : bs' = bs ++ [b] := eb
      refine hQ _ er _ _ { ra with fr := { f with as := f.as ++ [f.lb], lb := p, ps := [] } :: fs } g rfl ⟨?_, g _ _ B.words, B.wlen, B.wne, B.parts.mono g _ _, B.times.mono g, ⟨⟨bs ++ [b], [], ?_, (hB.mono g _ _).snoc gl (hP.mono g _ _), by unfold PartsAt; rfl⟩, fr.2.mono g⟩⟩
      · have e1 : (f.as ++ [f.lb]).map V.ref ++ [V.ref p] = (((f.as ++ [f.lb]) ++ [p]).map V.ref) := by simp
        have e2 : sent ra = sent { ra with fr := { f with as := f.as ++ [f.lb], lb := p, ps := [] } :: fs } := by unfold sent; rw [hfr]; rfl
        rw [e1, e2] at M
        rw [e1]
        refine M.perm ?_
        refine (perm_mid [(p, HO.lst [])] [_, _] (bms K ra.bk ra.A r.bk ++ ([_, _] ++ stms K fs st))).trans ?_
        refine List.Perm.append_left [_, _] ?_
        refine (perm_mid [(p, HO.lst [])] (bms K ra.bk ra.A r.bk) ([_, _] ++ stms K fs st)).trans ?_
        refine List.Perm.append_left _ ?_
        exact perm_mid [(p, HO.lst [])] [_, _] (stms K fs st)
      · show bs' ++ [[]] = (bs ++ [b]) ++ [[]]
        rw [eb']
    have ap : ∀ p, H p = none → upd H p (.lst []) f.l = some (.lst ((f.as ++ [f.lb]).map V.ref)) := fun p hp => by rw [upd_ne (ne_of_none hl hp)]; exact hl
    have al : ((f.as ++ [f.lb]).map V.ref).length < sizeLine := by rw [elen]; exact line_lt (Nat.le_trans (sm.bods u um) (by decide))
    by_cases q1 : betw u.w = some x
    · refine .inl ⟨eqk.mpr q1, f.a, rfl, _, _, _, hf, Z.cl_Part, Z.n_Part_word, _, lk_Part_word _ _ _ _, rfl, ?_⟩
      by_cases qb : u.w = .both
      · refine .inl ⟨by rw [qb]; rfl, f.a, rfl, _, _, _, hf, Z.cl_Part, Z.n_Part_bodies, _, lk_Part_bodies _ _ _ _, .inl ⟨rfl, _, SqL.of hl⟩, fun p hp => ⟨_, rfl, _, ap p hp, al, fin q1 (fun z => z.1 qb) p hp⟩⟩
      · refine .inr ⟨fun z => qb (wd_inj (b := .both) (V.str.inj z)), f.a, rfl, _, _, _, hf, Z.cl_Part, Z.n_Part_bodies, _, lk_Part_bodies _ _ _ _, f.l, rfl, _, .inl (SqL.of hl), if_intro (fun c2 => raise_wr Z (hE ?_)) fun c2 => ?_⟩
        · unfold beginBody; rw [hst]
          obtain ⟨w', n', h', bs'⟩ := u
          show (if betw w' ≠ some x then none else if w' ≠ .both ∧ bs'.length = 2 then none else _) = none
          rw [if_neg (fun z => z q1), if_pos ⟨qb, by rw [elen] at c2; exact Int.ofNat.inj c2⟩]
        · exact ⟨f.a, rfl, _, _, _, hf, Z.cl_Part, Z.n_Part_bodies, _, lk_Part_bodies _ _ _ _, .inl ⟨rfl, _, SqL.of hl⟩, fun p hp => ⟨_, rfl, _, ap p hp, al, fin q1 (fun z => c2 (by rw [elen, z.2]; rfl)) p hp⟩⟩
    · refine .inr ⟨fun z => q1 (eqk.mp z), raise_wr Z (hE ?_)⟩
      unfold beginBody; rw [hst]
      obtain ⟨w', n', h', bs'⟩ := u
      exact if_pos q1
theorem stack_top {H G : Hp} {a : Addr} {ra : RA} {r : RS} (B : ReaderAt K H G a ra r) (hne : r.st ≠ []) : ∃ u st f fs, r.st = u :: st ∧ ra.fr = f :: fs ∧ Lay H G (rent K a ra r.nm :: sent ra :: (bms K ra.bk ra.A r.bk ++ (fms K f u ++ stms K fs st))) ∧ FrameAt K G f u ∧ FramesAt K G fs st ∧
    H ra.sl = some (.lst ((fs.map (·.a)).reverse.map V.ref ++ [.ref f.a])) := by
  obtain ⟨u, st, hst⟩ : ∃ u st, r.st = u :: st := by
    cases e : r.st with
    | nil => exact absurd e hne
    | cons u st => exact ⟨u, st, rfl⟩
  obtain ⟨f, fs, hfr⟩ : ∃ f fs, ra.fr = f :: fs := by
    have := B.frames.len
    cases e : ra.fr with
    | nil => rw [e, hst] at this; cases this
    | cons f fs => exact ⟨f, fs, rfl⟩
  have fr := B.frames
  rw [hfr, hst] at fr
  have lay : Lay H G (rent K a ra r.nm :: sent ra :: (bms K ra.bk ra.A r.bk ++ (fms K f u ++ stms K fs st))) := by
    have := B.lay
    unfold rms at this
    rw [hfr, hst] at this
    exact this
  refine ⟨u, st, f, fs, hst, hfr, lay, fr.1, fr.2, ?_⟩
  have := lay.getAt 1 (k := ra.sl) (o := .lst ((ra.fr.map (·.a)).reverse.map V.ref)) rfl
  rw [hfr] at this
  rw [this]; simp
def sp_Reader_end_again (K : PySem.W.Frag) : Sp := sp1 fun v H Q E => spM K (fun r => GoodR r ∧ r.st ≠ []) endAgain v H Q E
theorem ok_Reader_end_again (Z : Tx w K mg) : Cal P w K mg base (L2.CX P w) 8 (He.fAd K ("Reader", some "end_again")) ["self"] (sp_Reader_end_again K) := by
  obtain ⟨fd, F⟩ := Z.fd_Reader_end_again
  have c_WrongRecipes_init := ok_WrongRecipes_init (P := P) (w := w) (base := base) Z
  have c_Book_condition_of := ok_Book_condition_of (P := P) (w := w) (base := base) Z
  have c_Reader_next_name := ok_Reader_next_name (P := P) (w := w) (base := base) Z
  have c_Reader_expect := ok_Reader_expect (P := P) (w := w) (base := base) Z
  have c_Reader_put_away := ok_Reader_put_away (P := P) (w := w) (base := base) Z
  refine ⟨⟨fd, F.ok sc_Reader_end_again (fun vs H Q E h => ?_) (fun cdv A outer s H vs Q E hr h => ?_), F.bindsN fun _ _ _ _ _ _ us hl => match us, hl with | [_], _ => rfl⟩, F.kp⟩
  · exact sp1_len h
  have sc := sc_Reader_end_again
  have nd : N_Reader_end_again.Nodup := sc.nd
  replace h := sp1_get h
  obtain ⟨v_self, rfl, h⟩ := h
  refine ⟨_, by exact ((pss_cons (ps_set (i := 1) nd rfl (by first | exact Or.inl rfl | exact Or.inr rfl) (pe_ix ix_list (pe_fld (pv 0) rfl) (pe_un un_neg pe_int) (fun _ _ => rfl)))
 (pss_cons (ps_if (pt_cmpR op_ne (pe_fld (pv 1) rfl) pe_str (nomark _)) (pss_one (ps_raise rfl (takes_of rfl rfl rfl rfl) (pmk_ecC0 Z.x_WrongRecipes Z.in_WrongRecipes Z.fn_WrongRecipes c_WrongRecipes_init (hr.mono (by decide)) pass0 rfl Z.g_WrongRecipes))) pss_nil)
 (pss_cons (ps_fld (pv 1) (pe_metC (E := E) (pe_fld (pv 0) rfl) Z.cl_Book Z.m_Book_condition_of c_Book_condition_of (hr.mono (by decide)) (passes_call (takes_of rfl rfl rfl rfl) (fun _ _ _ _ z => z)) (pa_cons (pe_metC0 (E := E) (pv 0) Z.cl_Reader Z.m_Reader_next_name c_Reader_next_name (hr.mono (by decide)) (passes_call (takes_of rfl rfl rfl rfl) (fun _ _ _ _ z => z))) pa_nil)) rfl)
 (pss_cons (ps_expr (pe_metC (E := E) (pv 0) Z.cl_Reader Z.m_Reader_expect c_Reader_expect (hr.mono (by decide)) (passes_call (takes_of rfl rfl rfl rfl) (fun _ _ _ _ z => z)) (pa_cons pe_str pa_nil)))
 (pss_one (ps_expr (pe_metC0 (E := E) (pv 0) Z.cl_Reader Z.m_Reader_put_away c_Reader_put_away (hr.mono (by decide)) (passes_call (takes_of rfl rfl rfl rfl) (fun _ _ _ _ z => z)))))))))), ?_⟩
  obtain ⟨a, G, ra, r, rfl, B, ⟨⟨sm, top⟩, hne⟩, hE, hQ⟩ := h
  obtain ⟨⟨w', n', h', bs'⟩, st, f, fs, hst, hfr, lay, fr1, fr2, hs⟩ := stack_top B hne
  have ha : H a = some (.ins (cR K) ra.dxR (F_Reader (.ref ra.wl) (.int ra.pre.length) (.ref ra.sl) (.str (S r.nm)) (.ref ra.bk))) := lay.getAt 0 rfl
  have hf : H f.a = some (.ins (cP K) f.dx (F_Part (.str w'.s) (.int n') (.ref f.l) (.int h'))) := lay.getAt 8 rfl
  refine ⟨_, rfl, a, _, _, _, _, rfl, ha, Z.cl_Reader, Z.n_Reader_stack, lk_Reader_stack _ _ _ _ _, 1, rfl, _, _, (-1 : Int), _, rfl, rfl, SqL.of hs, atI_last _ _, ?_⟩
  refine ⟨_, rfl, f.a, _, _, _, _, rfl, hf, Z.cl_Part, Z.n_Part_word, lk_Part_word _ _ _ _, rfl, _, rfl, if_intro (fun c => raise_wr Z (hE ?_)) fun c => ?_⟩
  · unfold endAgain; rw [hst]
    refine if_pos fun z => ?_
    rw [z] at c
    exact absurd c (by decide)
  have ew : w' = .again := by
    by_cases z : w' = .again
    · exact z
    · exact absurd (by show (!decide (V.str (Str.ofString w'.s) = V.str (Str.ofString Wd.again.s))) = true; rw [decide_eq_false (fun y => z (wd_inj (b := .again) (V.str.inj y)))]; rfl) c
  have BB := B.book
  refine ⟨_, rfl, a, _, _, _, _, rfl, ha, Z.cl_Reader, Z.n_Reader_book, lk_Reader_book _ _ _ _ _, ra.bk, _, _, rfl, BB.lay.getAt 0 rfl, lm_Book_condition_of _ _ _ _ _ _, ?_⟩
  refine ⟨_, rfl, a, _, _, rfl, ha, lm_Reader_next_name _ _ _ _ _, _, rfl, a, G, ra, r, rfl, B, trivial, fun e => hE (by unfold endAgain; rw [hst]; show (if w' ≠ .again then none else match nextName r with | none => none | some x => _) = none; rw [if_neg (fun z => z ew), e]), fun x r1 e1 H1 G1 ra1 s1 k1 B1 => ?_⟩
  have lk := like_name e1
  have eb : r1.bk = r.bk := by rw [lk]
  have es : r1.st = .mk w' n' h' bs' :: st := by rw [lk]; exact hst
  have BB1 := B1.book
  have eN : endAgain r = (match condOf r1.bk x with
      | none => none
      | some (i, k) => match expect (kw "end") { r1 with bk := k, st := .mk w' i h' bs' :: st } with
        | none => none
        | some r2 => putAway r2) := by
    unfold endAgain; rw [hst]
    show (if w' ≠ .again then none else match nextName r with | none => none | some x => _) = _
    rw [if_neg (fun z => z ew), e1] <;> rfl
  rw [← k1.1]
  refine ⟨_, _, rfl, ra1.bk, ra1.A, r1.bk, G1, _, x, rfl, rfl, BB1, by rw [eb]; exact Nat.le_trans sm.conds (by decide), fun e => hE (by rw [eN, e]), fun i k' e2 H2 B2 => ?_⟩
  have B3 := B1.ofBook (Same.refl G1) B2
  obtain ⟨u3, st3, f3, fs3, hst3, hfr3, lay3, fr31, fr32, hs3⟩ := stack_top B3 (by show r1.st ≠ []; rw [es]; simp)
  have e31 : u3 = .mk w' n' h' bs' ∧ st3 = st := by
    have : r1.st = u3 :: st3 := hst3
    rw [es] at this; cases this; exact ⟨rfl, rfl⟩
  have e32 : f3 = f ∧ fs3 = fs := by
    have : ra1.fr = f3 :: fs3 := hfr3
    rw [k1.2, hfr] at this; cases this; exact ⟨rfl, rfl⟩
  obtain ⟨rfl, rfl⟩ := e31
  obtain ⟨rfl, rfl⟩ := e32
  have kb : k'.recs = r1.bk.recs := by
    unfold condOf at e2
    split at e2
    · cases e2; rfl
    · split at e2
      · cases e2
      · cases e2; rfl
  refine ⟨_, rfl, f3.a, _, _, _, rfl, lay3.getAt 8 rfl, Z.cl_Part, Z.n_Part_number, by rw [ln_Part]; decide, ?_⟩
  rw [pt_Part_number]
  have L4 : Lay (upd H2 f3.a (.ins (cP K) f3.dx (F_Part (.str w'.s) (.int (i : Nat)) (.ref f3.l) (.int h')))) G1 _ := lay3.updAt (o' := .ins (cP K) f3.dx (F_Part (.str w'.s) (.int (i : Nat)) (.ref f3.l) (.int h'))) 8 rfl
  have B4 : ReaderAt K (upd H2 f3.a (.ins (cP K) f3.dx (F_Part (.str w'.s) (.int (i : Nat)) (.ref f3.l) (.int h')))) G1 a { ra1 with A := ra1.A } { r1 with bk := k', st := .mk w' i h' bs' :: st3 } := by
    refine ⟨?_, B3.words, B3.wlen, B3.wne, B3.parts, B3.times, ?_⟩
    · show Lay _ G1 (rent K a ra1 r1.nm :: sent ra1 :: (bms K ra1.bk ra1.A k' ++ stms K ra1.fr (.mk w' i h' bs' :: st3)))
      rw [show ra1.fr = f3 :: fs3 from hfr3]
      exact L4
    · show FramesAt K G1 ra1.fr (.mk w' i h' bs' :: st3)
      rw [show ra1.fr = f3 :: fs3 from hfr3]
      exact ⟨fr31, fr32⟩
  refine ⟨_, rfl, a, _, _, rfl, B4.lay.getAt 0 rfl, lm_Reader_expect _ _ _ _ _, _, _, rfl, kw "end", congrArg V.str (kw_S _), pl_kw.2.2.2.1, a, G1, _, _, rfl, B4, trivial, fun e => hE (by rw [eN, e2]; show (match expect (kw "end") _ with | none => none | some r2 => _) = none; rw [e]), fun r5 e5 H5 G5 ra5 s5 k5 B5 => ?_⟩
  have lk5 := like_expect e5
  have eP : endAgain r = putAway r5 := by
    rw [eN, e2]; show (match expect (kw "end") _ with | none => none | some r2 => _) = _; rw [e5]
  have es5 : r5.st = .mk w' i h' bs' :: st3 := by rw [lk5]
  have um : T.mk w' n' h' bs' ∈ r.st := by rw [hst]; exact List.mem_cons_self ..
  have ebk : r5.bk.recs = r.bk.recs := by rw [lk5]; exact kb.trans (by rw [eb])
  have sm5 : SmallP r5 := by
    refine ⟨fun u hu => ?_, fun u hu b hb => ?_, by rw [ebk]; exact sm.recs⟩
    · rw [es5] at hu
      rcases List.mem_cons.mp hu with e | hu
      · subst e; show bs'.length ≤ 80000; exact sm.bods (.mk w' n' h' bs') um
      · exact sm.bods u (by rw [hst]; exact List.mem_cons_of_mem _ hu)
    · rw [es5] at hu
      rcases List.mem_cons.mp hu with e | hu
      · subst e; exact sm.body (.mk w' n' h' bs') um b hb
      · exact sm.body u (by rw [hst]; exact List.mem_cons_of_mem _ hu) b hb
  have top5 : TopOk r5 := by
    intro u s0 e0
    rw [es5] at e0
    cases e0
    refine ⟨fun z => ?_, fun _ => (top _ _ hst).2 (by rw [show (T.mk w' n' h' bs').w = w' from rfl, ew]; decide)⟩
    rw [show (T.mk w' i h' bs').w = w' from rfl, ew] at z; cases z
  refine ⟨_, rfl, a, _, _, rfl, B5.lay.getAt 0 rfl, lm_Reader_put_away _ _ _ _ _, _, rfl, a, G5, ra5, r5, rfl, B5, ⟨⟨sm5, top5⟩, by rw [es5]; simp⟩, fun e => hE (by rw [eP, e]), fun r6 e6 H6 G6 ra6 s6 k6 B6 => ?_⟩
  exact hQ r6 (eP.trans e6) H6 G6 ra6 ((s1.trans s5).trans s6) ((k6.trans k5).trans k1.1) B6
def sp_Reader_end_part (K : PySem.W.Frag) : Sp := sp1 fun v H Q E => spM K (fun r => GoodR r ∧ r.st ≠ []) endPart v H Q E
theorem ok_Reader_end_part (Z : Tx w K mg) : Cal P w K mg base (L2.CX P w) 8 (He.fAd K ("Reader", some "end_part")) ["self"] (sp_Reader_end_part K) := by
  obtain ⟨fd, F⟩ := Z.fd_Reader_end_part
  have c_WrongRecipes_init := ok_WrongRecipes_init (P := P) (w := w) (base := base) Z
  have c_Reader_put_away := ok_Reader_put_away (P := P) (w := w) (base := base) Z
  refine ⟨⟨fd, F.ok sc_Reader_end_part (fun vs H Q E h => ?_) (fun cdv A outer s H vs Q E hr h => ?_), F.bindsN fun _ _ _ _ _ _ us hl => match us, hl with | [_], _ => rfl⟩, F.kp⟩
  · exact sp1_len h
  have sc := sc_Reader_end_part
  have nd : N_Reader_end_part.Nodup := sc.nd
  replace h := sp1_get h
  obtain ⟨v_self, rfl, h⟩ := h
  refine ⟨_, by exact ((pss_cons (ps_set (i := 1) nd rfl (by first | exact Or.inl rfl | exact Or.inr rfl) (pe_ix ix_list (pe_fld (pv 0) rfl) (pe_un un_neg pe_int) (fun _ _ => rfl)))
 (pss_cons (ps_if (PW.pt (pw_or (pt_cmpR op_eq (pe_fld (pv 1) rfl) pe_str (nomark _)) (pw_or1 (PW.pt (pw_and (pt_cmpR (op_in_wd Z.d_BETWEEN.1) (pe_fld (pv 1) rfl) (pe_glob rfl Z.g_BETWEEN (v := .ref _) rfl) rfl) (pw_and1 (pt_cmpR op_lt (pe_callB call_len_seq (by rfl) Z.b_len (by decide +kernel) (pa_cons (pe_fld (pv 1) rfl) pa_nil)) pe_int (nomark _)))))))) (pss_one (ps_raise rfl (takes_of rfl rfl rfl rfl) (pmk_ecC0 Z.x_WrongRecipes Z.in_WrongRecipes Z.fn_WrongRecipes c_WrongRecipes_init (hr.mono (by decide)) pass0 rfl Z.g_WrongRecipes))) pss_nil)
 (pss_one (ps_expr (pe_metC0 (E := E) (pv 0) Z.cl_Reader Z.m_Reader_put_away c_Reader_put_away (hr.mono (by decide)) (passes_call (takes_of rfl rfl rfl rfl) (fun _ _ _ _ z => z)))))))), ?_⟩
  obtain ⟨a, G, ra, r, rfl, B, ⟨⟨sm, top⟩, hne⟩, hE, hQ⟩ := h
  obtain ⟨⟨w', n', h', bs'⟩, st, f, fs, hst, hfr, lay, fr1, fr2, hs⟩ := stack_top B hne
  have ha : H a = some (.ins (cR K) ra.dxR (F_Reader (.ref ra.wl) (.int ra.pre.length) (.ref ra.sl) (.str (S r.nm)) (.ref ra.bk))) := lay.getAt 0 rfl
  have hf : H f.a = some (.ins (cP K) f.dx (F_Part (.str w'.s) (.int n') (.ref f.l) (.int h'))) := lay.getAt 8 rfl
  have hl : H f.l = some (.lst ((f.as ++ [f.lb]).map V.ref)) := lay.getAt 9 rfl
  refine ⟨_, rfl, a, _, _, _, _, rfl, ha, Z.cl_Reader, Z.n_Reader_stack, lk_Reader_stack _ _ _ _ _, 1, rfl, _, _, (-1 : Int), _, rfl, rfl, SqL.of hs, atI_last _ _, ?_⟩
  simp [cxK, cxKn, Cx.nox, wipe, PySem.Str.mk.injEq, exists_eq_left', tCall, rI, rU, CMul, tSeq, tIfS, tTest, tOp, tVar, tC, rEq, rNe, tRet, tRetN, tNext, tChain, rI0, tCB, tCons, tNil, tIf, tB, tAnd, tOr, tNot, tAndV, tOrV, tNotV, tDrop, tUn, tAsg, gName, L2.start, List.length_cons, List.length_nil, List.map_cons, List.map_nil, List.cons_append, List.nil_append, List.getElem?_cons_zero, List.getElem?_cons_succ, List.set_cons_zero, List.set_cons_succ, Nat.sub_self, List.replicate_zero, List.replicate_succ, Nat.succ_sub_succ, Nat.reduceSub, Nat.reduceAdd, Nat.reduceLT, Option.some.injEq, exists_eq_left, exists_and_left, exists_eq, V.bl.injEq, V.int.injEq, V.str.injEq, V.ref.injEq, and_true, true_and, scal, exists_eq', decide_eq_true_eq, if_false_left, reduceIte, Bool.false_eq_true, ite_true, ite_false, N_Reader_end_part, -List.lookup_eq_none_iff, sFld, tFld, sFldAug, tMeth, tMake, tBM, tBM0, rAppend, rPop, HO.ins.injEq, HO.lst.injEq, HO.dK.injEq, upd_same, upd_upd, and_assoc, and_self, tLst, tTup, tDNewK, tDNewT, true_implies, forall_eq, forall_eq', hf, Z.cl_Part, Z.n_Part_word, Z.n_Part_bodies, lk_Part_word, lk_Part_bodies]
  obtain ⟨bs, b, eb, hB, hP⟩ := fr1
  have elen : ((f.as ++ [f.lb]).map V.ref).length = bs'.length := by rw [show bs' = bs ++ [b] from eb]; simp [hB.len]
  obtain ⟨rr, hns, hrr⟩ := WD.ns Z.d_BETWEEN (Str.ofString w'.s)
  have hin : rr.isSome = (betw w').isSome := by
    rw [hrr]
    cases w' <;> decide +kernel
  have eP : ¬ (w' = .again ∨ ((betw w').isSome = true ∧ bs'.length < 2)) → endPart r = putAway r := fun z => by
    unfold endPart; rw [hst]; exact if_neg z
  have fin : ¬ (w' = .again ∨ ((betw w').isSome = true ∧ bs'.length < 2)) → sp_Reader_put_away K [V.ref a] H (fun x H1 => Q V.non H1) E := fun z =>
    ⟨_, rfl, a, G, ra, r, rfl, B, ⟨⟨sm.toSmallP, top⟩, hne⟩, fun e => hE ((eP z).trans e), fun r6 e6 H6 G6 ra6 s6 k6 B6 => hQ r6 ((eP z).trans e6) H6 G6 ra6 s6 k6 B6⟩
  have bad : (w' = .again ∨ ((betw w').isSome = true ∧ bs'.length < 2)) → endPart r = none := fun z => by
    unfold endPart; rw [hst]; exact if_pos z
  refine if_intro (fun c => raise_wr Z (hE (bad (.inl (wd_inj (b := .again) c))))) fun c => ⟨rr, hns, if_intro (fun c2 => ⟨_, .inl (SqL.of hl), if_intro (fun c3 => raise_wr Z (hE (bad (.inr ⟨by rw [← hin]; exact c2, by rw [elen] at c3; omega⟩)))) fun c3 => ⟨_, _, ha, lm_Reader_put_away _ _ _ _ _, fin ?_⟩⟩) fun c2 => ⟨_, _, ha, lm_Reader_put_away _ _ _ _ _, fin ?_⟩⟩
  · rintro (z | z)
    · exact c (by rw [z]; rfl)
    · rw [elen] at c3; omega
  · rintro (z | z)
    · exact c (by rw [z]; rfl)
    · rw [← hin] at z; exact c2 z.1
def sp_Reader_go_on (K : PySem.W.Frag) : Sp := sp2 fun v v1 H Q E => ∃ x : List Nat, v1 = wordV x ∧ spM K (fun r => GoodR r ∧ r.st ≠ []) (goOn x) v H Q E
theorem word_kw {x : List Nat} {k : String} (hk : Pl (kw k) = true) : (wordV x = V.str (Str.ofString k)) ↔ x = kw k := by
  unfold wordV
  rw [kw_S, V.str.injEq]
  exact key_eq hk
theorem ok_Reader_go_on (Z : Tx w K mg) : Cal P w K mg base (L2.CX P w) 10 (He.fAd K ("Reader", some "go_on")) ["self", "word"] (sp_Reader_go_on K) := by
  obtain ⟨fd, F⟩ := Z.fd_Reader_go_on
  have c_Reader_read_step := ok_Reader_read_step (P := P) (w := w) (base := base) Z
  have c_Reader_read_use := ok_Reader_read_use (P := P) (w := w) (base := base) Z
  have c_Reader_begin_part := ok_Reader_begin_part (P := P) (w := w) (base := base) Z
  have c_Reader_end_again := ok_Reader_end_again (P := P) (w := w) (base := base) Z
  have c_Reader_end_part := ok_Reader_end_part (P := P) (w := w) (base := base) Z
  have c_Reader_begin_body := ok_Reader_begin_body (P := P) (w := w) (base := base) Z
  refine ⟨⟨fd, F.ok sc_Reader_go_on (fun vs H Q E h => ?_) (fun cdv A outer s H vs Q E hr h => ?_), F.bindsN fun _ _ _ _ _ _ us hl => match us, hl with | [_, _], _ => rfl⟩, F.kp⟩
  · exact sp2_len h
  have sc := sc_Reader_go_on
  have nd : N_Reader_go_on.Nodup := sc.nd
  replace h := sp2_get h
  obtain ⟨v_self, v_word, rfl, h⟩ := h
  refine ⟨_, by exact ((pss_one (ps_if (pt_cmpR op_eq (pv 1) pe_str (nomark _)) (pss_one (ps_expr (pe_metC0 (E := E) (pv 0) Z.cl_Reader Z.m_Reader_read_step c_Reader_read_step (hr.mono (by decide)) (passes_call (takes_of rfl rfl rfl rfl) (fun _ _ _ _ z => z))))) (pss_one (ps_if (pt_cmpR op_eq (pv 1) pe_str (nomark _)) (pss_one (ps_expr (pe_metC0 (E := E) (pv 0) Z.cl_Reader Z.m_Reader_read_use c_Reader_read_use (hr.mono (by decide)) (passes_call (takes_of rfl rfl rfl rfl) (fun _ _ _ _ z => z))))) (pss_one (ps_if (PW.pt (pw_or (pt_cmpR op_eq (pv 1) pe_str (nomark _)) (pw_or1 (pt_cmpR (op_in_wd Z.d_BETWEEN.1) (pv 1) (pe_glob rfl Z.g_BETWEEN (v := .ref _) rfl) rfl)))) (pss_one (ps_expr (pe_metC (E := E) (pv 0) Z.cl_Reader Z.m_Reader_begin_part c_Reader_begin_part (hr.mono (by decide)) (passes_call (takes_of rfl rfl rfl rfl) (fun _ _ _ _ z => z)) (pa_cons (pv 1) pa_nil)))) (pss_one (ps_if (pt_cmpR op_eq (pv 1) pe_str (nomark _)) (pss_one (ps_expr (pe_metC0 (E := E) (pv 0) Z.cl_Reader Z.m_Reader_end_again c_Reader_end_again (hr.mono (by decide)) (passes_call (takes_of rfl rfl rfl rfl) (fun _ _ _ _ z => z))))) (pss_one (ps_if (pt_cmpR op_eq (pv 1) pe_str (nomark _)) (pss_one (ps_expr (pe_metC0 (E := E) (pv 0) Z.cl_Reader Z.m_Reader_end_part c_Reader_end_part (hr.mono (by decide)) (passes_call (takes_of rfl rfl rfl rfl) (fun _ _ _ _ z => z))))) (pss_one (ps_expr (pe_metC (E := E) (pv 0) Z.cl_Reader Z.m_Reader_begin_body c_Reader_begin_body (hr.mono (by decide)) (passes_call (takes_of rfl rfl rfl rfl) (fun _ _ _ _ z => z)) (pa_cons (pv 1) pa_nil))))))))))))))), ?_⟩
  obtain ⟨x, rfl, a, G, ra, r, rfl, B, ⟨⟨sm, top⟩, hne⟩, hE, hQ⟩ := h
  have ha := B.lay.getAt 0 rfl
  have pk := pl_kw
  have good : GoodR r ∧ r.st ≠ [] := ⟨⟨sm, top⟩, hne⟩
  have dec : ∀ {k : String}, Pl (kw k) = true → decide (wordV x = V.str (Str.ofString k)) = decide (x = kw k) := fun hk => decide_eq_decide.mpr (word_kw hk)
  refine ⟨_, rfl, rfl, _, rfl, if_intro (fun c => ?_) fun c => ⟨_, rfl, rfl, _, rfl, if_intro (fun c2 => ?_) fun c2 => ?_⟩⟩
  · have e : x = kw "do" := (word_kw pk.2.2.2.2.2.1).mp (of_decide_eq_true c)
    have eG : goOn x r = readStep r := by unfold goOn; exact if_pos e
    exact ⟨_, rfl, a, _, _, rfl, ha, lm_Reader_read_step _ _ _ _ _, _, rfl, a, G, ra, r, rfl, B, good, fun e => hE (eG.trans e), fun r6 e6 => hQ r6 (eG.trans e6)⟩
  · have e : x = kw "use" := (word_kw pk.2.2.2.2.2.2.1).mp (of_decide_eq_true c2)
    have eG : goOn x r = readUse r := by
      unfold goOn; rw [if_neg (by rw [e]; decide +kernel)]; exact if_pos e
    exact ⟨_, rfl, a, _, _, rfl, ha, lm_Reader_read_use _ _ _ _ _, _, rfl, a, G, ra, r, rfl, B, good, fun e => hE (eG.trans e), fun r6 e6 => hQ r6 (eG.trans e6)⟩
  · have n1 : ¬ x = kw "do" := fun z => c (decide_eq_true ((word_kw pk.2.2.2.2.2.1).mpr z))
    have n2 : ¬ x = kw "use" := fun z => c2 (decide_eq_true ((word_kw pk.2.2.2.2.2.2.1).mpr z))
    have begins : ∀ (wd : Wd), (wd = .if_ ∨ wd = .either ∨ wd = .both ∨ wd = .again) → x = kw wd.s → Pl (kw wd.s) = true → goOn x r = beginPart wd r → tDrop (tMeth (He.ga K "Reader") "begin_part" (sp_Reader_begin_part K) [] E (tVar 0) (tCons (tVar 1) tNil)) { nx := fun _ H' => Q .non H', rt := Q } (L2.start N_Reader_go_on [V.ref a, wordV x]) H := fun wd hwd ex hp eG =>
      ⟨_, rfl, a, _, _, rfl, ha, lm_Reader_begin_part _ _ _ _ _, _, rfl, _, _, rfl, wd, (word_kw hp).mpr ex, hwd, a, G, ra, r, rfl, B, good, fun e => hE (eG.trans e), fun r6 e6 => hQ r6 (eG.trans e6)⟩
    obtain ⟨rr, hns, hrr⟩ := WD.ns Z.d_BETWEEN (S (x.map sg))
    refine ⟨_, rfl, rfl, _, rfl, if_intro (fun c3 => iteT ?_) fun c3 => ⟨_, rfl, _, rr, rfl, rfl, hns, _, rfl, if_intro (fun c4 => ?_) fun c4 => ?_⟩⟩
    · have e : x = kw "again" := (word_kw pk.2.2.2.2.2.2.2.1).mp (of_decide_eq_true c3)
      exact begins .again (.inr (.inr (.inr rfl))) e pk.2.2.2.2.2.2.2.1 (by unfold goOn; rw [if_neg n1, if_neg n2]; exact if_pos e)
    · have n3 : ¬ x = kw "again" := fun z => c3 (decide_eq_true ((word_kw pk.2.2.2.2.2.2.2.1).mpr z))
      have hm : S (x.map sg) = Str.ofString "if" ∨ S (x.map sg) = Str.ofString "either" ∨ S (x.map sg) = Str.ofString "both" := by
        rw [hrr] at c4
        simpa using c4
      have kk : ∀ {k : String}, Pl (kw k) = true → S (x.map sg) = Str.ofString k → x = kw k := fun hp z => (word_kw hp).mp (congrArg V.str z)
      rcases hm with z | z | z
      · have e := kk pk.2.2.2.2.2.2.2.2.1 z
        exact begins .if_ (.inl rfl) e pk.2.2.2.2.2.2.2.2.1 (by unfold goOn; rw [if_neg n1, if_neg n2, if_neg n3]; exact if_pos e)
      · have e := kk pk.2.2.2.2.2.2.2.2.2.1 z
        exact begins .either (.inr (.inl rfl)) e pk.2.2.2.2.2.2.2.2.2.1 (by unfold goOn; rw [if_neg n1, if_neg n2, if_neg n3, if_neg (by rw [e]; decide +kernel)]; exact if_pos e)
      · have e := kk pk.2.2.2.2.2.2.2.2.2.2.1 z
        exact begins .both (.inr (.inr (.inl rfl))) e pk.2.2.2.2.2.2.2.2.2.2.1 (by unfold goOn; rw [if_neg n1, if_neg n2, if_neg n3, if_neg (by rw [e]; decide +kernel), if_neg (by rw [e]; decide +kernel)]; exact if_pos e)
    · have n3 : ¬ x = kw "again" := fun z => c3 (decide_eq_true ((word_kw pk.2.2.2.2.2.2.2.1).mpr z))
      have nn : ¬ (S (x.map sg) = Str.ofString "if" ∨ S (x.map sg) = Str.ofString "either" ∨ S (x.map sg) = Str.ofString "both") := fun z => c4 (by rw [hrr]; simpa using z)
      have kk : ∀ {k : String}, Pl (kw k) = true → x = kw k → S (x.map sg) = Str.ofString k := fun hp z => V.str.inj ((word_kw hp).mpr z)
      have n4 : ¬ x = kw "if" := fun z => nn (.inl (kk pk.2.2.2.2.2.2.2.2.1 z))
      have n5 : ¬ x = kw "either" := fun z => nn (.inr (.inl (kk pk.2.2.2.2.2.2.2.2.2.1 z)))
      have n6 : ¬ x = kw "both" := fun z => nn (.inr (.inr (kk pk.2.2.2.2.2.2.2.2.2.2.1 z)))
      refine ⟨_, rfl, rfl, _, rfl, if_intro (fun c5 => ?_) fun c5 => ⟨_, rfl, rfl, _, rfl, if_intro (fun c6 => ?_) fun c6 => ?_⟩⟩
      · have e : x = kw "until" := (word_kw pk.2.2.2.2.2.2.2.2.2.2.2.1).mp (of_decide_eq_true c5)
        have eG : goOn x r = endAgain r := by unfold goOn; rw [if_neg n1, if_neg n2, if_neg n3, if_neg n4, if_neg n5, if_neg n6]; exact if_pos e
        exact ⟨_, rfl, a, _, _, rfl, ha, lm_Reader_end_again _ _ _ _ _, _, rfl, a, G, ra, r, rfl, B, good, fun e => hE (eG.trans e), fun r6 e6 => hQ r6 (eG.trans e6)⟩
      · have n7 : ¬ x = kw "until" := fun z => c5 (decide_eq_true ((word_kw pk.2.2.2.2.2.2.2.2.2.2.2.1).mpr z))
        have e : x = kw "end" := (word_kw pk.2.2.2.1).mp (of_decide_eq_true c6)
        have eG : goOn x r = endPart r := by unfold goOn; rw [if_neg n1, if_neg n2, if_neg n3, if_neg n4, if_neg n5, if_neg n6, if_neg n7]; exact if_pos e
        exact ⟨_, rfl, a, _, _, rfl, ha, lm_Reader_end_part _ _ _ _ _, _, rfl, a, G, ra, r, rfl, B, good, fun e => hE (eG.trans e), fun r6 e6 => hQ r6 (eG.trans e6)⟩
      · have n7 : ¬ x = kw "until" := fun z => c5 (decide_eq_true ((word_kw pk.2.2.2.2.2.2.2.2.2.2.2.1).mpr z))
        have n8 : ¬ x = kw "end" := fun z => c6 (decide_eq_true ((word_kw pk.2.2.2.1).mpr z))
        have eG : goOn x r = beginBody x r := by unfold goOn; rw [if_neg n1, if_neg n2, if_neg n3, if_neg n4, if_neg n5, if_neg n6, if_neg n7]; exact if_neg n8
        exact ⟨_, rfl, a, _, _, rfl, ha, lm_Reader_begin_body _ _ _ _ _, _, rfl, _, _, rfl, x, rfl, a, G, ra, r, rfl, B, good, fun e => hE (eG.trans e), fun r6 e6 => hQ r6 (eG.trans e6)⟩
def sp_Reader_begin_recipe (K : PySem.W.Frag) : Sp := sp1 fun v H Q E => spM K (fun r => Small r ∧ r.st = []) beginRecipe v H Q E
theorem ok_Reader_begin_recipe (Z : Tx w K mg) : Cal P w K mg base (L2.CX P w) 8 (He.fAd K ("Reader", some "begin_recipe")) ["self"] (sp_Reader_begin_recipe K) := by
  obtain ⟨fd, F⟩ := Z.fd_Reader_begin_recipe
  have c_Reader_expect := ok_Reader_expect (P := P) (w := w) (base := base) Z
  have c_Reader_next_name := ok_Reader_next_name (P := P) (w := w) (base := base) Z
  have c_WrongRecipes_init := ok_WrongRecipes_init (P := P) (w := w) (base := base) Z
  have c_Reader_push := ok_Reader_push (P := P) (w := w) (base := base) Z
  have c_Part_init := ok_Part_init (P := P) (w := w) (base := base) Z
  refine ⟨⟨fd, F.ok sc_Reader_begin_recipe (fun vs H Q E h => ?_) (fun cdv A outer s H vs Q E hr h => ?_), F.bindsN fun _ _ _ _ _ _ us hl => match us, hl with | [_], _ => rfl⟩, F.kp⟩
  · exact sp1_len h
  have sc := sc_Reader_begin_recipe
  have nd : N_Reader_begin_recipe.Nodup := sc.nd
  replace h := sp1_get h
  obtain ⟨v_self, rfl, h⟩ := h
  refine ⟨_, by exact ((pss_cons (ps_expr (pe_metC (E := E) (pv 0) Z.cl_Reader Z.m_Reader_expect c_Reader_expect (hr.mono (by decide)) (passes_call (takes_of rfl rfl rfl rfl) (fun _ _ _ _ z => z)) (pa_cons pe_str pa_nil)))
 (pss_cons (ps_fld (pv 0) (pe_metC0 (E := E) (pv 0) Z.cl_Reader Z.m_Reader_next_name c_Reader_next_name (hr.mono (by decide)) (passes_call (takes_of rfl rfl rfl rfl) (fun _ _ _ _ z => z))) rfl)
 (pss_cons (ps_if (pt_cmp (pc_din (hu_of hr) (pe_fld (pv 0) rfl) (pe_fld (pe_fld (pv 0) rfl) rfl))) (pss_one (ps_raise rfl (takes_of rfl rfl rfl rfl) (pmk_ecC0 Z.x_WrongRecipes Z.in_WrongRecipes Z.fn_WrongRecipes c_WrongRecipes_init (hr.mono (by decide)) pass0 rfl Z.g_WrongRecipes))) pss_nil)
 (pss_one (ps_expr (pe_metC (E := E0) (pv 0) Z.cl_Reader Z.m_Reader_push c_Reader_push (hr.mono (by decide)) pass0 (pa_cons (pe_makC (E := E0) Z.mk_Part c_Part_init (hr.mono (by decide)) rfl Z.g_Part pass0 (pa_cons pe_str (pa_cons (pe_callB call_lenD (by rfl) Z.b_len (by decide +kernel) (pa_cons (pe_fld (pe_fld (pv 0) rfl) rfl) pa_nil)) (pa_cons pe_int pa_nil)))) pa_nil)))))))), ?_⟩
  obtain ⟨a, G, ra, r, rfl, B, ⟨sm, hst⟩, hE, hQ⟩ := h
  refine ⟨_, rfl, a, _, _, rfl, B.lay.getAt 0 rfl, lm_Reader_expect _ _ _ _ _, _, _, rfl, kw "recipe", congrArg V.str (kw_S _), pl_kw.2.2.2.2.1, a, G, ra, r, rfl, B, trivial, fun e => hE (by unfold beginRecipe; rw [e]), fun r1 e1 H1 G1 ra1 s1 k1 B1 => ?_⟩
  refine ⟨_, rfl, a, _, _, rfl, B1.lay.getAt 0 rfl, lm_Reader_next_name _ _ _ _ _, _, rfl, a, G1, ra1, r1, rfl, B1, trivial, fun e => hE (by unfold beginRecipe; rw [e1]; show (match nextName r1 with | none => none | some x => _) = none; rw [e]), fun x r2 e2 H2 G2 ra2 s2 k2 B2 => ?_⟩
  have eR : beginRecipe r = (if (r2.bk.names.contains x) = true then none else some (push (.mk .recipe r2.bk.recs.length 0 []) { r2 with nm := x })) := by
    unfold beginRecipe; rw [e1]; show (match nextName r1 with | none => none | some x => _) = _; rw [e2]
  have lk := (like_expect e1).trans (like_name e2)
  have ha2 := B2.lay.getAt 0 rfl
  refine ⟨_, rfl, a, _, _, _, rfl, ha2, Z.cl_Reader, Z.n_Reader_recipe_name, by rw [ln_Reader]; decide, ?_⟩
  rw [pt_Reader_recipe_name]
  have B3 : ReaderAt K (upd H2 a (.ins (cR K) ra2.dxR (F_Reader (.ref ra2.wl) (.int ra2.pre.length) (.ref ra2.sl) (.str (S x)) (.ref ra2.bk)))) G2 a ra2 { r2 with nm := x } := ⟨B2.lay.updAt 0 rfl, B2.words, B2.wlen, B2.wne, B2.parts, B2.times, B2.frames⟩
  have BB := B3.book
  have hr := BB.lay.getAt 1 rfl
  have g := DGet.k (k := .inr (S x)) hr
  rw [valV_dix] at g
  have ha3 := B3.lay.getAt 0 rfl
  refine ⟨_, rfl, a, _, _, _, _, rfl, ha3, Z.cl_Reader, Z.n_Reader_recipe_name, lk_Reader_recipe_name _ _ _ _ _, _, rfl, a, _, _, _, _, rfl, ha3, Z.cl_Reader, Z.n_Reader_book, lk_Reader_book _ _ _ _ _, ra2.bk, _, _, _, _, rfl, BB.lay.getAt 0 rfl, Z.cl_Book, Z.n_Book_recipes, lk_Book_recipes _ _ _ _ _ _, _, _, rfl, g, _, rfl, if_intro (fun c => raise_wr Z (hE ?_)) fun c => ?_⟩
  · rw [eR]
    refine if_pos ?_
    cases e : idx r2.bk.names x with
    | none => rw [e] at c; cases c
    | some i =>
      cases e2 : r2.bk.names.contains x with
      | true => rfl
      | false => rw [idx_none.mpr e2] at e; cases e
  have hc : r2.bk.names.contains x = false := by
    refine idx_none.mp ?_
    cases e : idx r2.bk.names x with
    | none => rfl
    | some i => exact absurd (by rw [e]; rfl) c
  have eR2 : beginRecipe r = some (push (.mk .recipe r2.bk.recs.length 0 []) { r2 with nm := x }) := by rw [eR, hc]; rfl
  have es : r2.st = [] := by rw [lk]; exact hst
  refine ⟨_, rfl, a, _, _, rfl, ha3, lm_Reader_push _ _ _ _ _, ?_⟩
  refine ⟨_, rfl, a, _, _, _, _, rfl, ha3, Z.cl_Reader, Z.n_Reader_book, lk_Reader_book _ _ _ _ _, ra2.bk, _, _, _, _, rfl, BB.lay.getAt 0 rfl, Z.cl_Book, Z.n_Book_recipes, lk_Book_recipes _ _ _ _ _ _, _, _, rfl, hr, ?_⟩
  have el : (dix r2.bk.names).length = r2.bk.recs.length := by rw [dix_len]; unfold Bk.names; rw [List.length_map]
  intro p dx np nd ne
  refine ⟨_, _, _, _, rfl, p, dx, rfl, upd_same, fun l H4 hl hp hll ho => ⟨rfl, ?_⟩⟩
  rw [show (dix ({ r2 with nm := x } : RS).bk.names).length = r2.bk.recs.length from el] at hp
  obtain ⟨L4, s4⟩ := new_ins B3.lay np nd hl hp hll ho
  refine ⟨_, _, rfl, a, p, dx, l, [], .mk .recipe r2.bk.recs.length 0 [], G2, ra2, _, rfl, rfl, ⟨L4, by show BodsAt _ _ [] []; unfold BodsAt; rfl, B3.words, B3.wlen, B3.wne, B3.parts, B3.times, B3.frames⟩, by show r2.st.length ≤ 90000; rw [es]; decide, Nat.zero_le _, fun H5 ra5 k5 B5 => ?_⟩
  exact hQ _ eR2 H5 G2 ra5 (s1.trans s2) ((k5.trans k2.1).trans k1) B5
end
end Bw
end

section
set_option Elab.async false
set_option linter.all false
set_option maxRecDepth 100000
set_option maxHeartbeats 4000000
/-! The recipes: the whole text. -/
namespace Bw
open PySem PySem.Spec PyProof.Rows L2 TL
theorem fw_le {st : List T} {u : T} (h : u ∈ st) : fw u ≤ wt st := by
  unfold wt
  induction st with
  | nil => cases h
  | cons v s ih =>
    rw [List.map_cons, List.sum_cons]
    rcases List.mem_cons.mp h with e | h
    · subst e; omega
    · have := ih h; omega
theorem st_le (st : List T) : st.length ≤ wt st := by
  unfold wt
  induction st with
  | nil => exact Nat.le_refl _
  | cons v s ih =>
    rw [List.map_cons, List.sum_cons, List.length_cons]
    have : 1 ≤ fw v := by unfold fw; omega
    omega
theorem bod_le {bs : List (List T)} {b : List T} (h : b ∈ bs) : b.length ≤ (bs.map fun b => 1 + b.length).sum := by
  induction bs with
  | nil => cases h
  | cons v s ih =>
    rw [List.map_cons, List.sum_cons]
    rcases List.mem_cons.mp h with e | h
    · subst e; omega
    · have := ih h; omega
theorem bods_le (bs : List (List T)) : bs.length ≤ (bs.map fun b => 1 + b.length).sum := by
  induction bs with
  | nil => exact Nat.le_refl _
  | cons v s ih => rw [List.map_cons, List.sum_cons, List.length_cons]; omega
theorem J.small {M : Nat} {r : RS} (h : J M r) (hM : M ≤ 80000) : Small r := by
  have hw := h.wt
  refine ⟨⟨fun u hu => ?_, fun u hu b hb => ?_, Nat.le_trans h.recs (by decide)⟩, ?_, Nat.le_trans h.steps (by decide), Nat.le_trans h.conds (by decide)⟩
  · have h1 := fw_le hu
    have h2 := bods_le u.bodies
    unfold fw at h1; omega
  · have h1 := fw_le hu
    have h2 := bod_le hb
    unfold fw at h1; omega
  · have := st_le r.st; omega
theorem J.top {M : Nat} {r : RS} (h : J M r) : TopOk r := by
  intro u s hs
  rcases h.shape with z | ⟨i, b, z, hb, hi, hn, hx⟩
  · rw [z] at hs; cases hs
  · rw [z] at hs
    cases i with
    | nil =>
      cases hs
      exact ⟨fun _ => ⟨hn, hx⟩, fun z => absurd hb z⟩
    | cons v i =>
      cases hs
      exact ⟨fun z => absurd z (hi _ (List.mem_cons_self ..)), fun _ => by simp⟩
theorem loopR_more : ∀ (n : Nat) (r r' : RS) (M : Nat), J M r → r.t.length ≤ n → loopR n r = some r' → ∀ m, r.t.length ≤ m → loopR m r = some r'
  | 0, r, r', M, j, hn, e, m, hm => by
    have ht : r.t = [] := List.length_eq_zero_iff.mp (by omega)
    unfold loopR at e
    rw [if_pos ht] at e
    cases m <;> (unfold loopR; rw [if_pos ht]; exact e)
  | n + 1, r, r', M, j, hn, e, m, hm => by
    unfold loopR at e
    by_cases ht : r.t = []
    · rw [if_pos ht] at e
      cases m <;> (unfold loopR; rw [if_pos ht]; exact e)
    · rw [if_neg ht] at e
      cases m with
      | zero => exact absurd (List.length_eq_zero_iff.mp (by omega)) ht
      | succ m =>
        unfold loopR
        rw [if_neg ht]
        cases e1 : turnR r with
        | none => rw [e1] at e; cases e
        | some r2 =>
          rw [e1] at e
          obtain ⟨j2, t2⟩ := turnR_J j e1
          exact loopR_more n r2 r' M j2 (by omega) e m (by omega)
theorem loopR_none : ∀ (n : Nat) (r : RS) (M : Nat), J M r → r.t.length ≤ n → loopR n r = none → ∀ m, r.t.length ≤ m → loopR m r = none := fun n r M j hn e m hm => by
  cases e2 : loopR m r with
  | none => rfl
  | some r' => rw [loopR_more m r r' M j hm e2 n hn] at e; cases e
/-- the loop from a state with as many turns as there are words -/
def run (r : RS) : Option RS := loopR r.t.length r
theorem run_end {r : RS} (h : r.t = []) : run r = some r := by
  unfold run loopR
  rw [h]
  exact if_pos h
theorem run_turn {r r2 : RS} {M : Nat} (j : J M r) (h : r.t ≠ []) (e : turnR r = some r2) : run r = run r2 := by
  obtain ⟨j2, t2⟩ := turnR_J j e
  unfold run
  obtain ⟨n, hn⟩ : ∃ n, r.t.length = n + 1 := ⟨r.t.length - 1, by have := List.length_pos_iff.mpr h; omega⟩
  have : loopR (n + 1) r = loopR n r2 := by
    conv => lhs; unfold loopR
    rw [if_neg h, e]
  rw [hn, this]
  cases e2 : loopR n r2 with
  | none => exact (loopR_none n r2 M j2 (by omega) e2 _ (Nat.le_refl _)).symm
  | some r' => exact (loopR_more n r2 r' M j2 (by omega) e2 _ (Nat.le_refl _)).symm
theorem run_stop {r : RS} (h : r.t ≠ []) (e : turnR r = none) : run r = none := by
  unfold run
  obtain ⟨n, hn⟩ : ∃ n, r.t.length = n + 1 := ⟨r.t.length - 1, by have := List.length_pos_iff.mpr h; omega⟩
  rw [hn]
  unfold loopR
  rw [if_neg h, e]
section
variable {P : Program} {w : World} {K : PySem.W.Frag} {mg : Str → Option Value} {base : Heap}
def sp_Reader_read_all (K : PySem.W.Frag) : Sp := sp1 fun v H Q E => spM K (J 80000) readAll v H Q E
theorem ok_Reader_read_all (Z : Tx w K mg) : Cal P w K mg base (L2.CX P w) 11 (He.fAd K ("Reader", some "read_all")) ["self"] (sp_Reader_read_all K) := by
  obtain ⟨fd, F⟩ := Z.fd_Reader_read_all
  have c_Reader_begin_recipe := ok_Reader_begin_recipe (P := P) (w := w) (base := base) Z
  have c_Reader_go_on := ok_Reader_go_on (P := P) (w := w) (base := base) Z
  have c_Reader_next_word := ok_Reader_next_word (P := P) (w := w) (base := base) Z
  have c_WrongRecipes_init := ok_WrongRecipes_init (P := P) (w := w) (base := base) Z
  refine ⟨⟨fd, F.ok sc_Reader_read_all (fun vs H Q E h => ?_) (fun cdv A outer s H vs Q E hr h => ?_), F.bindsN fun _ _ _ _ _ _ us hl => match us, hl with | [_], _ => rfl⟩, F.kp⟩
  · exact sp1_len h
  have sc := sc_Reader_read_all
  have nd : N_Reader_read_all.Nodup := sc.nd
  replace h := sp1_get h
  obtain ⟨v_self, rfl, h⟩ := h
  refine ⟨_, by exact ((pss_cons (ps_while (passes_of rfl) (pt_cmpR op_lt (pe_fld (pv 0) rfl) (pe_callB call_len_seq (by rfl) Z.b_len (by decide +kernel) (pa_cons (pe_fld (pv 0) rfl) pa_nil)) (nomark _)) (pss_one (ps_if (pt_cmpR op_eq (pe_callB call_len_seq (by rfl) Z.b_len (by decide +kernel) (pa_cons (pe_fld (pv 0) rfl) pa_nil)) pe_int (nomark _)) (pss_one (ps_expr (pe_metC0 (E := E) (pv 0) Z.cl_Reader Z.m_Reader_begin_recipe c_Reader_begin_recipe (hr.mono (by decide)) (passes_call (takes_of rfl rfl rfl rfl) (fun _ _ _ _ z => z))))) (pss_one (ps_expr (pe_metC (E := E) (pv 0) Z.cl_Reader Z.m_Reader_go_on c_Reader_go_on (hr.mono (by decide)) (passes_call (takes_of rfl rfl rfl rfl) (fun _ _ _ _ z => z)) (pa_cons (pe_metC0 (E := E) (pv 0) Z.cl_Reader Z.m_Reader_next_word c_Reader_next_word (hr.mono (by decide)) (passes_call (takes_of rfl rfl rfl rfl) (fun _ _ _ _ z => z))) pa_nil)))))))
 (pss_one (ps_if (PW.pt (pw_or (pt_cmpR op_gt (pe_callB call_len_seq (by rfl) Z.b_len (by decide +kernel) (pa_cons (pe_fld (pv 0) rfl) pa_nil)) pe_int (nomark _)) (pw_or1 (pt_cmpR op_eq (pe_callB call_lenD (by rfl) Z.b_len (by decide +kernel) (pa_cons (pe_fld (pe_fld (pv 0) rfl) rfl) pa_nil)) pe_int (nomark _))))) (pss_one (ps_raise rfl (takes_of rfl rfl rfl rfl) (pmk_ecC0 Z.x_WrongRecipes Z.in_WrongRecipes Z.fn_WrongRecipes c_WrongRecipes_init (hr.mono (by decide)) pass0 rfl Z.g_WrongRecipes))) pss_nil)))), ?_⟩
  obtain ⟨a, G, ra, r, rfl, B, hj, hE, hQ⟩ := h
  have eA : readAll r = (match run r with
    | none => none
    | some r2 => if r2.st.length = 0 ∧ r2.bk.recs.length ≠ 0 then some r2 else none) := rfl
  refine ⟨fun n σ H' => ∃ (G2 : Hp) (ra2 : RA) (r2 : RS), n = r2.t.length ∧ σ = [some (.ref a)] ∧ Same G G2 ∧ ra2.bk = ra.bk ∧ ReaderAt K H' G2 a ra2 r2 ∧ J 80000 r2 ∧ run r2 = run r, ⟨_, G, ra, r, rfl, rfl, Same.refl G, rfl, B, hj, rfl⟩, ?_⟩
  rintro n σ H' ⟨G2, ra2, r2, rfl, rfl, s2, k2, B2, j2, er⟩
  have ha := B2.lay.getAt 0 rfl
  have hw := B2.lay.same _ _ B2.words
  have el : ((ra2.pre ++ r2.t).map wordV).length = ra2.pre.length + r2.t.length := by simp
  refine ⟨_, rfl, a, _, _, _, _, rfl, ha, Z.cl_Reader, Z.n_Reader_place, lk_Reader_place _ _ _ _ _, _, rfl, a, _, _, _, _, rfl, ha, Z.cl_Reader, Z.n_Reader_words, lk_Reader_words _ _ _ _ _, _, _, rfl, .inl (SqL.of hw), _, _, rfl, rfl, _, rfl, ?_⟩
  rw [el]
  have hs : H' ra2.sl = some (.lst ((ra2.fr.map (·.a)).reverse.map V.ref)) := B2.lay.getAt 1 rfl
  have esl : ((ra2.fr.map (·.a)).reverse.map V.ref).length = r2.st.length := by simp [B2.frames.len]
  refine if_intro (fun c => ?_) fun c => ?_
  · have ht : r2.t ≠ [] := fun z => by rw [z] at c; simp at c
    refine ⟨fun σ' H' => ∃ (G3 : Hp) (ra3 : RA) (r3 : RS), σ' = [some (.ref a)] ∧ Same G G3 ∧ ra3.bk = ra.bk ∧ ReaderAt K H' G3 a ra3 r3 ∧ J 80000 r3 ∧ run r3 = run r ∧ r3.t.length < r2.t.length, ?_, ?_⟩
    · rintro σ' H'' ⟨G3, ra3, r3, rfl, s3, k3, B3, j3, e3, l3⟩
      exact ⟨r3.t.length, l3, G3, ra3, r3, rfl, rfl, s3, k3, B3, j3, e3⟩
    have stop : turnR r2 = none → readAll r = none := fun z => by
      rw [eA, ← er, run_stop ht z]
    have next : ∀ r3, turnR r2 = some r3 → J 80000 r3 ∧ run r3 = run r ∧ r3.t.length < r2.t.length := fun r3 z => by
      obtain ⟨j3, l3⟩ := turnR_J j2 z
      exact ⟨j3, by rw [← er]; exact (run_turn j2 ht z).symm, l3⟩
    refine ⟨_, rfl, a, _, _, _, _, rfl, ha, Z.cl_Reader, Z.n_Reader_stack, lk_Reader_stack _ _ _ _ _, _, _, rfl, .inl (SqL.of hs), rfl, _, rfl, if_intro (fun c2 => ?_) fun c2 => ?_⟩
    · have hst : r2.st = [] := by
        have := V.int.inj (of_decide_eq_true c2)
        rw [esl] at this
        exact List.length_eq_zero_iff.mp (by omega)
      have eT : turnR r2 = beginRecipe r2 := by unfold turnR; rw [hst]
      refine ⟨_, rfl, a, _, _, rfl, ha, lm_Reader_begin_recipe _ _ _ _ _, _, rfl, a, G2, ra2, r2, rfl, B2, ⟨j2.small (by decide), hst⟩, fun e => hE (stop (eT.trans e)), fun r3 e3 H3 G3 ra3 s3 k3 B3 => ?_⟩
      obtain ⟨j3, q3, l3⟩ := next r3 (eT.trans e3)
      exact ⟨G3, ra3, r3, rfl, s2.trans s3, k3.trans k2, B3, j3, q3, l3⟩
    · have hst : r2.st ≠ [] := fun z => by
        refine c2 (decide_eq_true (congrArg V.int ?_))
        rw [esl, z]; rfl
      have eT : turnR r2 = (match nextWord r2 with | none => none | some x => goOn x.1 x.2) := by
        unfold turnR
        cases e : r2.st with
        | nil => exact absurd e hst
        | cons u s => rfl
      refine ⟨_, rfl, a, _, _, rfl, ha, lm_Reader_go_on _ _ _ _ _, ?_⟩
      refine ⟨_, rfl, a, _, _, rfl, ha, lm_Reader_next_word _ _ _ _ _, _, rfl, a, G2, ra2, r2, rfl, B2, trivial, fun e => hE (stop (by rw [eT, e])), fun x r3 e3 H3 G3 ra3 s3 k3 B3 => ?_⟩
      obtain ⟨j3, m3, l3⟩ := j2.word e3
      have es3 : r3.st = r2.st := by rw [(nextWord_eq e3).2]
      have eT3 : turnR r2 = goOn x r3 := by rw [eT, e3]
      refine ⟨_, _, rfl, x, rfl, a, G3, ra3, r3, rfl, B3, ⟨⟨j3.small (by omega), j3.top⟩, by rw [es3]; exact hst⟩, fun e => hE (stop (eT3.trans e)), fun r4 e4 H4 G4 ra4 s4 k4 B4 => ?_⟩
      obtain ⟨j4, q4, l4⟩ := next r4 (eT3.trans e4)
      exact ⟨G4, ra4, r4, rfl, (s2.trans s3).trans s4, (k4.trans k3.1).trans k2, B4, j4, q4, l4⟩
  · have ht : r2.t = [] := by
      cases e : r2.t with
      | nil => rfl
      | cons x t => rw [e] at c; exact absurd (decide_eq_true (by simp only [List.length_cons]; omega)) c
    have eF : readAll r = (if r2.st.length = 0 ∧ r2.bk.recs.length ≠ 0 then some r2 else none) := by rw [eA, ← er, run_end ht]
    have BB := B2.book
    have hr := BB.lay.getAt 1 rfl
    have el2 : (dix r2.bk.names).length = r2.bk.recs.length := by rw [dix_len]; unfold Bk.names; rw [List.length_map]
    refine ⟨_, rfl, a, _, _, _, _, rfl, ha, Z.cl_Reader, Z.n_Reader_stack, lk_Reader_stack _ _ _ _ _, _, _, rfl, .inl (SqL.of hs), _, _, rfl, rfl, _, rfl, if_intro (fun c2 => iteT (raise_wr Z (hE ?_))) fun c2 => ?_⟩
    · rw [eF]
      refine if_neg fun z => ?_
      rw [esl] at c2
      have := of_decide_eq_true c2
      omega
    · refine ⟨_, rfl, a, _, _, _, _, rfl, ha, Z.cl_Reader, Z.n_Reader_book, lk_Reader_book _ _ _ _ _, ra2.bk, _, _, _, _, rfl, BB.lay.getAt 0 rfl, Z.cl_Book, Z.n_Book_recipes, lk_Book_recipes _ _ _ _ _ _, _, _, rfl, hr, rfl, _, rfl, if_intro (fun c3 => raise_wr Z (hE ?_)) fun c3 => ?_⟩
      · rw [eF]
        refine if_neg fun z => z.2 ?_
        have := V.int.inj (of_decide_eq_true c3)
        rw [el2] at this
        omega
      · refine hQ r2 ?_ H' G2 ra2 s2 k2 B2
        rw [eF]
        refine if_pos ⟨?_, fun z => c3 (decide_eq_true (congrArg V.int ?_))⟩
        · rw [esl] at c2
          have := mt decide_eq_true c2
          omega
        · rw [el2, z]; rfl
/-- the reader's start -/
def RS.start (t : List (List Nat)) : RS := ⟨t, [], [], Bk.empty⟩
def sp_Reader_init (K : PySem.W.Frag) : Sp := sp2 fun v v1 H Q _ => ∃ (p dx wl : Addr) (G : Hp) (ws : List (List Nat)), v = .ref p ∧ v1 = .ref wl ∧ Lay H G [(p, .ins (cR K) dx [])] ∧ G wl = some (.lst (ws.map wordV)) ∧ ws.length ≤ 100000 ∧ (∀ x ∈ ws, x ≠ [] ∧ x.length ≤ 100000) ∧
  ∀ (H' : Hp) (ra : RA), ReaderAt K H' G p ra (RS.start ws) → Q .non H'
theorem ok_Reader_init (Z : Tx w K mg) : Cal P w K mg base CX0 3 (He.fAd K ("Reader", some "__init__")) ["self", "words"] (sp_Reader_init K) := by
  obtain ⟨fd, F⟩ := Z.fd_Reader_init
  have c_Book_init := ok_Book_init (P := P) (w := w) (base := base) Z
  refine ⟨⟨fd, F.ok sc_Reader_init (fun vs H Q E h => ?_) (fun cdv A outer s H vs Q E hr h => ?_), F.bindsN fun _ _ _ _ _ _ us hl => match us, hl with | [_, _], _ => rfl⟩, F.kp⟩
  · exact sp2_len h
  have sc := sc_Reader_init
  have nd : N_Reader_init.Nodup := sc.nd
  replace h := sp2_get h
  obtain ⟨v_self, v_words, rfl, h⟩ := h
  refine ⟨_, PSs.nox (by exact ((pss_cons (ps_fld (pv 0) (pv 1) rfl)
 (pss_cons (ps_fld (pv 0) pe_int rfl)
 (pss_cons (ps_fld (pv 0) (pe_lst pa_nil) rfl)
 (pss_cons (ps_fld (pv 0) pe_str rfl)
 (pss_one (ps_fld (pv 0) (pe_makC0 (E := E0) Z.mk_Book c_Book_init (hr.mono (by decide)) rfl Z.g_Book pass0) rfl)))))))), ?_⟩
  obtain ⟨p, dx, wl, G, ws, rfl, rfl, L0, hw, hl, hne, h⟩ := h
  have cl := Z.cl_Reader
  refine ⟨_, rfl, _, rfl, p, _, _, _, rfl, L0.getAt 0 rfl, cl, Z.n_Reader_words, small_of (m := 0) rfl, ?_⟩
  have L1 : Lay _ G _ := L0.updAt (o' := .ins (cR K) dx (putF "words" (.ref wl) [])) 0 rfl
  refine ⟨_, rfl, p, _, _, _, rfl, L1.getAt 0 rfl, cl, Z.n_Reader_place, small_of (m := 1) rfl, ?_⟩
  have L2 : Lay _ G _ := L1.updAt (o' := .ins (cR K) dx (putF "place" (.int 0) (putF "words" (.ref wl) []))) 0 rfl
  refine ⟨by decide, fun sl hsl => ?_⟩
  have L3 : Lay _ G _ := L2.new (o := .lst []) hsl
  refine ⟨_, rfl, p, _, _, _, rfl, L3.getAt 1 rfl, cl, Z.n_Reader_stack, small_of (m := 2) rfl, ?_⟩
  have L4 : Lay _ G _ := L3.updAt (o' := .ins (cR K) dx (putF "stack" (.ref sl) (putF "place" (.int 0) (putF "words" (.ref wl) [])))) 1 rfl
  refine ⟨_, rfl, p, _, _, _, rfl, L4.getAt 1 rfl, cl, Z.n_Reader_recipe_name, small_of (m := 3) rfl, ?_⟩
  have L5 : Lay _ G _ := L4.updAt (o' := .ins (cR K) dx (putF "recipe_name" (.str "") (putF "stack" (.ref sl) (putF "place" (.int 0) (putF "words" (.ref wl) []))))) 1 rfl
  intro b dxB nb nd ne
  have L6 := (L5.later (same_new (o := .own b) nd)).new (k := b) (o := .ins (cB K) dxB []) (by rw [upd_ne (Ne.symm ne)]; exact nb)
  refine ⟨_, rfl, b, dxB, G, _, rfl, L6, fun H' A eA B => ⟨rfl, ?_⟩⟩
  refine ⟨_, rfl, p, _, _, _, rfl, B.lay.getAt 7 rfl, cl, Z.n_Reader_book, small_of (m := 4) rfl, ?_⟩
  rw [mk_Reader]
  have M : Lay (upd H' p (.ins (cR K) dx (F_Reader (.ref wl) (.int 0) (.ref sl) (.str "") (.ref b)))) G _ := B.lay.updAt (o' := .ins (cR K) dx (F_Reader (.ref wl) (.int 0) (.ref sl) (.str "") (.ref b))) 7 rfl
  refine h _ ⟨dx, wl, sl, b, A, [], []⟩ ⟨M.perm ?_, hw, hl, hne, B.parts, B.times, trivial⟩
  refine ((List.perm_append_comm (l₁ := bms K b A Bk.empty) (l₂ := [(sl, HO.lst []), (p, _)]))).trans ?_
  show ([(sl, HO.lst []), (p, _)] ++ bms K b A Bk.empty).Perm ([(p, _), (sl, HO.lst [])] ++ (bms K b A Bk.empty ++ []))
  rw [List.append_nil]
  exact (List.Perm.swap _ _ []).append_right _
theorem words_S (b : List Nat) : Txt.words (S (b.map sg)) = (toks b).map fun x => S (x.map sg) := by
  have key : ∀ (l got : List Nat) (ws : List (List Nat)), (∀ c ∈ l, Unicode.isSpace c = isBL c) → wfin (l.foldl wstep (ws, got)) = ws ++ runs isBL l got := by
    intro l
    induction l with
    | nil =>
      intro got ws _
      show (if got = [] then ws else ws ++ [got]) = ws ++ runs isBL [] got
      unfold runs
      by_cases h : got = []
      · rw [if_pos h, if_pos h, List.append_nil]
      · rw [if_neg h, if_neg h]
    | cons c r ih =>
      intro got ws hc
      have h0 := hc c (List.mem_cons_self ..)
      have hr := fun d hd => hc d (List.mem_cons_of_mem _ hd)
      rw [List.foldl_cons]
      unfold wstep runs
      rw [h0]
      by_cases hb : isBL c = true
      · rw [if_pos hb, if_pos hb]
        by_cases hg : got = []
        · rw [if_pos hg, if_pos hg, hg]
          exact ih [] ws hr
        · rw [if_neg hg, if_neg hg]
          have := ih [] (ws ++ [got]) hr
          unfold wstep at this
          rw [this, List.append_assoc]; rfl
      · rw [if_neg hb, if_neg hb]
        have := ih (got ++ [c]) ws hr
        unfold wstep at this
        exact this
  have sp : ∀ c ∈ b.map sg, Unicode.isSpace c = isBL c := by
    intro c hc
    obtain ⟨d, _, rfl⟩ := List.mem_map.mp hc
    have small : sg d ≤ 122 := by
      unfold sg
      split <;> omega
    have all : ∀ k : Fin 123, (k.val = 10 ∨ k.val = 32 ∨ (97 ≤ k.val ∧ k.val ≤ 122) ∨ (48 ≤ k.val ∧ k.val ≤ 57) ∨ k.val = 63) → Unicode.isSpace k.val = isBL k.val := by decide +kernel
    have c5 : sg d = 10 ∨ sg d = 32 ∨ (97 ≤ sg d ∧ sg d ≤ 122) ∨ (48 ≤ sg d ∧ sg d ≤ 57) ∨ sg d = 63 := by
      unfold sg
      split <;> omega
    exact all ⟨sg d, by omega⟩ c5
  have e := words_tl (S (b.map sg))
  have e2 : (Txt.words (S (b.map sg))).map tl = (toks b).map (List.map sg) := by
    rw [e]
    show wfin ((b.map sg).foldl wstep ([], [])) = _
    rw [key _ [] [] sp, List.nil_append, ← toks_sg]; rfl
  have e3 : ((toks b).map fun x => S (x.map sg)).map tl = (toks b).map (List.map sg) := by
    rw [List.map_map]; rfl
  have inj : ∀ (x y : List Str), x.map tl = y.map tl → x = y := by
    intro x
    induction x with
    | nil => intro y h; cases y with
      | nil => rfl
      | cons a r => cases h
    | cons a r ih =>
      intro y h
      cases y with
      | nil => cases h
      | cons c s =>
        rw [List.map_cons, List.map_cons] at h
        obtain ⟨h1, h2⟩ := List.cons.inj h
        rw [str_ext h1, ih s h2]
  exact inj _ _ (e2.trans e3.symm)
theorem toks_len : ∀ (p : Nat → Bool) (b got : List Nat), (runs p b got).length ≤ b.length + 1 ∧ ∀ w ∈ runs p b got, w.length ≤ got.length + b.length
  | p, [], got => by
    unfold runs
    split
    · simp
    · simp
  | p, c :: r, got => by
    unfold runs
    split
    · split
      · have := toks_len p r []
        refine ⟨by simp; omega, fun w hw => by have := this.2 w hw; simp at this ⊢; omega⟩
      · have := toks_len p r []
        refine ⟨by simp; omega, fun w hw => ?_⟩
        rcases List.mem_cons.mp hw with e | hw
        · subst e; simp
        · have := this.2 w hw; simp at this ⊢; omega
    · have := toks_len p r (got ++ [c])
      refine ⟨by simp; omega, fun w hw => by have := this.2 w hw; simp at this ⊢; omega⟩
/-- the book as it is told, fixed -/
structure BookF (K : PySem.W.Frag) (G : Hp) (a : Addr) (A : BA) (k : Bk) : Prop where
  obj : ∀ p ∈ bms K a A k, G p.1 = some p.2
  parts : PartsAt (cP K) G (k.recs.map (·.2)) A.pas
  times : TimesAt G (k.steps.map (·.2)) A.tas
def readBook (b : List Nat) : Option Bk := (readAll (RS.start (toks b))).map (·.bk)
def sp_read_book (K : PySem.W.Frag) : Sp := sp1 fun v H Q E => ∃ b : List Nat, v = .str (S (b.map sg)) ∧ b.length ≤ 6000 ∧ (readBook b = none → Rz K (-1008) E) ∧ ∀ k, readBook b = some k → ∀ (H' : Hp) (a : Addr) (A : BA), Same H H' → BookF K H' a A k → Q (.ref a) H'
theorem ok_read_book (Z : Tx w K mg) : Cal P w K mg base (L2.CX P w) 12 (He.fAd K ("read_book", none)) ["text"] (sp_read_book K) := by
  obtain ⟨fd, F⟩ := Z.fd_read_book
  have c_Reader_init := ok_Reader_init (P := P) (w := w) (base := base) Z
  have c_Reader_read_all := ok_Reader_read_all (P := P) (w := w) (base := base) Z
  refine ⟨⟨fd, F.ok sc_read_book (fun vs H Q E h => ?_) (fun cdv A outer s H vs Q E hr h => ?_), F.bindsN fun _ _ _ _ _ _ us hl => match us, hl with | [_], _ => rfl⟩, F.kp⟩
  · exact sp1_len h
  have sc := sc_read_book
  have nd : N_read_book.Nodup := sc.nd
  replace h := sp1_get h
  obtain ⟨v_text, rfl, h⟩ := h
  refine ⟨_, by exact ((pss_cons (ps_set (i := 1) nd rfl (by first | exact Or.inl rfl | exact Or.inr rfl) (pe_makC (E := E0) Z.mk_Reader c_Reader_init (hr.mono (by decide)) rfl Z.g_Reader pass0 (pa_cons (pe_words (pv 0)) pa_nil)))
 (pss_cons (ps_expr (pe_metC0 (E := E) (pv 1) Z.cl_Reader Z.m_Reader_read_all c_Reader_read_all (hr.mono (by decide)) (passes_call (takes_of rfl rfl rfl rfl) (fun _ _ _ _ z => z))))
 (pss_one (ps_ret (pe_fld (pv 1) rfl)))))), ?_⟩
  obtain ⟨b, rfl, hb, hE, hQ⟩ := h
  have tk := toks_len isBL b []
  refine ⟨_, rfl, ⟨_, rfl⟩, _, rfl, rfl, ?_, fun wl hwl => ?_⟩
  · show (b.map sg).length + 2 ≤ sizeLine
    rw [List.length_map]; exact line_of (by omega)
  rw [words_S, List.map_map]
  intro p dx hp hdx ne
  have L0 : Lay (upd H wl (.lst ((toks b).map wordV))) (upd H wl (.lst ((toks b).map wordV))) [] := ⟨Same.refl _, (fun _ h => by cases h), (fun _ h => by cases h), List.nodup_nil⟩
  have L1 := (L0.later (same_new (o := .own p) hdx)).new (k := p) (o := .ins (cR K) dx []) (by rw [upd_ne (Ne.symm ne)]; exact hp)
  refine ⟨_, _, rfl, p, dx, wl, _, toks b, rfl, rfl, L1, upd_same, Nat.le_trans tk.1 (by omega), fun x hx => ⟨runs_ne _ _ _ hx, Nat.le_trans (tk.2 x hx) (by simp; omega)⟩, fun H1 ra B => ⟨rfl, ?_⟩⟩
  have jj : J 80000 (RS.start (toks b)) := ⟨.inl rfl, by show wt [] + 2 * (toks b).length ≤ 80000; have := tk.1; unfold toks; show 0 + _ ≤ _; omega, Nat.zero_le _, Nat.zero_le _, Nat.zero_le _⟩
  refine ⟨_, rfl, p, _, _, rfl, B.lay.getAt 0 rfl, lm_Reader_read_all _ _ _ _ _, _, rfl, p, _, ra, _, rfl, B, jj, fun e => hE (by unfold readBook; rw [e]; rfl), fun r' e H2 G2 ra2 s2 k2 B2 => ?_⟩
  refine ⟨_, rfl, p, _, _, _, _, rfl, B2.lay.getAt 0 rfl, Z.cl_Reader, Z.n_Reader_book, lk_Reader_book _ _ _ _ _, ?_⟩
  have BB := B2.book
  exact hQ r'.bk (by unfold readBook; rw [e]; rfl) H2 ra2.bk ra2.A (((same_new hwl).trans s2).trans B2.lay.same) ⟨fun q hq => BB.lay.at_ q (List.mem_append_left _ hq), B2.parts.mono B2.lay.same _ _, B2.times.mono B2.lay.same⟩
end
end Bw
end

section
set_option Elab.async false
set_option linter.all false
set_option maxRecDepth 100000
set_option maxHeartbeats 4000000
/-! The lines of the works' text. -/
namespace Bw
open PySem PySem.Spec PyProof.Rows L2 TL
theorem joinL_split : ∀ b : List Nat, joinL [10] (Vbwbzz.splitBy 10 b) = b
  | [] => rfl
  | c :: r => by
    have ih := joinL_split r
    unfold Vbwbzz.splitBy
    by_cases h : c = 10
    · subst h
      rw [if_pos rfl]
      cases e : Vbwbzz.splitBy 10 r with
      | nil => exact absurd e (splitBy_ne 10 r)
      | cons x l =>
        rw [e] at ih
        show [] ++ ([10] ++ joinL [10] (x :: l)) = _
        rw [ih]; rfl
    · rw [if_neg h]
      cases e : Vbwbzz.splitBy 10 r with
      | nil => exact absurd e (splitBy_ne 10 r)
      | cons x l =>
        rw [e] at ih
        cases l with
        | nil => show c :: x = _; rw [show x = r from ih]
        | cons y l => show (c :: x) ++ ([10] ++ joinL [10] (y :: l)) = _; rw [← ih]; rfl
def partsS (b : List Nat) : List Str := (Vbwbzz.splitBy 10 b).map fun x => S (x.map sg)
theorem split_S (b : List Nat) : Txt.split (S (b.map sg)) (Str.ofString "\n") = partsS b := by
  have e : Txt.join (Str.ofString "\n") (partsS b) = S (b.map sg) := by
    refine str_ext ?_
    unfold Txt.join
    rw [StrLaws.glued_eq_join, tl_join]
    have : (partsS b).map tl = Vbwbzz.splitBy 10 (b.map sg) := by
      unfold partsS
      rw [splitBy_sg, List.map_map]; rfl
    rw [this]
    exact joinL_split _
  rw [← e]
  refine split_join (s := 10) (S := []) (by decide +kernel) (by decide +kernel) ?_ ?_
  · unfold partsS
    intro z
    exact splitBy_ne 10 b (List.map_eq_nil_iff.mp z)
  · intro p hp
    obtain ⟨x, hx, rfl⟩ := List.mem_map.mp hp
    intro z
    obtain ⟨c, hc, e⟩ := List.mem_map.mp (show 10 ∈ x.map sg from z)
    have : c = 10 := sg_ten.mp e
    subst this
    exact splitBy_no 10 b x hx hc
theorem runs_BL : ∀ (b got : List Nat), 10 ∉ b → runs isBL b got = runs isB b got
  | [], got, _ => by unfold runs; rfl
  | c :: r, got, h => by
    unfold runs
    have hc : isBL c = isB c := by
      unfold isBL isB
      have : decide (c = 10) = false := decide_eq_false fun z => h (by rw [z]; exact List.mem_cons_self ..)
      rw [this, Bool.or_false]
    rw [hc, runs_BL r [] (fun z => h (List.mem_cons_of_mem _ z)), runs_BL r (got ++ [c]) (fun z => h (List.mem_cons_of_mem _ z))]
theorem toks_line {b x : List Nat} (h : x ∈ Vbwbzz.splitBy 10 b) : toks x = lwords x := runs_BL x [] (splitBy_no 10 b x h)
/-- the lines that have words, with their numbers -/
def numbered (n : Nat) : List (List Nat) → List (Nat × List (List Nat))
  | [] => []
  | l :: r => if lwords l = [] then numbered (n + 1) r else (n, lwords l) :: numbered (n + 1) r
theorem numbered_snoc : ∀ (ls : List (List Nat)) (n : Nat) (l : List Nat), numbered n (ls ++ [l]) = numbered n ls ++ (if lwords l = [] then [] else [(n + ls.length, lwords l)])
  | [], n, l => by
    show numbered n [l] = _
    unfold numbered numbered
    split <;> rfl
  | x :: r, n, l => by
    have ih := numbered_snoc r (n + 1) l
    show (if lwords x = [] then numbered (n + 1) (r ++ [l]) else (n, lwords x) :: numbered (n + 1) (r ++ [l])) = (if lwords x = [] then numbered (n + 1) r else (n, lwords x) :: numbered (n + 1) r) ++ _
    rw [ih]
    have : n + (x :: r).length = n + 1 + r.length := by simp; omega
    rw [this]
    split <;> rfl
def linesL (b : List Nat) : List (Nat × List (List Nat)) := numbered 1 (Vbwbzz.splitBy 10 b)
theorem split_len : ∀ b : List Nat, (Vbwbzz.splitBy 10 b).length ≤ b.length + 1 ∧ ∀ x ∈ Vbwbzz.splitBy 10 b, x.length ≤ b.length
  | [] => by unfold Vbwbzz.splitBy; simp
  | c :: r => by
    have ih := split_len r
    unfold Vbwbzz.splitBy
    split
    · refine ⟨by simp; omega, fun x hx => ?_⟩
      rcases List.mem_cons.mp hx with e | hx
      · subst e; simp
      · have := ih.2 x hx; simp; omega
    · split
      · refine ⟨by simp, fun x hx => ?_⟩
        rw [List.mem_singleton] at hx; subst hx; simp
      · rename_i x l e
        rw [e] at ih
        refine ⟨by have := ih.1; simp at this ⊢; omega, fun y hy => ?_⟩
        rcases List.mem_cons.mp hy with e | hy
        · subst e
          have := ih.2 x (List.mem_cons_self ..); simp; omega
        · have := ih.2 y (List.mem_cons_of_mem _ hy); simp; omega
/-- told lines, as they stand -/
structure LineAt (H0 H : Hp) (t : Addr) (l : Nat × List (List Nat)) : Prop where
  ex : ∃ wl, (H0 t = none ∧ H0 wl = none) ∧ H t = some (.tup [.int l.1, .ref wl]) ∧ H wl = some (.lst (l.2.map wordV))
def LinesAt (H0 H : Hp) (ts : List Addr) (ls : List (Nat × List (List Nat))) : Prop := ts.length = ls.length ∧ ∀ (i : Nat) (t : Addr) (l : Nat × List (List Nat)), ts[i]? = some t → ls[i]? = some l → LineAt H0 H t l
theorem LineAt.mono {H0 H H' : Hp} {t : Addr} {l : Nat × List (List Nat)} (h : LineAt H0 H t l) (s : Same H H') : LineAt H0 H' t l := by
  obtain ⟨wl, h0, h1, h2⟩ := h.ex
  exact ⟨wl, h0, s _ _ h1, s _ _ h2⟩
theorem LinesAt.mono {H0 H H' : Hp} {ts : List Addr} {ls : List (Nat × List (List Nat))} (h : LinesAt H0 H ts ls) (s : Same H H') : LinesAt H0 H' ts ls := ⟨h.1, fun i t l a b => (h.2 i t l a b).mono s⟩
theorem LinesAt.snoc {H0 H : Hp} {ts : List Addr} {ls : List (Nat × List (List Nat))} {t : Addr} {l : Nat × List (List Nat)} (h : LinesAt H0 H ts ls) (x : LineAt H0 H t l) : LinesAt H0 H (ts ++ [t]) (ls ++ [l]) := by
  refine ⟨by simp [h.1], fun i u v a b => ?_⟩
  by_cases hi : i < ts.length
  · rw [List.getElem?_append_left hi] at a
    rw [List.getElem?_append_left (by rw [← h.1]; exact hi)] at b
    exact h.2 i u v a b
  · rw [List.getElem?_append_right (by omega)] at a
    rw [List.getElem?_append_right (by rw [← h.1]; omega), ← h.1] at b
    obtain ⟨k, e⟩ : ∃ k, i - ts.length = k := ⟨_, rfl⟩
    rw [e] at a b
    cases k with
    | zero => cases a; cases b; exact x
    | succ k => simp at a
section
variable {P : Program} {w : World} {K : PySem.W.Frag} {mg : Str → Option Value} {base : Heap}
def sp_lines_of : Sp := sp1 fun v H Q _ => ∃ b : List Nat, v = .str (S (b.map sg)) ∧ b.length ≤ 6000 ∧ ∀ (H' : Hp) (a : Addr) (ts : List Addr), H a = none → Same H H' → H' a = some (.lst (ts.map V.ref)) → LinesAt H H' ts (linesL b) → Q (.ref a) H'
theorem ok_lines_of (Z : Tx w K mg) : Cal P w K mg base CX0 2 (He.fAd K ("lines_of", none)) ["text"] (sp_lines_of) := by
  obtain ⟨fd, F⟩ := Z.fd_lines_of
  refine ⟨⟨fd, F.ok sc_lines_of (fun vs H Q E h => ?_) (fun cdv A outer s H vs Q E hr h => ?_), F.bindsN fun _ _ _ _ _ _ us hl => match us, hl with | [_], _ => rfl⟩, F.kp⟩
  · exact sp1_len h
  have sc := sc_lines_of
  have nd : N_lines_of.Nodup := sc.nd
  replace h := sp1_get h
  obtain ⟨v_text, rfl, h⟩ := h
  refine ⟨_, PSs.nox (by exact ((pss_cons (ps_set (i := 1) nd rfl (by first | exact Or.inl rfl | exact Or.inr rfl) (pe_lst pa_nil))
 (pss_cons (ps_for PassesOwn.never rfl (pi_enumS 1 (K := K) rfl (by rfl) Z.b_enumerate (pa_cons (pe_split (pv 0) pe_str) pa_nil) (by decide) (by decide)) (pg_tup rfl (pgs_cons (pg_name (i := 2) nd rfl (by first | exact Or.inl rfl | exact Or.inr rfl)) (pgs_cons (pg_name (i := 3) nd rfl (by first | exact Or.inl rfl | exact Or.inr rfl)) pgs_nil))) (pss_cons (ps_set (i := 4) nd rfl (by first | exact Or.inl rfl | exact Or.inr rfl) (pe_words (pv 3)))
 (pss_one (ps_if (pt_cmpR op_gt (pe_callB call_len_seq (by rfl) Z.b_len (by decide +kernel) (pa_cons (pv 4) pa_nil)) pe_int (nomark _)) (pss_one (ps_expr (pe_bm PySem.F.plainAttrs_list PySem.F.slot_list_append PySem.F.type_list_append mt_append (pv 1) (pa_cons (pe_tup (pa_cons (pv 2) (pa_cons (pv 4) pa_nil))) pa_nil)))) pss_nil))))
 (pss_one (ps_ret (pv 1))))))), ?_⟩
  obtain ⟨b, rfl, hb, hQ⟩ := h
  have el := split_len b
  refine ⟨by decide, fun d hd => ⟨_, rfl, ⟨_, rfl⟩, _, _, rfl, rfl, rfl, ?_, fun sl hsl => ⟨sl, _, rfl, SqL.of upd_same, ?_⟩⟩⟩
  · show (b.map sg).length + 2 ≤ sizeLine
    rw [List.length_map]; exact line_of (by omega)
  rw [split_S]
  have len : ((partsS b).map V.str).length = (Vbwbzz.splitBy 10 b).length := by unfold partsS; simp
  have B0 : Lay H H [] := ⟨Same.refl _, (fun _ h => by cases h), (fun _ h => by cases h), List.nodup_nil⟩
  obtain ⟨L0, g0⟩ := ((B0.new (o := .lst []) hd).new (o := .lst ((partsS b).map V.str)) hsl).fix
  refine for_walk (walk_enumS (K := K)) (fun i σ H' => ∃ (v2 v3 v4 : Option V) (ts : List Addr) (G : Hp), σ = [some (.str (S (b.map sg))), some (.ref d), v2, v3, v4] ∧ Same H G ∧ G sl = some (.lst ((partsS b).map V.str)) ∧
    Lay H' G [(d, .lst (ts.map V.ref))] ∧ LinesAt H G ts (numbered 1 ((Vbwbzz.splitBy 10 b).take i))) ⟨none, none, none, [], _, rfl, g0, upd_same, L0, rfl, fun i t l a => by simp at a⟩ (fun i σ H' _ ⟨_, _, _, _, _, _, s5, hs, L, _⟩ => SqL.of (L.same _ _ hs)) ?_ ?_
  · rintro i x σ H1 H2 hi ⟨v2, v3, v4, ts, G, rfl, s1, hs, L1, hL⟩ ⟨T, y, rfl, nT, rfl, hy⟩
    rw [len] at hi
    have hx : (Vbwbzz.splitBy 10 b)[i]? = some (Vbwbzz.splitBy 10 b)[i] := List.getElem?_eq_getElem hi
    obtain ⟨l, el2⟩ : ∃ l, l = (Vbwbzz.splitBy 10 b)[i] := ⟨_, rfl⟩
    rw [← el2] at hx
    have hm : l ∈ Vbwbzz.splitBy 10 b := List.mem_of_getElem? hx
    have ey : y = V.str (S (l.map sg)) := by
      unfold partsS at hy
      rw [List.getElem?_map, List.getElem?_map, hx] at hy
      exact (Option.some.inj hy).symm
    subst ey
    have ll := el.2 l hm
    have tk : (Vbwbzz.splitBy 10 b).take (i + 1) = (Vbwbzz.splitBy 10 b).take i ++ [l] := by rw [List.take_add_one, hx]; rfl
    have ew : Txt.words (S (l.map sg)) = (lwords l).map fun x => S (x.map sg) := by rw [words_S, toks_line hm]
    have eN : numbered 1 ((Vbwbzz.splitBy 10 b).take (i + 1)) = numbered 1 ((Vbwbzz.splitBy 10 b).take i) ++ (if lwords l = [] then [] else [(1 + i, lwords l)]) := by
      rw [tk, numbered_snoc]
      have : ((Vbwbzz.splitBy 10 b).take i).length = i := by rw [List.length_take]; omega
      rw [this]
    have lw : (lwords l).length ≤ l.length + 1 := (toks_len isB l []).1
    refine ⟨T, _, rfl, .inl (.inl upd_same), rfl, _, _, rfl, _, _, rfl, rfl, ?_⟩
    refine ⟨_, rfl, ⟨_, rfl⟩, _, rfl, rfl, ?_, fun wl hwl => ?_⟩
    · show (l.map sg).length + 2 ≤ sizeLine
      rw [List.length_map]; exact line_of (by omega)
    rw [ew, List.map_map]
    obtain ⟨L2, g2⟩ := ((L1.later (same_new (o := .tup [.int (1 + i), .str (S (l.map sg))]) nT)).new (o := .lst ((lwords l).map wordV)) hwl).fix
    have tl : ts.length ≤ i := by
      have : ts.length = _ := hL.1
      have num : ∀ (ls : List (List Nat)) (n : Nat), (numbered n ls).length ≤ ls.length := by
        intro ls
        induction ls with
        | nil => intro n; exact Nat.le_refl _
        | cons x r ih => intro n; unfold numbered; split; · have := ih (n + 1); simp; omega
                         · have := ih (n + 1); simp; omega
      have n2 := num ((Vbwbzz.splitBy 10 b).take i) 1
      rw [List.length_take] at n2; omega
    refine ⟨_, rfl, wl, _, rfl, .inl (SqL.of upd_same), _, _, rfl, rfl, _, rfl, if_intro (fun c => ?_) fun c => ?_⟩
    · have hne : lwords l ≠ [] := fun z => by rw [z] at c; simp at c
      rw [if_neg hne] at eN
      refine ⟨_, rfl, .inl ⟨rfl, _, SqL.of (L2.getAt 0 rfl)⟩, _, rfl, _, rfl, (by show 2 ≤ sizeLine; decide), fun T2 hT2 => ?_⟩
      obtain ⟨L3, g3⟩ := (L2.new (o := .tup [.int (1 + i), .ref wl]) hT2).fix
      refine ⟨d, _, _, rfl, rfl, L3.getAt 0 rfl, by rw [List.length_map]; exact line_lt (by omega), _, _, _, ts ++ [T2], _, rfl, (s1.trans g2).trans g3, g3 _ _ (g2 _ _ hs), ?_, ?_⟩
      · have := L3.updAt (o' := .lst (ts.map V.ref ++ [.ref T2])) 0 rfl
        rw [List.map_append]
        exact this
      · rw [eN]
        exact ((hL.mono g2).mono g3).snoc ⟨wl, ⟨((s1.trans g2).trans L2.same).free hT2, (s1.trans (L1.later (same_new (o := .tup [.int (1 + i), .str (S (l.map sg))]) nT)).same).free hwl⟩, by rw [upd_same]; simp, g3 _ _ upd_same⟩
    · have hne : lwords l = [] := by
        refine Classical.byContradiction fun z => c (decide_eq_true ?_)
        have := List.length_pos_iff.mpr z
        simp; omega
      rw [if_pos hne, List.append_nil] at eN
      exact ⟨_, _, _, ts, _, rfl, s1.trans g2, g2 _ _ hs, L2, by rw [eN]; exact hL.mono g2⟩
  · rintro σ H1 ⟨v2, v3, v4, ts, G, rfl, s1, hs, L1, hL⟩
    rw [len, List.take_length] at hL
    exact ⟨_, rfl, hQ H1 d ts hd (s1.trans L1.same) (L1.getAt 0 rfl) (hL.mono L1.same)⟩
end
end Bw
end

section
set_option Elab.async false
set_option linter.all false
set_option maxRecDepth 100000
set_option maxHeartbeats 4000000
/-! The nets. -/
namespace Bw
open PySem PySem.Spec PyProof.Rows L2 TL
section
variable {P : Program} {w : World} {K : PySem.W.Frag} {mg : Str → Option Value} {base : Heap}
abbrev cM (K : PySem.W.Frag) : Addr := He.ga K "Move"
abbrev cL (K : PySem.W.Frag) : Addr := He.ga K "Layer"
def natV (n : Nat) : V := .int n
def sp_Move_init (K : PySem.W.Frag) : Sp := sp5 fun a b c d e H Q _ => ∃ (p dx : Addr), a = .ref p ∧ H p = some (.ins (cM K) dx []) ∧ Q .non (upd H p (.ins (cM K) dx (F_Move b c d e)))
theorem ok_Move_init (Z : Tx w K mg) : Cal P w K mg base CX0 1 (He.fAd K ("Move", some "__init__")) ["self", "kind", "number", "before", "behind"] (sp_Move_init K) := by
  obtain ⟨fd, F⟩ := Z.fd_Move_init
  refine ⟨⟨fd, F.ok sc_Move_init (fun vs H Q E h => ?_) (fun cdv A outer s H vs Q E hr h => ?_), F.bindsN fun _ _ _ _ _ _ us hl => match us, hl with | [_, _, _, _, _], _ => rfl⟩, F.kp⟩
  · exact sp5_len h
  have sc := sc_Move_init
  have nd : N_Move_init.Nodup := sc.nd
  replace h := sp5_get h
  obtain ⟨v_self, v_kind, v_number, v_before, v_behind, rfl, h⟩ := h
  refine ⟨_, PSs.nox (by exact ((pss_cons (ps_fld (pv 0) (pv 1) rfl)
 (pss_cons (ps_fld (pv 0) (pv 2) rfl)
 (pss_cons (ps_fld (pv 0) (pv 3) rfl)
 (pss_one (ps_fld (pv 0) (pv 4) rfl))))))), ?_⟩
  obtain ⟨p, dx, rfl, hp, h⟩ := h
  have cl := Z.cl_Move
  refine ⟨_, rfl, _, rfl, p, _, _, _, rfl, hp, cl, Z.n_Move_kind, small_of (m := 0) rfl, ?_⟩
  refine ⟨_, rfl, _, rfl, p, _, _, _, rfl, upd_same, cl, Z.n_Move_number, small_of (m := 1) rfl, ?_⟩
  refine ⟨_, rfl, _, rfl, p, _, _, _, rfl, upd_same, cl, Z.n_Move_before, small_of (m := 2) rfl, ?_⟩
  refine ⟨_, rfl, _, rfl, p, _, _, _, rfl, upd_same, cl, Z.n_Move_behind, small_of (m := 3) rfl, ?_⟩
  simp only [upd_upd, mk_Move]
  exact h
def MoveAt (K : PySem.W.Frag) (G : Hp) (a : Addr) (m : Mv) : Prop := ∃ (dx b f : Addr) (kd : String) (n : Nat), G a = some (.ins (cM K) dx (F_Move (.str kd) (.int n) (.ref b) (.ref f))) ∧ G b = some (.tup (m.pre.map natV)) ∧ G f = some (.tup (m.post.map natV)) ∧ Kd kd n m.letter
def MovesAt (K : PySem.W.Frag) (G : Hp) (as : List Addr) (ms : List Mv) : Prop := as.length = ms.length ∧ ∀ (i : Nat) (a : Addr) (m : Mv), as[i]? = some a → ms[i]? = some m → MoveAt K G a m
theorem MoveAt.mono {G G' : Hp} {a : Addr} {m : Mv} (h : MoveAt K G a m) (s : Same G G') : MoveAt K G' a m := by
  obtain ⟨dx, b, f, kd, n, h1, h2, h3, h4⟩ := h
  exact ⟨dx, b, f, kd, n, s _ _ h1, s _ _ h2, s _ _ h3, h4⟩
theorem MovesAt.mono {G G' : Hp} {as : List Addr} {ms : List Mv} (h : MovesAt K G as ms) (s : Same G G') : MovesAt K G' as ms := ⟨h.1, fun i a m x y => (h.2 i a m x y).mono s⟩
theorem pair_snoc {α β : Type} {R : α → β → Prop} {as : List α} {bs : List β} {x : α} {y : β} (h : as.length = bs.length ∧ ∀ (i : Nat) (a : α) (b : β), as[i]? = some a → bs[i]? = some b → R a b) (r : R x y) :
    (as ++ [x]).length = (bs ++ [y]).length ∧ ∀ (i : Nat) (a : α) (b : β), (as ++ [x])[i]? = some a → (bs ++ [y])[i]? = some b → R a b := by
  refine ⟨by simp [h.1], fun i u v a b => ?_⟩
  by_cases hi : i < as.length
  · rw [List.getElem?_append_left hi] at a
    rw [List.getElem?_append_left (by rw [← h.1]; exact hi)] at b
    exact h.2 i u v a b
  · rw [List.getElem?_append_right (by omega)] at a
    rw [List.getElem?_append_right (by rw [← h.1]; omega), ← h.1] at b
    obtain ⟨k, e⟩ : ∃ k, i - as.length = k := ⟨_, rfl⟩
    rw [e] at a b
    cases k with
    | zero => cases a; cases b; exact r
    | succ k => simp at a
structure LA where
  dx : Addr
  ml : Addr
  bk : Addr
  mas : List Addr
structure LayerAt (K : PySem.W.Frag) (H G : Hp) (a : Addr) (A : LA) (ms : List Mv) (p : Nat) : Prop where
  lay : Lay H G [(a, .ins (cL K) A.dx (F_Layer (.ref A.bk) (.ref A.ml) (.int p))), (A.ml, .lst (A.mas.map V.ref))]
  moves : MovesAt K G A.mas ms
def sp_Layer_new_places (K : PySem.W.Frag) : Sp := sp2 fun v0 v1 H Q _ => ∃ (a : Addr) (G : Hp) (A : LA) (ms : List Mv) (p n : Nat), v0 = .ref a ∧ v1 = .int n ∧ LayerAt K H G a A ms p ∧ ∀ H', LayerAt K H' G a A ms (p + n) → Q (.int p) H'
theorem ok_Layer_new_places (Z : Tx w K mg) : Cal P w K mg base CX0 1 (He.fAd K ("Layer", some "new_places")) ["self", "how_many"] (sp_Layer_new_places K) := by
  obtain ⟨fd, F⟩ := Z.fd_Layer_new_places
  refine ⟨⟨fd, F.ok sc_Layer_new_places (fun vs H Q E h => ?_) (fun cdv A outer s H vs Q E hr h => ?_), F.bindsN fun _ _ _ _ _ _ us hl => match us, hl with | [_, _], _ => rfl⟩, F.kp⟩
  · exact sp2_len h
  have sc := sc_Layer_new_places
  have nd : N_Layer_new_places.Nodup := sc.nd
  replace h := sp2_get h
  obtain ⟨v_self, v_how_many, rfl, h⟩ := h
  refine ⟨_, PSs.nox (by exact ((pss_cons (ps_set (i := 2) nd rfl (by first | exact Or.inl rfl | exact Or.inr rfl) (pe_fld (pv 0) rfl))
 (pss_cons (ps_fldaug (pv 0) (pv 1) in_add)
 (pss_one (ps_ret (pv 2))))))), ?_⟩
  obtain ⟨a, G, A, ms, p, n, rfl, rfl, B, h⟩ := h
  have ha := B.lay.getAt 0 rfl
  simp [cxK, cxKn, Cx.nox, wipe, PySem.Str.mk.injEq, exists_eq_left', tCall, rI, rU, CMul, tSeq, tIfS, tTest, tOp, tVar, tC, rEq, rNe, tRet, tRetN, tNext, tChain, rI0, tCB, tCons, tNil, tIf, tB, tAnd, tOr, tNot, tAndV, tOrV, tNotV, tDrop, tUn, tAsg, gName, L2.start, List.length_cons, List.length_nil, List.map_cons, List.map_nil, List.cons_append, List.nil_append, List.getElem?_cons_zero, List.getElem?_cons_succ, List.set_cons_zero, List.set_cons_succ, Nat.sub_self, List.replicate_zero, List.replicate_succ, Nat.succ_sub_succ, Nat.reduceSub, Nat.reduceAdd, Nat.reduceLT, Option.some.injEq, exists_eq_left, exists_and_left, exists_eq, V.bl.injEq, V.int.injEq, V.str.injEq, V.ref.injEq, and_true, true_and, scal, exists_eq', decide_eq_true_eq, if_false_left, reduceIte, Bool.false_eq_true, ite_true, ite_false, N_Layer_new_places, -List.lookup_eq_none_iff, sFld, tFld, sFldAug, tMeth, tMake, tBM, tBM0, rAppend, rPop, HO.ins.injEq, HO.lst.injEq, HO.dK.injEq, upd_same, upd_upd, and_assoc, and_self, tLst, tTup, tDNewK, tDNewT, true_implies, forall_eq, forall_eq', ha, Z.cl_Layer, Z.n_Layer_places, lk_Layer_places, pt_Layer_places, ln_Layer, rAdd]
  exact h _ ⟨B.lay.updAt (o' := .ins (cL K) A.dx (F_Layer (.ref A.bk) (.ref A.ml) (.int (p + n)))) 0 rfl, B.moves⟩
def sp_Layer_add_move (K : PySem.W.Frag) : Sp := sp5 fun v0 v1 v2 v3 v4 H Q _ => ∃ (a : Addr) (G : Hp) (A : LA) (ms : List Mv) (p : Nat) (kd : String) (n : Nat) (b f : Addr) (m : Mv), v0 = .ref a ∧ v1 = .str kd ∧ v2 = .int n ∧ v3 = .ref b ∧ v4 = .ref f ∧ LayerAt K H G a A ms p ∧
  G b = some (.tup (m.pre.map natV)) ∧ G f = some (.tup (m.post.map natV)) ∧ Kd kd n m.letter ∧ ms.length < 100000 ∧ ∀ H' G' A', Same G G' → A'.bk = A.bk → LayerAt K H' G' a A' (ms ++ [m]) p → Q .non H'
theorem ok_Layer_add_move (Z : Tx w K mg) : Cal P w K mg base CX0 3 (He.fAd K ("Layer", some "add_move")) ["self", "kind", "number", "before", "behind"] (sp_Layer_add_move K) := by
  obtain ⟨fd, F⟩ := Z.fd_Layer_add_move
  have c_Move_init := ok_Move_init (P := P) (w := w) (base := base) Z
  refine ⟨⟨fd, F.ok sc_Layer_add_move (fun vs H Q E h => ?_) (fun cdv A outer s H vs Q E hr h => ?_), F.bindsN fun _ _ _ _ _ _ us hl => match us, hl with | [_, _, _, _, _], _ => rfl⟩, F.kp⟩
  · exact sp5_len h
  have sc := sc_Layer_add_move
  have nd : N_Layer_add_move.Nodup := sc.nd
  replace h := sp5_get h
  obtain ⟨v_self, v_kind, v_number, v_before, v_behind, rfl, h⟩ := h
  refine ⟨_, PSs.nox (by exact ((pss_one (ps_expr (pe_bm PySem.F.plainAttrs_list PySem.F.slot_list_append PySem.F.type_list_append mt_append (pe_fld (pv 0) rfl) (pa_cons (pe_makC (E := E0) Z.mk_Move c_Move_init (hr.mono (by decide)) rfl Z.g_Move pass0 (pa_cons (pv 1) (pa_cons (pv 2) (pa_cons (pv 3) (pa_cons (pv 4) pa_nil))))) pa_nil)))))), ?_⟩
  obtain ⟨a, G, A, ms, p, kd, n, b, f, m, rfl, rfl, rfl, rfl, rfl, B, hb, hf, hk, hl, h⟩ := h
  have ha := B.lay.getAt 0 rfl
  have hm := B.lay.getAt 1 (k := A.ml) (o := .lst (A.mas.map V.ref)) rfl
  refine ⟨_, rfl, a, _, _, _, _, rfl, ha, Z.cl_Layer, Z.n_Layer_moves, lk_Layer_moves _ _ _, .inl ⟨rfl, _, SqL.of hm⟩, ?_⟩
  refine ⟨_, rfl, _, rfl, _, rfl, _, rfl, fun x dx nx ndx ne => ⟨_, _, _, _, _, rfl, x, dx, rfl, upd_same, rfl, A.ml, A.mas.map V.ref, .ref x, rfl, rfl, ?_⟩⟩
  have L1 := ((B.lay.later (same_new (o := .own x) ndx)).new (k := x) (o := .ins (cM K) dx []) (by rw [upd_ne (Ne.symm ne)]; exact nx)).updAt (o' := .ins (cM K) dx (F_Move (.str kd) (.int n) (.ref b) (.ref f))) 0 rfl
  obtain ⟨L2, g2⟩ := L1.fix
  have lm : A.mas.length = ms.length := B.moves.1
  refine ⟨L2.getAt 1 rfl, by rw [List.length_map]; exact line_lt (by omega), ?_⟩
  refine h _ _ { A with mas := A.mas ++ [x] } g2 rfl ⟨?_, pair_snoc (B.moves.mono g2) ⟨dx, b, f, kd, n, upd_same, g2 _ _ hb, g2 _ _ hf, hk⟩⟩
  have := L2.updAt (o' := .lst (A.mas.map V.ref ++ [.ref x])) 1 rfl
  show Lay _ _ [_, (A.ml, .lst ((A.mas ++ [x]).map V.ref))]
  rw [List.map_append]
  exact this
theorem cut_last (xs : List V) (y : V) : cutV (xs ++ [y]) none (some (-1)) = xs := by
  unfold cutV HT.sIx
  have : (-1 + ((xs ++ [y]).length : Int)).toNat = xs.length := by simp; omega
  simp only [this]
  simp
theorem cut_from (xs : List V) (n : Nat) : cutV xs (some (n : Int)) none = xs.drop n := by
  unfold cutV HT.sIx
  have : ¬ (n : Int) < 0 := by omega
  simp only [if_neg this, Int.toNat_natCast]
  rw [List.take_of_length_le (by simp)]
  by_cases h : n ≤ xs.length
  · rw [Nat.min_eq_left h]
  · rw [Nat.min_eq_right (by omega), List.drop_length, List.drop_eq_nil_of_le (by omega)]
theorem cut_fromto (xs : List V) (n m : Nat) : cutV xs (some (n : Int)) (some (m : Int)) = (xs.drop n).take (m - n) := by
  unfold cutV HT.sIx
  have h1 : ¬ (n : Int) < 0 := by omega
  have h2 : ¬ (m : Int) < 0 := by omega
  simp only [if_neg h1, if_neg h2, Int.toNat_natCast]
  by_cases h : n ≤ xs.length
  · rw [Nat.min_eq_left h]
    by_cases h3 : m ≤ xs.length
    · rw [Nat.min_eq_left h3]
    · rw [Nat.min_eq_right (by omega), List.take_of_length_le (by simp), List.take_of_length_le (by simp; omega)]
  · rw [Nat.min_eq_right (by omega : xs.length ≤ n), List.drop_length, List.drop_eq_nil_of_le (by omega)]
    simp
def layDone (K : PySem.W.Frag) (G : Hp) (a : Addr) (A : LA) (ms : List Mv) (res : List Mv × Nat) (Q : VK) : Prop := ∀ H' G' A', Same G G' → A'.bk = A.bk → LayerAt K H' G' a A' (ms ++ res.1) res.2 → Q .non H'
def spLay (K : PySem.W.Frag) (at_ : Bk → Hp → Addr → Bl → Prop) (v0 v1 v2 v3 : V) (H : Hp) (Q : VK) : Prop := ∃ (a : Addr) (G : Hp) (A : LA) (ms : List Mv) (p : Nat) (k : Bk) (bA : BA) (l : Addr) (x : Bl) (s g : Nat),
  v0 = .ref a ∧ v1 = .ref l ∧ v2 = .int s ∧ v3 = .int g ∧ LayerAt K H G a A ms p ∧ BookF K G A.bk bA k ∧ at_ k G l x ∧ ms.length + (Vbwbab.netOf x s g p).1.length ≤ 100000 ∧ layDone K G a A ms (Vbwbab.netOf x s g p) Q
def atBody (K : PySem.W.Frag) (r : Nat) (k : Bk) (G : Hp) (l : Addr) (x : Bl) : Prop := ∃ b as, G l = some (.lst (as.map V.ref)) ∧ PartsAt (cP K) G b as ∧ (lays k r).body b x
def atBods (K : PySem.W.Frag) (r : Nat) (k : Bk) (G : Hp) (l : Addr) (x : Bl) : Prop := ∃ bs as, G l = some (.lst (as.map V.ref)) ∧ BodsAt (cP K) G bs as ∧ (lays k r).both bs x
def atPart (K : PySem.W.Frag) (rel : T → Bl → Prop) (G : Hp) (l : Addr) (x : Bl) : Prop := ∃ t, PartAt (cP K) G t l ∧ rel t x
def sp_Layer_lay_body (K : PySem.W.Frag) (r : Nat) : Sp := sp4 fun v0 v1 v2 v3 H Q _ => spLay K (atBody K r) v0 v1 v2 v3 H Q
def sp_Layer_lay_part (K : PySem.W.Frag) (r : Nat) : Sp := sp4 fun v0 v1 v2 v3 H Q _ => spLay K (fun k => atPart K (lays k r).part) v0 v1 v2 v3 H Q
def sp_Layer_lay_if (K : PySem.W.Frag) (r : Nat) : Sp := sp4 fun v0 v1 v2 v3 H Q _ => spLay K (fun k => atPart K (lays k r).ifs) v0 v1 v2 v3 H Q
def sp_Layer_lay_again (K : PySem.W.Frag) (r : Nat) : Sp := sp4 fun v0 v1 v2 v3 H Q _ => spLay K (fun k => atPart K (lays k r).again) v0 v1 v2 v3 H Q
def sp_Layer_lay_both (K : PySem.W.Frag) (r : Nat) : Sp := sp4 fun v0 v1 v2 v3 H Q _ => spLay K (atBods K r) v0 v1 v2 v3 H Q
theorem BookF.mono {G G' : Hp} {a : Addr} {A : BA} {k : Bk} (h : BookF K G a A k) (s : Same G G') : BookF K G' a A k := ⟨fun p hp => s _ _ (h.obj p hp), h.parts.mono s _ _, h.times.mono s⟩
theorem net_pos : ∀ (x : Bl) (s g p : Nat), 1 ≤ (Vbwbab.netOf x s g p).1.length
  | .skip, _, _, _ => by simp [Vbwbab.netOf]
  | .step _, _, _, _ => by simp [Vbwbab.netOf]
  | .call _, _, _, _ => by simp [Vbwbab.netOf]
  | .seq x y, s, g, p => by
    have := net_pos x s p (p + 1)
    simp only [Vbwbab.netOf, List.length_append]; omega
  | .cond _ _ _, _, _, _ => by simp [Vbwbab.netOf]
  | .either _ _, _, _, _ => by simp [Vbwbab.netOf]
  | .both _ _, _, _, _ => by simp [Vbwbab.netOf]
  | .loop _ _, _, _, _ => by simp [Vbwbab.netOf]
theorem two_tups {H G : Hp} {ms : List (Addr × HO)} {xs ys : List V} {T1 T2 : Addr} (L : Lay H G ms) (h1 : H T1 = none) (h2 : upd H T1 (.tup xs) T2 = none) :
    ∃ G', Lay (upd (upd H T1 (.tup xs)) T2 (.tup ys)) G' ms ∧ Same G G' ∧ G' T1 = some (.tup xs) ∧ G' T2 = some (.tup ys) := by
  obtain ⟨L1, g1⟩ := (L.new (o := .tup xs) h1).fix
  obtain ⟨L2, g2⟩ := (L1.new (o := .tup ys) h2).fix
  exact ⟨_, L2, g1.trans g2, g2 _ _ upd_same, upd_same⟩
theorem ok_Layer_lay_body (Z : Tx w K mg) (r : Nat) (c_Layer_lay_part : Cal P w K mg base CX0 (r+4) (He.fAd K ("Layer", some "lay_part")) ["self", "part", "start", "goal"] (sp_Layer_lay_part K r)) : Cal P w K mg base CX0 (r+5) (He.fAd K ("Layer", some "lay_body")) ["self", "body", "start", "goal"] (sp_Layer_lay_body K (r + 1)) := by
  obtain ⟨fd, F⟩ := Z.fd_Layer_lay_body
  have c_Layer_add_move := ok_Layer_add_move (P := P) (w := w) (base := base) Z
  have c_Layer_new_places := ok_Layer_new_places (P := P) (w := w) (base := base) Z
  refine ⟨⟨fd, F.ok sc_Layer_lay_body (fun vs H Q E h => ?_) (fun cdv A outer s H vs Q E hr h => ?_), F.bindsN fun _ _ _ _ _ _ us hl => match us, hl with | [_, _, _, _], _ => rfl⟩, F.kp⟩
  · exact sp4_len h
  have sc := sc_Layer_lay_body
  have nd : N_Layer_lay_body.Nodup := sc.nd
  replace h := sp4_get h
  obtain ⟨v_self, v_body, v_start, v_goal, rfl, h⟩ := h
  refine ⟨_, PSs.nox (by exact ((pss_cons (ps_if (pt_cmpR op_eq (pe_callB call_len_seq (by rfl) Z.b_len (by decide +kernel) (pa_cons (pv 1) pa_nil)) pe_int (nomark _)) (pss_cons (ps_expr (pe_metC (E := E0) (pv 0) Z.cl_Layer Z.m_Layer_add_move c_Layer_add_move (hr.mono (by omega)) pass0 (pa_cons pe_str (pa_cons pe_int (pa_cons (pe_tup (pa_cons (pv 2) pa_nil)) (pa_cons (pe_tup (pa_cons (pv 3) pa_nil)) pa_nil))))))
 (pss_one ps_retN)) pss_nil)
 (pss_cons (ps_set (i := 4) nd rfl (by first | exact Or.inl rfl | exact Or.inr rfl) (pe_op op_sub (pe_callB call_len_seq (by rfl) Z.b_len (by decide +kernel) (pa_cons (pv 1) pa_nil)) pe_int))
 (pss_cons (ps_set (i := 5) nd rfl (by first | exact Or.inl rfl | exact Or.inr rfl) (pe_metC (E := E0) (pv 0) Z.cl_Layer Z.m_Layer_new_places c_Layer_new_places (hr.mono (by omega)) pass0 (pa_cons (pv 4) pa_nil)))
 (pss_cons (ps_set (i := 6) nd rfl (by first | exact Or.inl rfl | exact Or.inr rfl) (pe_op op_cat (pe_lc (own := [("k", 10)]) (g := (gName 10)) rfl nd (pi_range1 (by rfl) Z.b_range (pa_cons (pv 4) pa_nil)) (blkOk_by (own := [("k", 10)]) (N := N_Layer_lay_body) (sc := defScope s_Layer_lay_body) (by decide +kernel)) (fun _ _ _ _ _ => (pg_name (i := 10) nd rfl (by first | exact Or.inl rfl | exact Or.inr rfl))) (fun _ _ _ _ _ => pts_nil) (fun _ _ _ _ _ => (pe_op op_sub (pe_op op_sub (pe_op op_add (pv 5) (pv 4)) pe_int) (pv 10)))) (pe_lst (pa_cons (pv 3) pa_nil))))
 (pss_cons (ps_set (i := 7) nd rfl (by first | exact Or.inl rfl | exact Or.inr rfl) (pv 2))
 (pss_one (ps_for PassesOwn.never rfl (pi_zipX false false (K := K) rfl (by rfl) Z.b_zip (pa_cons (pv 1) (pa_cons (pv 6) pa_nil))) (pg_tup rfl (pgs_cons (pg_name (i := 8) nd rfl (by first | exact Or.inl rfl | exact Or.inr rfl)) (pgs_cons (pg_name (i := 9) nd rfl (by first | exact Or.inl rfl | exact Or.inr rfl)) pgs_nil))) (pss_cons (ps_expr (pe_metC (E := E0) (pv 0) Z.cl_Layer Z.m_Layer_lay_part c_Layer_lay_part (hr.mono (by omega)) pass0 (pa_cons (pv 8) (pa_cons (pv 7) (pa_cons (pv 9) pa_nil)))))
 (pss_one (ps_set (i := 7) nd rfl (by first | exact Or.inl rfl | exact Or.inr rfl) (pv 9))))))))))))), ?_⟩
  obtain ⟨a, G, A, ms, p, k, bA, l, x, st, go, rfl, rfl, rfl, rfl, B, BF, ⟨b, as, hl, hP, xs, eb, hb, hx, rfl⟩, hlen, hQ⟩ := h
  have hH := B.lay.same _ _ hl
  have la : as.length = b.length := hP.len
  refine ⟨_, rfl, l, _, rfl, .inl (SqL.of hH), rfl, _, rfl, if_intro (fun c => ?_) fun c => ?_⟩
  · have e0 : b = [] := by
      have := V.int.inj (of_decide_eq_true c)
      rw [List.length_map, la] at this
      exact List.length_eq_zero_iff.mp (by omega)
    subst e0
    obtain rfl : xs = [] := List.length_eq_zero_iff.mp eb.symm
    refine ⟨_, rfl, a, _, _, rfl, B.lay.getAt 0 rfl, lm_Layer_add_move _ _ _, _, rfl, (by show 1 ≤ sizeLine; decide), fun T1 h1 => ⟨_, rfl, (by show 1 ≤ sizeLine; decide), fun T2 h2 => ?_⟩⟩
    obtain ⟨G1, L1, g1, t1, t2⟩ := two_tups (xs := [.int st]) (ys := [.int go]) B.lay h1 h2
    exact ⟨_, _, _, _, _, rfl, a, G1, A, ms, p, "silent", 0, T1, T2, ⟨0, [st], [go]⟩, rfl, rfl, rfl, rfl, rfl, ⟨L1, B.moves.mono g1⟩, t1, t2, .inl ⟨rfl, rfl, rfl⟩, by
      have : (Vbwbab.netOf (chain []) st go p).1.length = 1 := rfl
      rw [this] at hlen; omega, fun H' G' A' s' k' B' => hQ H' G' A' (g1.trans s') k' B'⟩
  obtain ⟨m, hm⟩ : ∃ m, b.length = m + 1 := ⟨b.length - 1, by
    have : b ≠ [] := fun z => c (decide_eq_true (by rw [z] at la; rw [List.length_eq_zero_iff.mp la]; rfl))
    have := List.length_pos_iff.mpr this; omega⟩
  have hc := net_chain m xs st go p (by omega)
  rw [hc] at hlen hQ
  have ebt : V.int (((as.map V.ref).length : Nat) - 1) = V.int (m : Nat) := by rw [List.length_map, la, hm]; congr 1; omega
  refine ⟨_, rfl, l, _, rfl, .inl (SqL.of hH), _, _, rfl, rfl, ?_⟩
  simp only [ebt]
  refine ⟨_, rfl, a, _, _, rfl, B.lay.getAt 0 rfl, lm_Layer_new_places _ _ _, _, rfl, _, _, rfl, a, G, A, ms, p, m, rfl, rfl, B, fun H1 B1 => ?_⟩
  have hm' : m ≤ 1000 := by omega
  refine ⟨_, rfl, (m : Nat), rfl, by omega, by omega, fun D hD => lc_fn walk_range (fun i => V.int ((p : Int) + m - 1 - i)) hD (fun _ _ => trivial) (line_lt (by omega)) ?_ ?_⟩
  · rintro i x H2 H3 R hi s2 ⟨rfl, rfl⟩ k
    refine ⟨rfl, _, rfl, _, rfl, _, _, rfl, rfl, _, _, rfl, rfl, _, rfl, _, _, rfl, rfl, ?_⟩
    have := k _ (Same.refl _)
    simpa using this
  intro H2 s2 hD2
  have eSt : (List.range (m : Int).toNat).map (fun i : Nat => V.int ((p : Int) + m - 1 - i)) = (stopsOf p m).map natV := by
    unfold stopsOf
    rw [List.map_map, Int.toNat_natCast]
    refine List.map_congr_left fun i hi => ?_
    have := List.mem_range.mp hi
    show V.int _ = V.int _
    congr 1
    show (p : Int) + m - 1 - i = ((p + m - 1 - i : Nat) : Int)
    omega
  rw [eSt] at hD2
  refine ⟨_, rfl, (by show 1 ≤ sizeLine; decide), fun l1 hl1 => ?_⟩
  have s3 := s2.trans (same_new (o := .lst [V.int go]) hl1)
  have hD3 := (same_new (o := .lst [V.int go]) hl1) _ _ hD2
  have sl0 : (stopsOf p m).length = m := by unfold stopsOf; simp
  refine ⟨D, l1, _, _, rfl, rfl, hD3, upd_same, by rw [List.length_map, sl0]; exact line_of (by simp; omega), fun sl hsl => ⟨_, rfl, ?_⟩⟩
  have eS : (stopsOf p m).map natV ++ [V.int go] = (stopsOf p m ++ [go]).map natV := by simp [natV]
  rw [eS]
  obtain ⟨ts, ets⟩ : ∃ ts, ts = stopsOf p m ++ [go] := ⟨_, rfl⟩
  rw [← ets] at hlen hQ ⊢
  have lts : ts.length = m + 1 := by rw [ets]; simp [sl0]
  obtain ⟨L1, g1⟩ := ((B1.lay.later s3).new (o := .lst (ts.map natV)) hsl).fix
  refine ⟨_, rfl, _, rfl, l, sl, _, _, rfl, SqL.of (L1.same _ _ (g1 _ _ hl)), SqL.of upd_same, for_walk (walk_zipX (K := K) (t := false) (u := false) (n := m + 1) (by simp; omega)) (fun i σ H' => ∃ (v8 v9 : Option V) (G' : Hp) (A' : LA), σ = [some (.ref a), some (.ref l), some (.int st), some (.int go), some (.int m), some (.int p), some (.ref sl), some (natV ((ts.take i).getLast?.getD st)), v8, v9, none] ∧
    Same (upd G sl (.lst (ts.map natV))) G' ∧ A'.bk = A.bk ∧ LayerAt K H' G' a A' (ms ++ (layL (xs.take i) (ts.take i) st (p + m)).1) (layL (xs.take i) (ts.take i) st (p + m)).2) ⟨none, none, _, A, by simp [natV, L2.start], Same.refl _, rfl, ?_⟩ (fun i σ H' _ ⟨_, _, G', _, _, s5, _, B5⟩ => ⟨SqL.of (B5.lay.same _ _ (s5 _ _ (g1 _ _ hl))), SqL.of (B5.lay.same _ _ (s5 _ _ upd_same))⟩) ?_ ?_⟩
  · simp only [List.take_zero, layL, List.append_nil]
    exact ⟨L1, B.moves.mono g1⟩
  · rintro i x σ H4 H5 hi ⟨v8, v9, G', A', rfl, s5, k5, B5⟩ ⟨T, e1, e2, rfl, nT, rfl, he1, he2⟩
    have hib : i < b.length := by omega
    have hbt : b[i]? = some b[i] := List.getElem?_eq_getElem hib
    have hxt : xs[i]? = some (xs[i]'(by omega)) := List.getElem?_eq_getElem (by omega)
    have htt : ts[i]? = some (ts[i]'(by omega)) := List.getElem?_eq_getElem (by omega)
    obtain ⟨pa, hpa, hPA⟩ := hP.get hbt
    generalize b[i] = t at hbt hPA
    generalize xs[i]'(by omega) = x at hxt
    generalize ts[i]'(by omega) = g at htt
    replace he1 : (as.map V.ref)[i]? = some e1 := he1
    replace he2 : (ts.map natV)[i]? = some e2 := he2
    rw [List.getElem?_map, hpa] at he1
    rw [List.getElem?_map, htt] at he2
    cases he1
    cases he2
    have st5 := layL_step hxt htt st (p + m)
    have tl5 := take_last htt st
    have B6 : LayerAt K (upd H4 T (.tup [.ref pa, natV g])) G' a A' _ _ := ⟨B5.lay.later (same_new nT), B5.moves⟩
    have sG := g1.trans s5
    have ln5 : (layL (xs.take (i + 1)) (ts.take (i + 1)) st (p + m)).1.length ≤ (layL xs ts st (p + m)).1.length := layL_take (i + 1) xs ts st (p + m)
    rw [st5, List.length_append] at ln5
    refine ⟨T, _, rfl, .inl (.inl upd_same), rfl, _, _, rfl, _, _, rfl, rfl, ?_⟩
    refine ⟨_, rfl, a, _, _, rfl, B6.lay.getAt 0 rfl, lm_Layer_lay_part _ _ _, _, rfl, _, rfl, _, rfl, _, _, _, _, rfl, a, G', A', _, _, k, bA, pa, x, _, g, rfl, rfl, rfl, rfl, B6, k5 ▸ BF.mono sG, ⟨t, hPA.mono sG _ _, hx i t x hbt hxt⟩, by rw [List.length_append]; omega, fun H6 G6 A6 s6 k6 B7 => ⟨_, rfl, ?_⟩⟩
    rw [st5, tl5]
    refine ⟨_, _, G6, A6, rfl, s5.trans s6, k6.trans k5, ?_⟩
    rw [← List.append_assoc]
    exact B7
  · rintro σ H4 ⟨v8, v9, G', A', rfl, s5, k5, B5⟩
    rw [List.take_of_length_le (by omega), List.take_of_length_le (by omega)] at B5
    exact hQ H4 G' A' (g1.trans s5) k5 B5
theorem ok_Layer_lay_part (Z : Tx w K mg) (r : Nat) (c_Layer_lay_body : Cal P w K mg base CX0 (r+4) (He.fAd K ("Layer", some "lay_body")) ["self", "body", "start", "goal"] (sp_Layer_lay_body K r)) (c_Layer_lay_if : Cal P w K mg base CX0 (r+4) (He.fAd K ("Layer", some "lay_if")) ["self", "part", "start", "goal"] (sp_Layer_lay_if K r)) (c_Layer_lay_both : Cal P w K mg base CX0 (r+4) (He.fAd K ("Layer", some "lay_both")) ["self", "bodies", "start", "goal"] (sp_Layer_lay_both K r)) (c_Layer_lay_again : Cal P w K mg base CX0 (r+4) (He.fAd K ("Layer", some "lay_again")) ["self", "part", "start", "goal"] (sp_Layer_lay_again K r)) : Cal P w K mg base CX0 (r+5) (He.fAd K ("Layer", some "lay_part")) ["self", "part", "start", "goal"] (sp_Layer_lay_part K (r + 1)) := by
  obtain ⟨fd, F⟩ := Z.fd_Layer_lay_part
  have c_Layer_add_move := ok_Layer_add_move (P := P) (w := w) (base := base) Z
  refine ⟨⟨fd, F.ok sc_Layer_lay_part (fun vs H Q E h => ?_) (fun cdv A outer s H vs Q E hr h => ?_), F.bindsN fun _ _ _ _ _ _ us hl => match us, hl with | [_, _, _, _], _ => rfl⟩, F.kp⟩
  · exact sp4_len h
  have sc := sc_Layer_lay_part
  have nd : N_Layer_lay_part.Nodup := sc.nd
  replace h := sp4_get h
  obtain ⟨v_self, v_part, v_start, v_goal, rfl, h⟩ := h
  refine ⟨_, PSs.nox (by exact ((pss_one (ps_if (pt_cmpR op_eq (pe_fld (pv 1) rfl) pe_str (nomark _)) (pss_one (ps_expr (pe_metC (E := E0) (pv 0) Z.cl_Layer Z.m_Layer_add_move c_Layer_add_move (hr.mono (by omega)) pass0 (pa_cons pe_str (pa_cons (pe_fld (pv 1) rfl) (pa_cons (pe_tup (pa_cons (pv 2) pa_nil)) (pa_cons (pe_tup (pa_cons (pv 3) pa_nil)) pa_nil))))))) (pss_one (ps_if (pt_cmpR op_eq (pe_fld (pv 1) rfl) pe_str (nomark _)) (pss_one (ps_expr (pe_metC (E := E0) (pv 0) Z.cl_Layer Z.m_Layer_lay_body c_Layer_lay_body (hr.mono (by omega)) pass0 (pa_cons (pe_ix ix_list (pe_fld (pe_ix ix_list (pe_fld (pe_fld (pv 0) rfl) rfl) (pe_fld (pv 1) rfl) (fun _ _ => rfl)) rfl) pe_int (fun _ _ => rfl)) (pa_cons (pv 2) (pa_cons (pv 3) pa_nil)))))) (pss_one (ps_if (pt_cmpR op_eq (pe_fld (pv 1) rfl) pe_str (nomark _)) (pss_one (ps_expr (pe_metC (E := E0) (pv 0) Z.cl_Layer Z.m_Layer_lay_if c_Layer_lay_if (hr.mono (by omega)) pass0 (pa_cons (pv 1) (pa_cons (pv 2) (pa_cons (pv 3) pa_nil)))))) (pss_one (ps_if (pt_cmpR op_eq (pe_fld (pv 1) rfl) pe_str (nomark _)) (pss_one (ps_expr (pe_metC (E := E0) (pv 0) Z.cl_Layer Z.m_Layer_lay_both c_Layer_lay_both (hr.mono (by omega)) pass0 (pa_cons (pe_fld (pv 1) rfl) (pa_cons (pv 2) (pa_cons (pv 3) pa_nil)))))) (pss_one (ps_expr (pe_metC (E := E0) (pv 0) Z.cl_Layer Z.m_Layer_lay_again c_Layer_lay_again (hr.mono (by omega)) pass0 (pa_cons (pv 1) (pa_cons (pv 2) (pa_cons (pv 3) pa_nil)))))))))))))))), ?_⟩
  obtain ⟨a, G, A, ms, p, k, bA, pa, x, st, go, rfl, rfl, rfl, rfl, B, BF, ⟨t, hP, hx⟩, hlen, hQ⟩ := h
  obtain ⟨w', n, h', bs⟩ := t
  have hP0 := hP
  unfold PartAt at hP
  obtain ⟨dx, l, as, h1, h2, h3⟩ := hP
  have hp := B.lay.same _ _ h1
  have ha := B.lay.getAt 0 rfl
  refine ⟨_, rfl, pa, _, _, _, _, rfl, hp, Z.cl_Part, Z.n_Part_word, lk_Part_word _ _ _ _, rfl, _, rfl, if_intro (fun c => ?_) fun c => ?_⟩
  · obtain rfl : w' = .do_ := wd_inj (b := .do_) (V.str.inj (of_decide_eq_true c))
    obtain rfl : x = .step n := hx
    refine ⟨_, rfl, a, _, _, rfl, ha, lm_Layer_add_move _ _ _, _, rfl, pa, _, _, _, _, rfl, hp, Z.cl_Part, Z.n_Part_number, lk_Part_number _ _ _ _, _, rfl, (by show 1 ≤ sizeLine; decide), fun T1 h1 => ⟨_, rfl, (by show 1 ≤ sizeLine; decide), fun T2 h2 => ?_⟩⟩
    obtain ⟨G1, L1, g1, t1, t2⟩ := two_tups (xs := [.int st]) (ys := [.int go]) B.lay h1 h2
    exact ⟨_, _, _, _, _, rfl, a, G1, A, ms, p, "step", n, T1, T2, ⟨Vbwbab.stepLetter n, [st], [go]⟩, rfl, rfl, rfl, rfl, rfl, ⟨L1, B.moves.mono g1⟩, t1, t2, .inr (.inl ⟨rfl, rfl⟩), by
      have : (Vbwbab.netOf (.step n) st go p).1.length = 1 := rfl
      rw [this] at hlen; omega, fun H' G' A' s' k' B' => hQ H' G' A' (g1.trans s') k' B'⟩
  have c1 : w' ≠ .do_ := fun z => c (by rw [z]; exact decide_eq_true rfl)
  refine ⟨_, rfl, pa, _, _, _, _, rfl, hp, Z.cl_Part, Z.n_Part_word, lk_Part_word _ _ _ _, rfl, _, rfl, if_intro (fun c => ?_) fun c => ?_⟩
  · obtain rfl : w' = .use := wd_inj (b := .use) (V.str.inj (of_decide_eq_true c))
    obtain ⟨nm, u, b, hr, hb, hx⟩ := hx
    obtain ⟨ua, hua, hU⟩ := BF.parts.get (i := n) (t := u) (by rw [List.getElem?_map]; exact congrArg (Option.map _) hr)
    obtain ⟨wu, nu, hu, bus⟩ := u
    unfold PartAt at hU
    obtain ⟨dxu, lu, asu, u1, u2, u3⟩ := hU
    obtain ⟨a0, ps, ha0, hl0, hP0⟩ := u3.get hb
    have hB := B.lay.same _ _ (BF.obj (A.bk, _) (List.mem_cons_self ..))
    have hpl := B.lay.same _ _ (BF.obj (bA.pl, .lst (bA.pas.map V.ref)) (by simp [bms]))
    refine ⟨_, rfl, a, _, _, rfl, ha, lm_Layer_lay_body _ _ _, _, rfl, a, _, _, _, _, rfl, ha, Z.cl_Layer, Z.n_Layer_book, lk_Layer_book _ _ _, A.bk, _, _, _, _, rfl, hB, Z.cl_Book, Z.n_Book_parts, lk_Book_parts _ _ _ _ _ _, _, rfl, pa, _, _, _, _, rfl, hp, Z.cl_Part, Z.n_Part_number, lk_Part_number _ _ _ _, bA.pl, _, (n : Nat), .ref ua, rfl, rfl, SqL.of hpl, atI_nat (by rw [List.getElem?_map, hua]; rfl), ?_⟩
    exact ⟨ua, _, _, _, _, rfl, B.lay.same _ _ u1, Z.cl_Part, Z.n_Part_bodies, lk_Part_bodies _ _ _ _, lu, _, (0 : Nat), .ref a0, rfl, rfl, SqL.of (B.lay.same _ _ u2), atI_nat (by rw [List.getElem?_map, ha0]; rfl), _, rfl, _, rfl, _, _, _, _, rfl, a, G, A, ms, p, k, bA, a0, x, st, go, rfl, rfl, rfl, rfl, B, BF, ⟨b, ps, hl0, hP0, hx⟩, hlen, hQ⟩
  have c2 : w' ≠ .use := fun z => c (by rw [z]; exact decide_eq_true rfl)
  refine ⟨_, rfl, pa, _, _, _, _, rfl, hp, Z.cl_Part, Z.n_Part_word, lk_Part_word _ _ _ _, rfl, _, rfl, if_intro (fun c => ?_) fun c => ?_⟩
  · obtain rfl : w' = .if_ := wd_inj (b := .if_) (V.str.inj (of_decide_eq_true c))
    exact ⟨_, rfl, a, _, _, rfl, ha, lm_Layer_lay_if _ _ _, _, rfl, _, rfl, _, rfl, _, _, _, _, rfl, a, G, A, ms, p, k, bA, pa, x, st, go, rfl, rfl, rfl, rfl, B, BF, ⟨_, hP0, hx⟩, hlen, hQ⟩
  have c3 : w' ≠ .if_ := fun z => c (by rw [z]; exact decide_eq_true rfl)
  refine ⟨_, rfl, pa, _, _, _, _, rfl, hp, Z.cl_Part, Z.n_Part_word, lk_Part_word _ _ _ _, rfl, _, rfl, if_intro (fun c => ?_) fun c => ?_⟩
  · obtain rfl : w' = .both := wd_inj (b := .both) (V.str.inj (of_decide_eq_true c))
    exact ⟨_, rfl, a, _, _, rfl, ha, lm_Layer_lay_both _ _ _, _, rfl, pa, _, _, _, _, rfl, hp, Z.cl_Part, Z.n_Part_bodies, lk_Part_bodies _ _ _ _, _, rfl, _, rfl, _, _, _, _, rfl, a, G, A, ms, p, k, bA, l, x, st, go, rfl, rfl, rfl, rfl, B, BF, ⟨bs, as, h2, h3, hx⟩, hlen, hQ⟩
  have c4 : w' ≠ .both := fun z => c (by rw [z]; exact decide_eq_true rfl)
  refine ⟨_, rfl, a, _, _, rfl, ha, lm_Layer_lay_again _ _ _, _, rfl, _, rfl, _, rfl, _, _, _, _, rfl, a, G, A, ms, p, k, bA, pa, x, st, go, rfl, rfl, rfl, rfl, B, BF, ⟨_, hP0, ?_⟩, hlen, hQ⟩
  cases w' <;> first | exact absurd rfl c1 | exact absurd rfl c2 | exact absurd rfl c3 | exact absurd rfl c4 | exact hx | exact hx.elim
theorem ok_Layer_lay_if (Z : Tx w K mg) (r : Nat) (c_Layer_lay_body : Cal P w K mg base CX0 (r+4) (He.fAd K ("Layer", some "lay_body")) ["self", "body", "start", "goal"] (sp_Layer_lay_body K r)) : Cal P w K mg base CX0 (r+5) (He.fAd K ("Layer", some "lay_if")) ["self", "part", "start", "goal"] (sp_Layer_lay_if K (r + 1)) := by
  obtain ⟨fd, F⟩ := Z.fd_Layer_lay_if
  have c_Layer_new_places := ok_Layer_new_places (P := P) (w := w) (base := base) Z
  have c_Layer_add_move := ok_Layer_add_move (P := P) (w := w) (base := base) Z
  refine ⟨⟨fd, F.ok sc_Layer_lay_if (fun vs H Q E h => ?_) (fun cdv A outer s H vs Q E hr h => ?_), F.bindsN fun _ _ _ _ _ _ us hl => match us, hl with | [_, _, _, _], _ => rfl⟩, F.kp⟩
  · exact sp4_len h
  have sc := sc_Layer_lay_if
  have nd : N_Layer_lay_if.Nodup := sc.nd
  replace h := sp4_get h
  obtain ⟨v_self, v_part, v_start, v_goal, rfl, h⟩ := h
  refine ⟨_, PSs.nox (by exact ((pss_cons (ps_set (i := 4) nd rfl (by first | exact Or.inl rfl | exact Or.inr rfl) (pe_metC (E := E0) (pv 0) Z.cl_Layer Z.m_Layer_new_places c_Layer_new_places (hr.mono (by omega)) pass0 (pa_cons pe_int pa_nil)))
 (pss_cons (ps_expr (pe_metC (E := E0) (pv 0) Z.cl_Layer Z.m_Layer_add_move c_Layer_add_move (hr.mono (by omega)) pass0 (pa_cons pe_str (pa_cons (pe_fld (pv 1) rfl) (pa_cons (pe_tup (pa_cons (pv 2) pa_nil)) (pa_cons (pe_tup (pa_cons (pv 4) pa_nil)) pa_nil))))))
 (pss_cons (ps_expr (pe_metC (E := E0) (pv 0) Z.cl_Layer Z.m_Layer_add_move c_Layer_add_move (hr.mono (by omega)) pass0 (pa_cons pe_str (pa_cons (pe_fld (pv 1) rfl) (pa_cons (pe_tup (pa_cons (pv 2) pa_nil)) (pa_cons (pe_tup (pa_cons (pe_op op_add (pv 4) pe_int) pa_nil)) pa_nil))))))
 (pss_cons (ps_expr (pe_metC (E := E0) (pv 0) Z.cl_Layer Z.m_Layer_lay_body c_Layer_lay_body (hr.mono (by omega)) pass0 (pa_cons (pe_ix ix_list (pe_fld (pv 1) rfl) pe_int (fun _ _ => rfl)) (pa_cons (pv 4) (pa_cons (pv 3) pa_nil)))))
 (pss_one (ps_expr (pe_metC (E := E0) (pv 0) Z.cl_Layer Z.m_Layer_lay_body c_Layer_lay_body (hr.mono (by omega)) pass0 (pa_cons (pe_ix ix_list (pe_fld (pv 1) rfl) pe_int (fun _ _ => rfl)) (pa_cons (pe_op op_add (pv 4) pe_int) (pa_cons (pv 3) pa_nil)))))))))))), ?_⟩
  obtain ⟨a, G, A, ms, p, k, bA, pa, x, st, go, rfl, rfl, rfl, rfl, B, BF, ⟨t, hP, b1, b2, y, z, eb, hy, hz, rfl⟩, hlen, hQ⟩ := h
  obtain ⟨w', n, h', bs⟩ := t
  replace eb : bs = [b1, b2] := eb
  subst eb
  unfold PartAt at hP
  obtain ⟨dx, l, as, h1, h2, h3⟩ := hP
  have hp := B.lay.same _ _ h1
  have ha := B.lay.getAt 0 rfl
  obtain ⟨a1, ps1, ea1, hl1, hP1⟩ := h3.get (i := 0) rfl
  obtain ⟨a2, ps2, ea2, hl2, hP2⟩ := h3.get (i := 1) rfl
  have N1 : Vbwbab.netOf (.cond n y z) st go p = (⟨Vbwbab.yes n, [st], [p]⟩ :: ⟨Vbwbab.no_ n, [st], [p + 1]⟩ :: ((Vbwbab.netOf y p go (p + 2)).1 ++ (Vbwbab.netOf z (p + 1) go (Vbwbab.netOf y p go (p + 2)).2).1), (Vbwbab.netOf z (p + 1) go (Vbwbab.netOf y p go (p + 2)).2).2) := rfl
  replace hlen : ms.length + (Vbwbab.netOf (.cond n y z) st go p).1.length ≤ 100000 := hlen
  rw [N1] at hlen
  replace hQ : layDone K G a A ms (Vbwbab.netOf (.cond n y z) st go p) Q := hQ
  rw [N1] at hQ
  simp only [List.length_cons, List.length_append] at hlen
  refine ⟨_, rfl, a, _, _, rfl, ha, lm_Layer_new_places _ _ _, _, _, rfl, a, G, A, ms, p, 2, rfl, rfl, B, fun H1 B1 => ?_⟩
  refine ⟨_, rfl, a, _, _, rfl, B1.lay.getAt 0 rfl, lm_Layer_add_move _ _ _, _, rfl, pa, _, _, _, _, rfl, B1.lay.same _ _ h1, Z.cl_Part, Z.n_Part_number, lk_Part_number _ _ _ _, _, rfl, (by show 1 ≤ sizeLine; decide), fun T1 n1 => ⟨_, rfl, (by show 1 ≤ sizeLine; decide), fun T2 n2 => ?_⟩⟩
  obtain ⟨G2, L2, g2, t1, t2⟩ := two_tups (xs := [.int st]) (ys := [.int p]) B1.lay n1 n2
  refine ⟨_, _, _, _, _, rfl, a, G2, A, ms, p + 2, "yes", n, T1, T2, ⟨Vbwbab.yes n, [st], [p]⟩, rfl, rfl, rfl, rfl, rfl, ⟨L2, B1.moves.mono g2⟩, t1, t2, .inr (.inr (.inl ⟨rfl, rfl⟩)), by omega, fun H3 G3 A3 s3 k3 B3 => ?_⟩
  have sg3 := g2.trans s3
  have ha3 := B3.lay.getAt 0 rfl
  refine ⟨_, rfl, a, _, _, rfl, ha3, lm_Layer_add_move _ _ _, _, rfl, pa, _, _, _, _, rfl, B3.lay.same _ _ (sg3 _ _ h1), Z.cl_Part, Z.n_Part_number, lk_Part_number _ _ _ _, _, rfl, (by show 1 ≤ sizeLine; decide), fun T3 n3 => ⟨_, rfl, _, _, rfl, rfl, (by show 1 ≤ sizeLine; decide), fun T4 n4 => ?_⟩⟩
  obtain ⟨G4, L4, g4, t3, t4⟩ := two_tups (xs := [.int st]) (ys := [.int ((p : Int) + 1)]) B3.lay n3 n4
  refine ⟨_, _, _, _, _, rfl, a, G4, A3, _, p + 2, "no", n, T3, T4, ⟨Vbwbab.no_ n, [st], [p + 1]⟩, rfl, rfl, rfl, rfl, rfl, ⟨L4, B3.moves.mono g4⟩, t3, t4, .inr (.inr (.inr ⟨rfl, rfl⟩)), by rw [List.length_append]; simp; omega, fun H5 G5 A5 s5 k5 B5 => ?_⟩
  have sg5 := (sg3.trans g4).trans s5
  have kk5 : A5.bk = A.bk := k5.trans k3
  refine ⟨_, rfl, a, _, _, rfl, B5.lay.getAt 0 rfl, lm_Layer_lay_body _ _ _, _, rfl, pa, _, _, _, _, rfl, B5.lay.same _ _ (sg5 _ _ h1), Z.cl_Part, Z.n_Part_bodies, lk_Part_bodies _ _ _ _, l, _, (0 : Nat), .ref a1, rfl, rfl, SqL.of (B5.lay.same _ _ (sg5 _ _ h2)), atI_nat (by rw [List.getElem?_map, ea1]; rfl), _, rfl, _, rfl,
    _, _, _, _, rfl, a, G5, A5, _, p + 2, k, bA, a1, y, p, go, rfl, rfl, rfl, rfl, B5, kk5 ▸ BF.mono sg5, ⟨b1, ps1, sg5 _ _ hl1, hP1.mono sg5 _ _, hy⟩, by rw [List.length_append, List.length_append]; simp; omega, fun H6 G6 A6 s6 k6 B6 => ?_⟩
  have sg6 := sg5.trans s6
  have kk6 : A6.bk = A.bk := k6.trans kk5
  refine ⟨_, rfl, a, _, _, rfl, B6.lay.getAt 0 rfl, lm_Layer_lay_body _ _ _, _, rfl, pa, _, _, _, _, rfl, B6.lay.same _ _ (sg6 _ _ h1), Z.cl_Part, Z.n_Part_bodies, lk_Part_bodies _ _ _ _, l, _, (1 : Nat), .ref a2, rfl, rfl, SqL.of (B6.lay.same _ _ (sg6 _ _ h2)), atI_nat (by rw [List.getElem?_map, ea2]; rfl), _, rfl, _, _, rfl, rfl, _, rfl,
    _, _, _, _, rfl, a, G6, A6, _, _, k, bA, a2, z, p + 1, go, rfl, rfl, rfl, rfl, B6, kk6 ▸ BF.mono sg6, ⟨b2, ps2, sg6 _ _ hl2, hP2.mono sg6 _ _, hz⟩, by simp only [List.length_append]; simp; omega, fun H7 G7 A7 s7 k7 B7 => ?_⟩
  refine hQ H7 G7 A7 (sg6.trans s7) (k7.trans kk6) ?_
  simpa using B7
theorem ok_Layer_lay_again (Z : Tx w K mg) (r : Nat) (c_Layer_lay_body : Cal P w K mg base CX0 (r+4) (He.fAd K ("Layer", some "lay_body")) ["self", "body", "start", "goal"] (sp_Layer_lay_body K r)) : Cal P w K mg base CX0 (r+5) (He.fAd K ("Layer", some "lay_again")) ["self", "part", "start", "goal"] (sp_Layer_lay_again K (r + 1)) := by
  obtain ⟨fd, F⟩ := Z.fd_Layer_lay_again
  have c_Layer_new_places := ok_Layer_new_places (P := P) (w := w) (base := base) Z
  have c_Layer_add_move := ok_Layer_add_move (P := P) (w := w) (base := base) Z
  refine ⟨⟨fd, F.ok sc_Layer_lay_again (fun vs H Q E h => ?_) (fun cdv A outer s H vs Q E hr h => ?_), F.bindsN fun _ _ _ _ _ _ us hl => match us, hl with | [_, _, _, _], _ => rfl⟩, F.kp⟩
  · exact sp4_len h
  have sc := sc_Layer_lay_again
  have nd : N_Layer_lay_again.Nodup := sc.nd
  replace h := sp4_get h
  obtain ⟨v_self, v_part, v_start, v_goal, rfl, h⟩ := h
  refine ⟨_, PSs.nox (by exact ((pss_cons (ps_set (i := 4) nd rfl (by first | exact Or.inl rfl | exact Or.inr rfl) (pe_metC (E := E0) (pv 0) Z.cl_Layer Z.m_Layer_new_places c_Layer_new_places (hr.mono (by omega)) pass0 (pa_cons pe_int pa_nil)))
 (pss_cons (ps_expr (pe_metC (E := E0) (pv 0) Z.cl_Layer Z.m_Layer_add_move c_Layer_add_move (hr.mono (by omega)) pass0 (pa_cons pe_str (pa_cons pe_int (pa_cons (pe_tup (pa_cons (pv 2) pa_nil)) (pa_cons (pe_tup (pa_cons (pv 4) pa_nil)) pa_nil))))))
 (pss_cons (ps_expr (pe_metC (E := E0) (pv 0) Z.cl_Layer Z.m_Layer_lay_body c_Layer_lay_body (hr.mono (by omega)) pass0 (pa_cons (pe_ix ix_list (pe_fld (pv 1) rfl) pe_int (fun _ _ => rfl)) (pa_cons (pv 4) (pa_cons (pe_op op_add (pv 4) pe_int) pa_nil)))))
 (pss_cons (ps_expr (pe_metC (E := E0) (pv 0) Z.cl_Layer Z.m_Layer_add_move c_Layer_add_move (hr.mono (by omega)) pass0 (pa_cons pe_str (pa_cons (pe_fld (pv 1) rfl) (pa_cons (pe_tup (pa_cons (pe_op op_add (pv 4) pe_int) pa_nil)) (pa_cons (pe_tup (pa_cons (pv 4) pa_nil)) pa_nil))))))
 (pss_one (ps_expr (pe_metC (E := E0) (pv 0) Z.cl_Layer Z.m_Layer_add_move c_Layer_add_move (hr.mono (by omega)) pass0 (pa_cons pe_str (pa_cons (pe_fld (pv 1) rfl) (pa_cons (pe_tup (pa_cons (pe_op op_add (pv 4) pe_int) pa_nil)) (pa_cons (pe_tup (pa_cons (pv 3) pa_nil)) pa_nil))))))))))))), ?_⟩
  obtain ⟨a, G, A, ms, p, k, bA, pa, x, st, go, rfl, rfl, rfl, rfl, B, BF, ⟨t, hP, b1, y, eb, hy, rfl⟩, hlen, hQ⟩ := h
  obtain ⟨w', n, h', bs⟩ := t
  replace eb : bs = [b1] := eb
  subst eb
  unfold PartAt at hP
  obtain ⟨dx, l, as, h1, h2, h3⟩ := hP
  have hp := B.lay.same _ _ h1
  have ha := B.lay.getAt 0 rfl
  obtain ⟨a1, ps1, ea1, hl1, hP1⟩ := h3.get (i := 0) rfl
  have N1 : Vbwbab.netOf (.loop y n) st go p = (⟨0, [st], [p]⟩ :: ((Vbwbab.netOf y p (p + 1) (p + 2)).1 ++ [⟨Vbwbab.no_ n, [p + 1], [p]⟩, ⟨Vbwbab.yes n, [p + 1], [go]⟩]), (Vbwbab.netOf y p (p + 1) (p + 2)).2) := rfl
  replace hlen : ms.length + (Vbwbab.netOf (.loop y n) st go p).1.length ≤ 100000 := hlen
  rw [N1] at hlen
  replace hQ : layDone K G a A ms (Vbwbab.netOf (.loop y n) st go p) Q := hQ
  rw [N1] at hQ
  simp only [List.length_cons, List.length_append, List.length_nil] at hlen
  refine ⟨_, rfl, a, _, _, rfl, ha, lm_Layer_new_places _ _ _, _, _, rfl, a, G, A, ms, p, 2, rfl, rfl, B, fun H1 B1 => ?_⟩
  refine ⟨_, rfl, a, _, _, rfl, B1.lay.getAt 0 rfl, lm_Layer_add_move _ _ _, _, rfl, (by show 1 ≤ sizeLine; decide), fun T1 n1 => ⟨_, rfl, (by show 1 ≤ sizeLine; decide), fun T2 n2 => ?_⟩⟩
  obtain ⟨G2, L2, g2, t1, t2⟩ := two_tups (xs := [.int st]) (ys := [.int p]) B1.lay n1 n2
  refine ⟨_, _, _, _, _, rfl, a, G2, A, ms, p + 2, "silent", 0, T1, T2, ⟨0, [st], [p]⟩, rfl, rfl, rfl, rfl, rfl, ⟨L2, B1.moves.mono g2⟩, t1, t2, .inl ⟨rfl, rfl, rfl⟩, by omega, fun H3 G3 A3 s3 k3 B3 => ?_⟩
  have sg3 := g2.trans s3
  refine ⟨_, rfl, a, _, _, rfl, B3.lay.getAt 0 rfl, lm_Layer_lay_body _ _ _, _, rfl, pa, _, _, _, _, rfl, B3.lay.same _ _ (sg3 _ _ h1), Z.cl_Part, Z.n_Part_bodies, lk_Part_bodies _ _ _ _, l, _, (0 : Nat), .ref a1, rfl, rfl, SqL.of (B3.lay.same _ _ (sg3 _ _ h2)), atI_nat (by rw [List.getElem?_map, ea1]; rfl), _, rfl, _, rfl, _, _, rfl, rfl,
    _, _, _, _, rfl, a, G3, A3, _, p + 2, k, bA, a1, y, p, p + 1, rfl, rfl, rfl, rfl, B3, k3 ▸ BF.mono sg3, ⟨b1, ps1, sg3 _ _ hl1, hP1.mono sg3 _ _, hy⟩, by simp only [List.length_append]; simp; omega, fun H5 G5 A5 s5 k5 B5 => ?_⟩
  have sg5 := sg3.trans s5
  have kk5 : A5.bk = A.bk := k5.trans k3
  refine ⟨_, rfl, a, _, _, rfl, B5.lay.getAt 0 rfl, lm_Layer_add_move _ _ _, _, rfl, pa, _, _, _, _, rfl, B5.lay.same _ _ (sg5 _ _ h1), Z.cl_Part, Z.n_Part_number, lk_Part_number _ _ _ _, _, rfl, _, _, rfl, rfl, (by show 1 ≤ sizeLine; decide), fun T3 n3 => ⟨_, rfl, (by show 1 ≤ sizeLine; decide), fun T4 n4 => ?_⟩⟩
  obtain ⟨G6, L6, g6, t3, t4⟩ := two_tups (xs := [.int ((p : Int) + 1)]) (ys := [.int p]) B5.lay n3 n4
  refine ⟨_, _, _, _, _, rfl, a, G6, A5, _, _, "no", n, T3, T4, ⟨Vbwbab.no_ n, [p + 1], [p]⟩, rfl, rfl, rfl, rfl, rfl, ⟨L6, B5.moves.mono g6⟩, t3, t4, .inr (.inr (.inr ⟨rfl, rfl⟩)), by simp only [List.length_append]; simp; omega, fun H7 G7 A7 s7 k7 B7 => ?_⟩
  have sg7 := (sg5.trans g6).trans s7
  have kk7 : A7.bk = A.bk := k7.trans kk5
  refine ⟨_, rfl, a, _, _, rfl, B7.lay.getAt 0 rfl, lm_Layer_add_move _ _ _, _, rfl, pa, _, _, _, _, rfl, B7.lay.same _ _ (sg7 _ _ h1), Z.cl_Part, Z.n_Part_number, lk_Part_number _ _ _ _, _, rfl, _, _, rfl, rfl, (by show 1 ≤ sizeLine; decide), fun T5 n5 => ⟨_, rfl, (by show 1 ≤ sizeLine; decide), fun T6 n6 => ?_⟩⟩
  obtain ⟨G8, L8, g8, t5, t6⟩ := two_tups (xs := [.int ((p : Int) + 1)]) (ys := [.int go]) B7.lay n5 n6
  refine ⟨_, _, _, _, _, rfl, a, G8, A7, _, _, "yes", n, T5, T6, ⟨Vbwbab.yes n, [p + 1], [go]⟩, rfl, rfl, rfl, rfl, rfl, ⟨L8, B7.moves.mono g8⟩, t5, t6, .inr (.inr (.inl ⟨rfl, rfl⟩)), by simp only [List.length_append]; simp; omega, fun H9 G9 A9 s9 k9 B9 => ?_⟩
  refine hQ H9 G9 A9 ((sg7.trans g8).trans s9) (k9.trans kk7) ?_
  simpa using B9
theorem BodsAt.unsnoc {C : Addr} {G : Hp} : ∀ {i : List (List T)} {as : List Addr} {b : List T}, BodsAt C G (i ++ [b]) as → ∃ is a ps, as = is ++ [a] ∧ BodsAt C G i is ∧ G a = some (.lst (ps.map V.ref)) ∧ PartsAt C G b ps
  | [], as, b, h => by
    replace h : BodsAt C G [b] as := h
    unfold BodsAt at h
    obtain ⟨a, as', ps, rfl, h1, h2, h3⟩ := h
    unfold BodsAt at h3
    subst h3
    exact ⟨[], a, ps, rfl, by unfold BodsAt; rfl, h1, h2⟩
  | c :: r, as, b, h => by
    replace h : BodsAt C G (c :: (r ++ [b])) as := h
    unfold BodsAt at h
    obtain ⟨a, as', ps, rfl, h1, h2, h3⟩ := h
    obtain ⟨is, a2, ps2, rfl, q1, q2, q3⟩ := BodsAt.unsnoc h3
    exact ⟨a :: is, a2, ps2, rfl, by unfold BodsAt; exact ⟨a, is, ps, rfl, h1, h2, q1⟩, q2, q3⟩
theorem ok_Layer_lay_both (Z : Tx w K mg) (r : Nat) (c_Layer_lay_body : Cal P w K mg base CX0 (r+4) (He.fAd K ("Layer", some "lay_body")) ["self", "body", "start", "goal"] (sp_Layer_lay_body K r)) (c_Layer_lay_both : Cal P w K mg base CX0 (r+4) (He.fAd K ("Layer", some "lay_both")) ["self", "bodies", "start", "goal"] (sp_Layer_lay_both K r)) : Cal P w K mg base CX0 (r+5) (He.fAd K ("Layer", some "lay_both")) ["self", "bodies", "start", "goal"] (sp_Layer_lay_both K (r + 1)) := by
  obtain ⟨fd, F⟩ := Z.fd_Layer_lay_both
  have c_Layer_new_places := ok_Layer_new_places (P := P) (w := w) (base := base) Z
  have c_Layer_add_move := ok_Layer_add_move (P := P) (w := w) (base := base) Z
  refine ⟨⟨fd, F.ok sc_Layer_lay_both (fun vs H Q E h => ?_) (fun cdv A outer s H vs Q E hr h => ?_), F.bindsN fun _ _ _ _ _ _ us hl => match us, hl with | [_, _, _, _], _ => rfl⟩, F.kp⟩
  · exact sp4_len h
  have sc := sc_Layer_lay_both
  have nd : N_Layer_lay_both.Nodup := sc.nd
  replace h := sp4_get h
  obtain ⟨v_self, v_bodies, v_start, v_goal, rfl, h⟩ := h
  refine ⟨_, PSs.nox (by exact ((pss_cons (ps_set (i := 4) nd rfl (by first | exact Or.inl rfl | exact Or.inr rfl) (pe_metC (E := E0) (pv 0) Z.cl_Layer Z.m_Layer_new_places c_Layer_new_places (hr.mono (by omega)) pass0 (pa_cons pe_int pa_nil)))
 (pss_cons (ps_expr (pe_metC (E := E0) (pv 0) Z.cl_Layer Z.m_Layer_add_move c_Layer_add_move (hr.mono (by omega)) pass0 (pa_cons pe_str (pa_cons pe_int (pa_cons (pe_tup (pa_cons (pv 2) pa_nil)) (pa_cons (pe_tup (pa_cons (pv 4) (pa_cons (pe_op op_add (pv 4) pe_int) pa_nil))) pa_nil))))))
 (C8.pss_cut (ps_if (pt_cmpR op_gt (pe_callB call_len_seq (by rfl) Z.b_len (by decide +kernel) (pa_cons (pv 1) pa_nil)) pe_int (nomark _)) (pss_one (ps_expr (pe_metC (E := E0) (pv 0) Z.cl_Layer Z.m_Layer_lay_both c_Layer_lay_both (hr.mono (by omega)) pass0 (pa_cons (pe_slice sl_list (pv 1) po_none (po_some (pe_un un_neg pe_int))) (pa_cons (pv 4) (pa_cons (pe_op op_add (pv 4) pe_int) pa_nil)))))) (pss_one (ps_expr (pe_metC (E := E0) (pv 0) Z.cl_Layer Z.m_Layer_lay_body c_Layer_lay_body (hr.mono (by omega)) pass0 (pa_cons (pe_ix ix_list (pv 1) pe_int (fun _ _ => rfl)) (pa_cons (pv 4) (pa_cons (pe_op op_add (pv 4) pe_int) pa_nil)))))))
 (pss_cons (ps_expr (pe_metC (E := E0) (pv 0) Z.cl_Layer Z.m_Layer_lay_body c_Layer_lay_body (hr.mono (by omega)) pass0 (pa_cons (pe_ix ix_list (pv 1) (pe_un un_neg pe_int) (fun _ _ => rfl)) (pa_cons (pe_op op_add (pv 4) pe_int) (pa_cons (pe_op op_add (pv 4) pe_int) pa_nil)))))
 (pss_one (ps_expr (pe_metC (E := E0) (pv 0) Z.cl_Layer Z.m_Layer_add_move c_Layer_add_move (hr.mono (by omega)) pass0 (pa_cons pe_str (pa_cons pe_int (pa_cons (pe_tup (pa_cons (pe_op op_add (pv 4) pe_int) (pa_cons (pe_op op_add (pv 4) pe_int) pa_nil))) (pa_cons (pe_tup (pa_cons (pv 3) pa_nil)) pa_nil))))))))))))), ?_⟩
  obtain ⟨a, G, A, ms, p, k, bA, l, x, st, go, rfl, rfl, rfl, rfl, B, BF, ⟨bs, as, hl, hB, hbl, i, lb, y, z, rfl, hi, hz, rfl⟩, hlen, hQ⟩ := h
  obtain ⟨is, la, psl, rfl, hIs, hla, hPl⟩ := hB.unsnoc
  have ha := B.lay.getAt 0 rfl
  have N1 : Vbwbab.netOf (.both y z) st go p = (⟨0, [st], [p, p + 1]⟩ :: ((Vbwbab.netOf y p (p + 2) (p + 4)).1 ++ ((Vbwbab.netOf z (p + 1) (p + 3) (Vbwbab.netOf y p (p + 2) (p + 4)).2).1 ++ [⟨0, [p + 2, p + 3], [go]⟩])), (Vbwbab.netOf z (p + 1) (p + 3) (Vbwbab.netOf y p (p + 2) (p + 4)).2).2) := rfl
  rw [N1] at hlen hQ
  simp only [List.length_cons, List.length_append, List.length_nil] at hlen
  refine ⟨_, rfl, a, _, _, rfl, ha, lm_Layer_new_places _ _ _, _, _, rfl, a, G, A, ms, p, 4, rfl, rfl, B, fun H1 B1 => ?_⟩
  refine ⟨_, rfl, a, _, _, rfl, B1.lay.getAt 0 rfl, lm_Layer_add_move _ _ _, _, rfl, (by show 1 ≤ sizeLine; decide), fun T1 n1 => ⟨_, rfl, _, rfl, _, _, rfl, rfl, (by show 2 ≤ sizeLine; decide), fun T2 n2 => ?_⟩⟩
  obtain ⟨G2, L2, g2, t1, t2⟩ := two_tups (xs := [.int st]) (ys := [.int p, .int ((p : Int) + 1)]) B1.lay n1 n2
  refine ⟨_, _, _, _, _, rfl, a, G2, A, ms, p + 4, "silent", 0, T1, T2, ⟨0, [st], [p, p + 1]⟩, rfl, rfl, rfl, rfl, rfl, ⟨L2, B1.moves.mono g2⟩, t1, t2, .inl ⟨rfl, rfl, rfl⟩, by omega, fun H3 G3 A3 s3 k3 B3 => ?_⟩
  have sg3 := g2.trans s3
  have hl3 := B3.lay.same _ _ (sg3 _ _ hl)
  have ll : ((is ++ [la]).map V.ref).length = (i ++ [lb]).length := by rw [List.length_map, List.length_append, List.length_append, hIs.len]; rfl
  have eS : V.ref la = V.ref la := rfl
  refine ⟨fun σ' H' => ∃ G4 A4, σ' = [some (.ref a), some (.ref l), some (.int st), some (.int go), some (.int p)] ∧ Same G G4 ∧ A4.bk = A.bk ∧ LayerAt K H' G4 a A4 ((ms ++ [⟨0, [st], [p, p + 1]⟩]) ++ (Vbwbab.netOf y p (p + 2) (p + 4)).1) (Vbwbab.netOf y p (p + 2) (p + 4)).2, ?_, ?_⟩
  rotate_left
  · rintro σ' H4 ⟨G4, A4, rfl, sg4, k4, B4⟩
    have hl4 := B4.lay.same _ _ (sg4 _ _ hl)
    refine ⟨_, rfl, a, _, _, rfl, B4.lay.getAt 0 rfl, lm_Layer_lay_body _ _ _, _, rfl, 1, rfl, l, _, (-1 : Int), .ref la, rfl, rfl, SqL.of hl4, by rw [List.map_append]; exact atI_last _ _, _, rfl, _, _, rfl, rfl, _, rfl, _, _, rfl, rfl,
      _, _, _, _, rfl, a, G4, A4, _, _, k, bA, la, z, p + 1, p + 3, rfl, rfl, rfl, rfl, B4, k4 ▸ BF.mono sg4, ⟨lb, psl, sg4 _ _ hla, hPl.mono sg4 _ _, hz⟩, by simp only [List.length_append]; simp; omega, fun H5 G5 A5 s5 k5 B5 => ?_⟩
    refine ⟨_, rfl, a, _, _, rfl, B5.lay.getAt 0 rfl, lm_Layer_add_move _ _ _, _, rfl, _, _, rfl, rfl, _, rfl, _, _, rfl, rfl, (by show 2 ≤ sizeLine; decide), fun T3 n3 => ⟨_, rfl, (by show 1 ≤ sizeLine; decide), fun T4 n4 => ?_⟩⟩
    obtain ⟨G6, L6, g6, t3, t4⟩ := two_tups (xs := [.int ((p : Int) + 2), .int ((p : Int) + 3)]) (ys := [.int go]) B5.lay n3 n4
    refine ⟨_, _, _, _, _, rfl, a, G6, A5, _, _, "silent", 0, T3, T4, ⟨0, [p + 2, p + 3], [go]⟩, rfl, rfl, rfl, rfl, rfl, ⟨L6, B5.moves.mono g6⟩, t3, t4, .inl ⟨rfl, rfl, rfl⟩, by simp only [List.length_append]; simp; omega, fun H7 G7 A7 s7 k7 B7 => ?_⟩
    refine hQ H7 G7 A7 (((sg4.trans s5).trans g6).trans s7) ((k7.trans k5).trans k4) ?_
    simpa using B7
  refine ⟨_, rfl, l, _, rfl, .inl (SqL.of hl3), _, _, rfl, rfl, _, rfl, if_intro (fun c => ?_) fun c => ?_⟩
  · have c' : 2 < (i ++ [lb]).length := by
      have := of_decide_eq_true c
      rw [ll] at this; omega
    have hy : (lays k r).both i y := by
      rcases hi with ⟨_, h⟩ | ⟨f, e, _⟩
      · exact h
      · rw [e] at c'; simp at c'
    refine ⟨_, rfl, a, _, _, rfl, B3.lay.getAt 0 rfl, lm_Layer_lay_both _ _ _, _, rfl, 1, rfl, (-1 : Int), rfl, l, _, rfl, SqL.of hl3, fun l2 hl2 => ?_⟩
    have eC : cutV ((is ++ [la]).map V.ref) none (some (-1)) = is.map V.ref := by rw [List.map_append]; exact cut_last _ _
    rw [eC]
    obtain ⟨L4, g4⟩ := (B3.lay.new (o := .lst (is.map V.ref)) hl2).fix
    have sg4 := sg3.trans g4
    exact ⟨_, rfl, _, rfl, _, _, rfl, rfl,
      _, _, _, _, rfl, a, _, A3, _, _, k, bA, l2, y, p, p + 2, rfl, rfl, rfl, rfl, ⟨L4, B3.moves.mono g4⟩, k3 ▸ BF.mono sg4, ⟨i, is, upd_same, hIs.mono sg4 _ _, hy⟩, by simp only [List.length_append]; simp; omega, fun H5 G5 A5 s5 k5 B5 => ⟨G5, A5, rfl, sg4.trans s5, k5.trans k3, B5⟩⟩
  · have c' : ¬ 2 < (i ++ [lb]).length := fun z => c (decide_eq_true (by rw [ll]; omega))
    obtain ⟨f, rfl, hf⟩ : ∃ f, i = [f] ∧ (lays k r).body f y := by
      rcases hi with ⟨h, _⟩ | h
      · exact absurd h c'
      · exact h
    obtain ⟨a1, ps1, ea1, hl1, hP1⟩ := hB.get (i := 0) rfl
    refine ⟨_, rfl, a, _, _, rfl, B3.lay.getAt 0 rfl, lm_Layer_lay_body _ _ _, _, rfl, l, _, (0 : Nat), .ref a1, rfl, rfl, SqL.of hl3, atI_nat (by rw [List.getElem?_map, ea1]; rfl), _, rfl, _, rfl, _, _, rfl, rfl,
      _, _, _, _, rfl, a, G3, A3, _, _, k, bA, a1, y, p, p + 2, rfl, rfl, rfl, rfl, B3, k3 ▸ BF.mono sg3, ⟨f, ps1, sg3 _ _ hl1, hP1.mono sg3 _ _, hf⟩, by simp only [List.length_append]; simp; omega, fun H5 G5 A5 s5 k5 B5 => ?_⟩
    exact ⟨G5, A5, rfl, sg3.trans s5, k5.trans k3, B5⟩
theorem cal_none {CX : CXT} {k : Nat} {x q : Str} {st : Stmt} {f : Addr} {fd : FuncData} {ps : List Str} {sp : Sp} (F : FnP K x q st f fd) (hb : Binds K fd ps []) (h : ∀ vs H Q E, ¬ sp vs H Q E) : Cal P w K mg base CX k f ps sp :=
  ⟨⟨fd, ⟨fun vs H Q E z => absurd z (h vs H Q E), fun _ _ _ _ _ _ vs Q E _ _ _ _ z => absurd z (h _ _ Q E)⟩, hb⟩, F.kp⟩
theorem no_lay {at_ : Bk → Hp → Addr → Bl → Prop} (h : ∀ k G l x, ¬ at_ k G l x) {v0 v1 v2 v3 : V} {H : Hp} {Q : VK} : ¬ spLay K at_ v0 v1 v2 v3 H Q := fun ⟨_, _, _, _, _, _, _, _, _, _, _, _, _, _, _, _, _, z, _⟩ => h _ _ _ _ z
/-- all layers' calls, by how deep they go -/
theorem lay_all (Z : Tx w K mg) : ∀ r : Nat,
    Cal P w K mg base CX0 (r + 4) (He.fAd K ("Layer", some "lay_body")) ["self", "body", "start", "goal"] (sp_Layer_lay_body K r) ∧
    Cal P w K mg base CX0 (r + 4) (He.fAd K ("Layer", some "lay_part")) ["self", "part", "start", "goal"] (sp_Layer_lay_part K r) ∧
    Cal P w K mg base CX0 (r + 4) (He.fAd K ("Layer", some "lay_if")) ["self", "part", "start", "goal"] (sp_Layer_lay_if K r) ∧
    Cal P w K mg base CX0 (r + 4) (He.fAd K ("Layer", some "lay_both")) ["self", "bodies", "start", "goal"] (sp_Layer_lay_both K r) ∧
    Cal P w K mg base CX0 (r + 4) (He.fAd K ("Layer", some "lay_again")) ["self", "part", "start", "goal"] (sp_Layer_lay_again K r)
  | 0 => by
    obtain ⟨f1, F1⟩ := Z.fd_Layer_lay_body
    obtain ⟨f2, F2⟩ := Z.fd_Layer_lay_part
    obtain ⟨f3, F3⟩ := Z.fd_Layer_lay_if
    obtain ⟨f4, F4⟩ := Z.fd_Layer_lay_both
    obtain ⟨f5, F5⟩ := Z.fd_Layer_lay_again
    refine ⟨cal_none F1 (F1.bindsN fun _ _ _ _ _ _ us hl => match us, hl with | [_, _, _, _], _ => rfl) ?_, cal_none F2 (F2.bindsN fun _ _ _ _ _ _ us hl => match us, hl with | [_, _, _, _], _ => rfl) ?_, cal_none F3 (F3.bindsN fun _ _ _ _ _ _ us hl => match us, hl with | [_, _, _, _], _ => rfl) ?_,
      cal_none F4 (F4.bindsN fun _ _ _ _ _ _ us hl => match us, hl with | [_, _, _, _], _ => rfl) ?_, cal_none F5 (F5.bindsN fun _ _ _ _ _ _ us hl => match us, hl with | [_, _, _, _], _ => rfl) ?_⟩
    · exact fun vs H Q E ⟨_, _, _, _, _, z⟩ => no_lay (fun k G l x ⟨b, as, _, _, h⟩ => h) z
    · exact fun vs H Q E ⟨_, _, _, _, _, z⟩ => no_lay (fun k G l x ⟨t, _, h⟩ => h) z
    · exact fun vs H Q E ⟨_, _, _, _, _, z⟩ => no_lay (fun k G l x ⟨t, _, h⟩ => h) z
    · exact fun vs H Q E ⟨_, _, _, _, _, z⟩ => no_lay (fun k G l x ⟨b, as, _, _, h⟩ => h) z
    · exact fun vs H Q E ⟨_, _, _, _, _, z⟩ => no_lay (fun k G l x ⟨t, _, h⟩ => h) z
  | r + 1 => by
    obtain ⟨c1, c2, c3, c4, c5⟩ := lay_all Z r
    exact ⟨ok_Layer_lay_body Z r c2, ok_Layer_lay_part Z r c1 c3 c4 c5, ok_Layer_lay_if Z r c1, ok_Layer_lay_both Z r c1 c4, ok_Layer_lay_again Z r c1⟩
def sp_Layer_init (K : PySem.W.Frag) : Sp := sp2 fun v v1 H Q _ => ∃ (p dx bk : Addr) (G : Hp), v = .ref p ∧ v1 = .ref bk ∧ Lay H G [(p, .ins (cL K) dx [])] ∧ ∀ (H' : Hp) (A : LA), A.bk = bk → LayerAt K H' G p A [] 2 → Q .non H'
theorem ok_Layer_init (Z : Tx w K mg) : Cal P w K mg base CX0 1 (He.fAd K ("Layer", some "__init__")) ["self", "book"] (sp_Layer_init K) := by
  obtain ⟨fd, F⟩ := Z.fd_Layer_init
  refine ⟨⟨fd, F.ok sc_Layer_init (fun vs H Q E h => ?_) (fun cdv A outer s H vs Q E hr h => ?_), F.bindsN fun _ _ _ _ _ _ us hl => match us, hl with | [_, _], _ => rfl⟩, F.kp⟩
  · exact sp2_len h
  have sc := sc_Layer_init
  have nd : N_Layer_init.Nodup := sc.nd
  replace h := sp2_get h
  obtain ⟨v_self, v_book, rfl, h⟩ := h
  refine ⟨_, PSs.nox (by exact ((pss_cons (ps_fld (pv 0) (pv 1) rfl)
 (pss_cons (ps_fld (pv 0) (pe_lst pa_nil) rfl)
 (pss_one (ps_fld (pv 0) pe_int rfl)))))), ?_⟩
  obtain ⟨p, dx, bk, G, rfl, rfl, L0, h⟩ := h
  have cl := Z.cl_Layer
  refine ⟨_, rfl, _, rfl, p, _, _, _, rfl, L0.getAt 0 rfl, cl, Z.n_Layer_book, small_of (m := 0) rfl, ?_⟩
  have L1 : Lay _ G _ := L0.updAt (o' := .ins (cL K) dx (putF "book" (.ref bk) [])) 0 rfl
  refine ⟨by decide, fun ml hml => ?_⟩
  have L2 : Lay _ G _ := L1.new (o := .lst []) hml
  refine ⟨_, rfl, p, _, _, _, rfl, L2.getAt 1 rfl, cl, Z.n_Layer_moves, small_of (m := 1) rfl, ?_⟩
  have L3 : Lay _ G _ := L2.updAt (o' := .ins (cL K) dx (putF "moves" (.ref ml) (putF "book" (.ref bk) []))) 1 rfl
  refine ⟨_, rfl, p, _, _, _, rfl, L3.getAt 1 rfl, cl, Z.n_Layer_places, small_of (m := 2) rfl, ?_⟩
  rw [mk_Layer]
  have L4 : Lay _ G _ := L3.updAt (o' := .ins (cL K) dx (F_Layer (.ref bk) (.ref ml) (.int 2))) 1 rfl
  exact h _ ⟨dx, ml, bk, []⟩ rfl ⟨L4.perm (List.Perm.swap _ _ []), rfl, fun i a m x => by simp at x⟩
/-- a recipe's net -/
def sp_net_of (K : PySem.W.Frag) (r : Nat) : Sp := sp2 fun v v1 H Q _ => ∃ (bk : Addr) (G : Hp) (bA : BA) (k : Bk) (i : Nat) (nm : List Nat) (u : T) (b : List T) (x : Bl), v = .ref bk ∧ v1 = .int i ∧ Same G H ∧ BookF K G bk bA k ∧ k.recs[i]? = some (nm, u) ∧ u.bodies[0]? = some b ∧ (lays k r).body b x ∧ (Vbwbab.netOf x 0 1 2).1.length ≤ 100000 ∧
  ∀ (H' : Hp) (a : Addr) (mas : List Addr), Same H H' → H' a = some (.lst (mas.map V.ref)) → MovesAt K H' mas (Vbwbab.compiled x).moves → Q (.ref a) H'
theorem ok_net_of (Z : Tx w K mg) (r : Nat) (c_Layer_lay_body : Cal P w K mg base CX0 (r+4) (He.fAd K ("Layer", some "lay_body")) ["self", "body", "start", "goal"] (sp_Layer_lay_body K r)) : Cal P w K mg base CX0 (r+5) (He.fAd K ("net_of", none)) ["book", "recipe"] (sp_net_of K r) := by
  obtain ⟨fd, F⟩ := Z.fd_net_of
  have c_Layer_init := ok_Layer_init (P := P) (w := w) (base := base) Z
  refine ⟨⟨fd, F.ok sc_net_of (fun vs H Q E h => ?_) (fun cdv A outer s H vs Q E hr h => ?_), F.bindsN fun _ _ _ _ _ _ us hl => match us, hl with | [_, _], _ => rfl⟩, F.kp⟩
  · exact sp2_len h
  have sc := sc_net_of
  have nd : N_net_of.Nodup := sc.nd
  replace h := sp2_get h
  obtain ⟨v_book, v_recipe, rfl, h⟩ := h
  refine ⟨_, PSs.nox (by exact ((pss_cons (ps_set (i := 2) nd rfl (by first | exact Or.inl rfl | exact Or.inr rfl) (pe_makC (E := E0) Z.mk_Layer c_Layer_init (hr.mono (by omega)) rfl Z.g_Layer pass0 (pa_cons (pv 0) pa_nil)))
 (pss_cons (ps_expr (pe_metC (E := E0) (pv 2) Z.cl_Layer Z.m_Layer_lay_body c_Layer_lay_body (hr.mono (by omega)) pass0 (pa_cons (pe_ix ix_list (pe_fld (pe_ix ix_list (pe_fld (pv 0) rfl) (pv 1) (fun _ _ => rfl)) rfl) pe_int (fun _ _ => rfl)) (pa_cons pe_int (pa_cons pe_int pa_nil)))))
 (pss_one (ps_ret (pe_fld (pv 2) rfl))))))), ?_⟩
  obtain ⟨bk, G, bA, k, i, nm, u, b, x, rfl, rfl, sG, BF, hr, hb, hx, hlen, hQ⟩ := h
  obtain ⟨ua, hua, hU⟩ := BF.parts.get (i := i) (t := u) (by rw [List.getElem?_map, hr]; rfl)
  obtain ⟨wu, nu, hu, bus⟩ := u
  unfold PartAt at hU
  obtain ⟨dxu, lu, asu, u1, u2, u3⟩ := hU
  obtain ⟨a0, ps, ha0, hl0, hP0⟩ := u3.get hb
  refine ⟨_, rfl, fun p dx np ndx ne => ?_⟩
  have B0 : Lay H H [] := ⟨Same.refl _, (fun _ h => by cases h), (fun _ h => by cases h), List.nodup_nil⟩
  have L1 := (B0.later (same_new (o := .own p) ndx)).new (k := p) (o := .ins (cL K) dx []) (by rw [upd_ne (Ne.symm ne)]; exact np)
  refine ⟨_, _, rfl, p, dx, bk, H, rfl, rfl, L1, fun H1 A ek B1 => ⟨rfl, ?_⟩⟩
  have BF1 := BF.mono sG
  have hB := B1.lay.same _ _ (BF1.obj (bk, _) (List.mem_cons_self ..))
  have hpl := B1.lay.same _ _ (BF1.obj (bA.pl, .lst (bA.pas.map V.ref)) (by simp [bms]))
  refine ⟨_, rfl, p, _, _, rfl, B1.lay.getAt 0 rfl, lm_Layer_lay_body _ _ _, _, rfl, bk, _, _, _, _, rfl, hB, Z.cl_Book, Z.n_Book_parts, lk_Book_parts _ _ _ _ _ _, _, rfl, bA.pl, _, (i : Nat), .ref ua, rfl, rfl, SqL.of hpl, atI_nat (by rw [List.getElem?_map, hua]; rfl), ?_⟩
  have e0 : [] ++ (Vbwbab.netOf x 0 1 2).1 = (Vbwbab.compiled x).moves := rfl
  exact ⟨ua, _, _, _, _, rfl, B1.lay.same _ _ (sG _ _ u1), Z.cl_Part, Z.n_Part_bodies, lk_Part_bodies _ _ _ _, lu, _, (0 : Nat), .ref a0, rfl, rfl, SqL.of (B1.lay.same _ _ (sG _ _ u2)), atI_nat (by rw [List.getElem?_map, ha0]; rfl),
    _, _, _, _, rfl, p, H, A, [], 2, k, bA, a0, x, 0, 1, rfl, rfl, rfl, rfl, B1, ek ▸ BF1, ⟨b, ps, sG _ _ hl0, hP0.mono sG _ _, hx⟩, by simpa using hlen, fun H2 G2 A2 s2 k2 B2 =>
    ⟨_, rfl, p, _, _, _, _, rfl, B2.lay.getAt 0 rfl, Z.cl_Layer, Z.n_Layer_moves, lk_Layer_moves _ _ _, hQ H2 A2.ml A2.mas (s2.trans B2.lay.same) (B2.lay.getAt 1 rfl) (B2.moves.mono B2.lay.same)⟩⟩
end
end Bw
end

section
set_option Elab.async false
set_option linter.all false
set_option maxRecDepth 100000
set_option maxHeartbeats 4000000
/-! The works' lines: forms. -/
namespace Bw
open PySem PySem.Spec PyProof.Rows L2 TL
/-- what a name stands for -/
inductive Wh where
  | recipe | step | condition | stuff | vessel | unit
  deriving DecidableEq
inductive Fm where
  | stuff | vessel | unit | claim | take | give | charge | pour | empty | turn | ship
  deriving DecidableEq
def Wh.s : Wh → String
  | .recipe => "recipe" | .step => "step" | .condition => "condition" | .stuff => "stuff" | .vessel => "vessel" | .unit => "unit"
def Fm.s : Fm → String
  | .stuff => "stuff" | .vessel => "vessel" | .unit => "unit" | .claim => "claim" | .take => "take" | .give => "give"
  | .charge => "charge" | .pour => "pour" | .empty => "empty" | .turn => "turn" | .ship => "ship"
def Fm.all : List Fm := [.stuff, .vessel, .unit, .claim, .take, .give, .charge, .pour, .empty, .turn, .ship]
def Fm.names : Fm → List Wh
  | .stuff => [.stuff] | .vessel => [.vessel] | .unit => [.unit] | .claim => [.recipe, .unit] | .take => [.step, .unit] | .give => [.step, .unit]
  | .charge => [.step, .vessel, .stuff] | .pour => [.step, .vessel, .vessel] | .empty => [.step, .vessel, .vessel] | .turn => [.step, .vessel, .stuff, .stuff] | .ship => [.step, .vessel]
def Fm.nums : Fm → List Nat
  | .stuff => [] | .vessel => [1000000] | .unit => [99] | .claim => [99] | .take => [99] | .give => [99]
  | .charge => [1000000] | .pour => [1000000] | .empty => [] | .turn => [1000, 1000] | .ship => []
def fmOf (w : List Nat) : Option Fm := Fm.all.find? fun f => decide (kw f.s = w)
theorem fm_mem (f : Fm) : f ∈ Fm.all := by cases f <;> decide
theorem fmOf_some {w : List Nat} {f : Fm} (h : fmOf w = some f) : w = kw f.s := by
  have := List.find?_some h
  exact (of_decide_eq_true this).symm
theorem fm_inj : ∀ {f g : Fm}, kw f.s = kw g.s → f = g := by
  intro f g
  cases f <;> cases g <;> first | (intro _; rfl) | (intro h; exact absurd h (by decide +kernel))
theorem fmOf_kw (f : Fm) : fmOf (kw f.s) = some f := by
  cases e : fmOf (kw f.s) with
  | none => exact absurd (decide_eq_true rfl) (List.find?_eq_none.mp e f (fm_mem f))
  | some g => rw [fm_inj (fmOf_some e)]
theorem fmOf_none {w : List Nat} (h : fmOf w = none) (f : Fm) : w ≠ kw f.s := fun z => by rw [z, fmOf_kw] at h; cases h
theorem kwS (s : String) : S (kw s) = Str.ofString s := (kw_S s).symm
def wv (w : List Nat) : V := .str (S w)
def whv (x : Wh) : V := .str x.s
/-- numbers' text, read -/
def val (w : List Nat) : Nat := (Vbwbab.numOf w).getD 0
def formed (ws : List (List Nat)) : Bool := match ws with
  | [] => false
  | k :: r => match fmOf k with
    | none => false
    | some f => decide (r.length = f.names.length + f.nums.length) && ((r.take f.names.length).all Vbwbab.isName && (((r.drop f.names.length).zip f.nums).all (fun x => numB 1 x.2 x.1) && (decide (f ≠ .turn) || decide (val ((r.drop f.names.length).getD 0 []) ≤ val ((r.drop f.names.length).getD 1 [])))))
section
variable {P : Program} {w : World} {K : PySem.W.Frag} {mg : Str → Option Value} {base : Heap}
theorem names_at (Z : Tx w K mg) (f : Fm) : KDct K w (He.ga K "NAMES") (Str.ofString f.s) (.ref (kdv K "NAMES" f.s)) ∧ ∀ H, SqT K H (kdv K "NAMES" f.s) (f.names.map whv) := by
  have tb := Z.d_NAMES.2.1
  constructor
  · refine tb (Str.ofString f.s, _) ?_
    cases f <;> (unfold Fm.s; simp)
  · cases f
    · exact Z.t_NAMES_stuff
    · exact Z.t_NAMES_vessel
    · exact Z.t_NAMES_unit
    · exact Z.t_NAMES_claim
    · exact Z.t_NAMES_take
    · exact Z.t_NAMES_give
    · exact Z.t_NAMES_charge
    · exact Z.t_NAMES_pour
    · exact Z.t_NAMES_empty
    · exact Z.t_NAMES_turn
    · exact Z.t_NAMES_ship
theorem nums_at (Z : Tx w K mg) (f : Fm) : KDct K w (He.ga K "NUMBERS") (Str.ofString f.s) (.ref (kdv K "NUMBERS" f.s)) ∧ ∀ H, SqT K H (kdv K "NUMBERS" f.s) (f.nums.map natV) := by
  have tb := Z.d_NUMBERS.2.1
  constructor
  · refine tb (Str.ofString f.s, _) ?_
    cases f <;> (unfold Fm.s; simp)
  · cases f
    · exact Z.t_NUMBERS_stuff
    · exact Z.t_NUMBERS_vessel
    · exact Z.t_NUMBERS_unit
    · exact Z.t_NUMBERS_claim
    · exact Z.t_NUMBERS_take
    · exact Z.t_NUMBERS_give
    · exact Z.t_NUMBERS_charge
    · exact Z.t_NUMBERS_pour
    · exact Z.t_NUMBERS_empty
    · exact Z.t_NUMBERS_turn
    · exact Z.t_NUMBERS_ship
theorem in_names (Z : Tx w K mg) (z : List Nat) : ∃ r, PySem.W.nsIn K (He.ga K "NAMES") (S z) = some r ∧ r.isSome = (fmOf z).isSome := by
  obtain ⟨r, h1, h2⟩ := WD.ns Z.d_NAMES (S z)
  refine ⟨r, h1, ?_⟩
  rw [h2]
  cases e : fmOf z with
  | some f =>
    have hz := fmOf_some e
    subst hz
    rw [kwS]
    simp only [List.map_cons, List.map_nil]
    cases f <;> decide +kernel
  | none =>
    refine Bool.eq_false_iff.mpr fun hm => ?_
    have hm := List.contains_iff_mem.mp hm
    have : ∃ f : Fm, S z = Str.ofString f.s := by
      simp only [List.map_cons, List.map_nil, List.mem_cons, List.not_mem_nil, or_false] at hm
      rcases hm with h | h | h | h | h | h | h | h | h | h | h
      · exact ⟨.stuff, h⟩
      · exact ⟨.vessel, h⟩
      · exact ⟨.unit, h⟩
      · exact ⟨.claim, h⟩
      · exact ⟨.take, h⟩
      · exact ⟨.give, h⟩
      · exact ⟨.charge, h⟩
      · exact ⟨.pour, h⟩
      · exact ⟨.empty, h⟩
      · exact ⟨.turn, h⟩
      · exact ⟨.ship, h⟩
    obtain ⟨f, hf⟩ := this
    exact fmOf_none e f (S_inj (hf.trans (kwS f.s).symm))
def sp_names_in (K : PySem.W.Frag) : Sp := sp1 fun v H Q _ => ∃ (a : Addr) (f : Fm) (r : List (List Nat)), v = .ref a ∧ H a = some (.lst ((kw f.s :: r).map wv)) ∧ ∀ p, H p = none → Q (.ref p) (upd H p (.lst ((r.take f.names.length).map wv)))
theorem ok_names_in (Z : Tx w K mg) : Cal P w K mg base CX0 1 (He.fAd K ("names_in", none)) ["words"] (sp_names_in K) := by
  obtain ⟨fd, F⟩ := Z.fd_names_in
  refine ⟨⟨fd, F.ok sc_names_in (fun vs H Q E h => ?_) (fun cdv A outer s H vs Q E hr h => ?_), F.bindsN fun _ _ _ _ _ _ us hl => match us, hl with | [_], _ => rfl⟩, F.kp⟩
  · exact sp1_len h
  have sc := sc_names_in
  have nd : N_names_in.Nodup := sc.nd
  replace h := sp1_get h
  obtain ⟨v_words, rfl, h⟩ := h
  refine ⟨_, PSs.nox (by exact ((pss_one (ps_ret (pe_slice sl_list (pv 0) (po_some pe_int) (po_some (pe_op op_add pe_int (pe_callB call_len_seq (by rfl) Z.b_len (by decide +kernel) (pa_cons (pe_ix ix_kdict (pe_glob rfl Z.g_NAMES (v := .ref _) rfl) (pe_ix ix_list (pv 0) pe_int (fun _ _ => rfl)) (fun _ _ => rfl)) pa_nil))))))))), ?_⟩
  obtain ⟨a, f, r, rfl, ha, h⟩ := h
  obtain ⟨n1, n2⟩ := names_at Z f
  refine ⟨_, rfl, _, rfl, _, rfl, a, _, (0 : Nat), wv (kw f.s), rfl, rfl, SqL.of ha, atI_nat rfl, _, _, _, rfl, (by unfold wv; rw [kwS]), n1, _, _, rfl, .inr (n2 H), _, _, rfl, rfl, _, rfl, a, _, rfl, SqL.of ha, fun p hp => ?_⟩
  have e : cutV ((kw f.s :: r).map wv) (some 1) (some (1 + ((f.names.map whv).length : Nat))) = (r.take f.names.length).map wv := by
    have := cut_fromto ((kw f.s :: r).map wv) 1 (1 + f.names.length)
    rw [List.length_map]
    refine this.trans ?_
    rw [List.map_cons, List.drop_succ_cons, List.drop_zero, Nat.add_sub_cancel_left, List.map_take]
  rw [e]
  exact h p hp
def sp_numbers_in (K : PySem.W.Frag) : Sp := sp1 fun v H Q _ => ∃ (a : Addr) (f : Fm) (r : List (List Nat)), v = .ref a ∧ H a = some (.lst ((kw f.s :: r).map wv)) ∧ ∀ p, H p = none → Q (.ref p) (upd H p (.lst ((r.drop f.names.length).map wv)))
theorem ok_numbers_in (Z : Tx w K mg) : Cal P w K mg base CX0 1 (He.fAd K ("numbers_in", none)) ["words"] (sp_numbers_in K) := by
  obtain ⟨fd, F⟩ := Z.fd_numbers_in
  refine ⟨⟨fd, F.ok sc_numbers_in (fun vs H Q E h => ?_) (fun cdv A outer s H vs Q E hr h => ?_), F.bindsN fun _ _ _ _ _ _ us hl => match us, hl with | [_], _ => rfl⟩, F.kp⟩
  · exact sp1_len h
  have sc := sc_numbers_in
  have nd : N_numbers_in.Nodup := sc.nd
  replace h := sp1_get h
  obtain ⟨v_words, rfl, h⟩ := h
  refine ⟨_, PSs.nox (by exact ((pss_one (ps_ret (pe_slice sl_list (pv 0) (po_some (pe_op op_add pe_int (pe_callB call_len_seq (by rfl) Z.b_len (by decide +kernel) (pa_cons (pe_ix ix_kdict (pe_glob rfl Z.g_NAMES (v := .ref _) rfl) (pe_ix ix_list (pv 0) pe_int (fun _ _ => rfl)) (fun _ _ => rfl)) pa_nil)))) po_none))))), ?_⟩
  obtain ⟨a, f, r, rfl, ha, h⟩ := h
  obtain ⟨n1, n2⟩ := names_at Z f
  refine ⟨_, rfl, _, rfl, a, _, (0 : Nat), wv (kw f.s), rfl, rfl, SqL.of ha, atI_nat rfl, _, _, _, rfl, (by unfold wv; rw [kwS]), n1, _, _, rfl, .inr (n2 H), _, _, rfl, rfl, _, rfl, a, _, rfl, SqL.of ha, fun p hp => ?_⟩
  have e : cutV ((kw f.s :: r).map wv) (some (1 + ((f.names.map whv).length : Nat))) none = (r.drop f.names.length).map wv := by
    have := cut_from ((kw f.s :: r).map wv) (1 + f.names.length)
    rw [List.length_map]
    refine this.trans ?_
    rw [List.map_cons, Nat.add_comm, List.drop_succ_cons, List.map_drop]
  rw [e]
  exact h p hp
def sp_is_formed (K : PySem.W.Frag) : Sp := sp1 fun v H Q _ => ∃ (a : Addr) (ws : List (List Nat)), v = .ref a ∧ H a = some (.lst (ws.map wv)) ∧ ws ≠ [] ∧ ws.length ≤ 100000 ∧ (∀ x ∈ ws, x ≠ [] ∧ x.length ≤ 100000) ∧ ∀ H', Same H H' → Q (.bl (formed ws)) H'
theorem ok_is_formed (Z : Tx w K mg) : Cal P w K mg base CX0 3 (He.fAd K ("is_formed", none)) ["words"] (sp_is_formed K) := by
  obtain ⟨fd, F⟩ := Z.fd_is_formed
  have c_names_in := ok_names_in (P := P) (w := w) (base := base) Z
  have c_is_name := ok_is_name (P := P) (w := w) (base := base) Z
  have c_numbers_in := ok_numbers_in (P := P) (w := w) (base := base) Z
  have c_is_number := ok_is_number (P := P) (w := w) (base := base) Z
  refine ⟨⟨fd, F.ok sc_is_formed (fun vs H Q E h => ?_) (fun cdv A outer s H vs Q E hr h => ?_), F.bindsN fun _ _ _ _ _ _ us hl => match us, hl with | [_], _ => rfl⟩, F.kp⟩
  · exact sp1_len h
  have sc := sc_is_formed
  have nd : N_is_formed.Nodup := sc.nd
  replace h := sp1_get h
  obtain ⟨v_words, rfl, h⟩ := h
  refine ⟨_, PSs.nox (by exact ((pss_cons (ps_if (pt_cmpR (op_notIn_wd Z.d_NAMES.1) (pe_ix ix_list (pv 0) pe_int (fun _ _ => rfl)) (pe_glob rfl Z.g_NAMES (v := .ref _) rfl) rfl) (pss_one (ps_ret pe_bl)) pss_nil)
 (pss_cons (ps_if (pt_cmpR op_ne (pe_callB call_len_seq (by rfl) Z.b_len (by decide +kernel) (pa_cons (pv 0) pa_nil)) (pe_op op_add (pe_op op_add pe_int (pe_callB call_len_seq (by rfl) Z.b_len (by decide +kernel) (pa_cons (pe_ix ix_kdict (pe_glob rfl Z.g_NAMES (v := .ref _) rfl) (pe_ix ix_list (pv 0) pe_int (fun _ _ => rfl)) (fun _ _ => rfl)) pa_nil))) (pe_callB call_len_seq (by rfl) Z.b_len (by decide +kernel) (pa_cons (pe_ix ix_kdict (pe_glob rfl Z.g_NUMBERS (v := .ref _) rfl) (pe_ix ix_list (pv 0) pe_int (fun _ _ => rfl)) (fun _ _ => rfl)) pa_nil))) (nomark _)) (pss_one (ps_ret pe_bl)) pss_nil)
 (pss_cons (ps_if (pt_not (pt_val (pe_callB (cr_all rfl) (by rfl) Z.b_all (by decide +kernel) (pa_cons (pe_lc (own := [("name", 2)]) (g := (gName 2)) rfl nd (pi_list (pe_calC (E := E0) c_names_in (hr.mono (by decide)) rfl Z.g_names_in pass0 (pa_cons (pv 0) pa_nil))) (blkOk_by (own := [("name", 2)]) (N := N_is_formed) (sc := defScope s_is_formed) (by decide +kernel)) (fun _ _ _ _ _ => (pg_name (i := 2) nd rfl (by first | exact Or.inl rfl | exact Or.inr rfl))) (fun _ _ _ _ _ => pts_nil) (fun _ _ _ _ _ => (pe_calC (E := E0) c_is_name (hr.mono (by decide)) rfl Z.g_is_name pass0 (pa_cons (pv 2) pa_nil)))) pa_nil)))) (pss_one (ps_ret pe_bl)) pss_nil)
 (pss_cons (ps_set (i := 1) nd rfl (by first | exact Or.inl rfl | exact Or.inr rfl) (pe_calC (E := E0) c_numbers_in (hr.mono (by decide)) rfl Z.g_numbers_in pass0 (pa_cons (pv 0) pa_nil)))
 (pss_cons (ps_if (pt_not (pt_val (pe_callB (cr_all rfl) (by rfl) Z.b_all (by decide +kernel) (pa_cons (pe_lc (own := [("number", 3), ("most", 4)]) (g := (gTup K 2 (gCons (gName 3) (gCons (gName 4) gNil)))) rfl nd (pi_zipX false true (K := K) rfl (by rfl) Z.b_zip (pa_cons (pv 1) (pa_cons (pe_ix ix_kdict (pe_glob rfl Z.g_NUMBERS (v := .ref _) rfl) (pe_ix ix_list (pv 0) pe_int (fun _ _ => rfl)) (fun _ _ => rfl)) pa_nil))) (blkOk_by (own := [("number", 3), ("most", 4)]) (N := N_is_formed) (sc := defScope s_is_formed) (by decide +kernel)) (fun _ _ _ _ _ => (pg_tupK (K := K) rfl rfl (pgs_cons (pg_name (i := 3) nd rfl (by first | exact Or.inl rfl | exact Or.inr rfl)) (pgs_cons (pg_name (i := 4) nd rfl (by first | exact Or.inl rfl | exact Or.inr rfl)) pgs_nil)))) (fun _ _ _ _ _ => pts_nil) (fun _ _ _ _ _ => (pe_calC (E := E0) c_is_number (hr.mono (by decide)) rfl Z.g_is_number pass0 (pa_cons (pv 3) (pa_cons pe_int (pa_cons (pv 4) pa_nil)))))) pa_nil)))) (pss_one (ps_ret pe_bl)) pss_nil)
 (pss_one (ps_ret (pe_or (pe_cmpR op_ne (pe_ix ix_list (pv 0) pe_int (fun _ _ => rfl)) pe_str (nomark _)) (pe_one (pe_cmpR op_le (pe_callTy call_int_str (by rfl) Z.b_int (by decide +kernel) (pa_cons (pe_ix ix_list (pv 1) pe_int (fun _ _ => rfl)) pa_nil)) (pe_callTy call_int_str (by rfl) Z.b_int (by decide +kernel) (pa_cons (pe_ix ix_list (pv 1) pe_int (fun _ _ => rfl)) pa_nil)) (nomark _))))))))))))), ?_⟩
  obtain ⟨a, ws, rfl, ha, hne, hl, hx, h⟩ := h
  obtain ⟨k, r, rfl⟩ : ∃ k r, ws = k :: r := by
    cases ws with
    | nil => exact absurd rfl hne
    | cons k r => exact ⟨k, r, rfl⟩
  have fin : ∀ {b : Bool}, b = formed (k :: r) → ∀ H', Same H H' → Q (.bl b) H' := fun e H' s' => e ▸ h H' s'
  obtain ⟨rr, hns, hrr⟩ := in_names Z k
  refine ⟨_, rfl, a, _, (0 : Nat), wv k, rfl, rfl, SqL.of ha, atI_nat rfl, _, _, rfl, rfl, hns, _, rfl, if_intro (fun c => ?_) fun c => ?_⟩
  · refine fin ?_ H (Same.refl H)
    unfold formed
    cases e : fmOf k with
    | none => simp only [e]
    | some f => rw [hrr, e] at c; cases c
  obtain ⟨f, hf⟩ : ∃ f, fmOf k = some f := by
    cases e : fmOf k with
    | none => rw [hrr, e] at c; exact absurd rfl c
    | some f => exact ⟨f, rfl⟩
  obtain rfl := fmOf_some hf
  obtain ⟨n1, n2⟩ := names_at Z f
  obtain ⟨m1, m2⟩ := nums_at Z f
  have eF : formed (kw f.s :: r) = (decide (r.length = f.names.length + f.nums.length) && ((r.take f.names.length).all Vbwbab.isName && (((r.drop f.names.length).zip f.nums).all (fun x => numB 1 x.2 x.1) && (decide (f ≠ .turn) || decide (val ((r.drop f.names.length).getD 0 []) ≤ val ((r.drop f.names.length).getD 1 [])))))) := by
    unfold formed; simp only [hf]
  have hr1 : ∀ x ∈ r, x ≠ [] ∧ x.length ≤ 100000 := fun x m => hx x (List.mem_cons_of_mem _ m)
  refine ⟨_, rfl, a, _, rfl, .inl (SqL.of ha), _, rfl, a, _, (0 : Nat), wv (kw f.s), rfl, rfl, SqL.of ha, atI_nat rfl, _, _, _, rfl, (by unfold wv; rw [kwS]), n1, _, _, rfl, .inr (n2 H), _, _, rfl, rfl,
    _, rfl, a, _, (0 : Nat), wv (kw f.s), rfl, rfl, SqL.of ha, atI_nat rfl, _, _, _, rfl, (by unfold wv; rw [kwS]), m1, _, _, rfl, .inr (m2 H), _, _, rfl, rfl, rfl, _, rfl, if_intro (fun c2 => ?_) fun c2 => ?_⟩
  · refine fin ?_ H (Same.refl H)
    rw [eF]
    have : ¬ r.length = f.names.length + f.nums.length := fun z => by
      simp [z] at c2; omega
    rw [decide_eq_false this, Bool.false_and]
  have c3 : r.length = f.names.length + f.nums.length := by
    simp at c2; omega
  rw [c3] at eF
  simp only [decide_true, Bool.true_and] at eF
  refine ⟨_, rfl, _, rfl, a, f, r, rfl, ha, fun nl hnl => ⟨nl, rfl, ⟨_, SqL.of upd_same⟩, fun D hD => lc_fn walk_list (fun i => .bl (((r.take f.names.length)[i]?.map Vbwbab.isName).getD false)) hD (fun H2 s2 => s2.seq (SqL.of upd_same)) (by rw [List.length_map, List.length_take]; exact line_lt (by simp at hl; omega)) ?_ ?_⟩⟩
  · rintro i x H2 H3 R hi s2 ⟨rfl, hx2⟩ k
    refine ⟨rfl, ?_⟩
    rw [List.length_map] at hi
    have hg : (r.take f.names.length)[i]? = some (r.take f.names.length)[i] := List.getElem?_eq_getElem hi
    rw [List.getElem?_map, hg] at hx2
    cases hx2
    have hm : (r.take f.names.length)[i] ∈ r := List.mem_of_mem_take (List.getElem_mem hi)
    refine ⟨_, rfl, _, rfl, (r.take f.names.length)[i], rfl, (hr1 _ hm).1, (hr1 _ hm).2, fun H4 s4 => ?_⟩
    have k1 := k H4 s4
    rw [hg] at k1
    exact k1
  intro H2 s2 hD2
  have s2' := (same_new (o := .lst ((r.take f.names.length).map wv)) hnl).trans s2
  have ea : (r.take f.names.length).all Vbwbab.isName = ((r.take f.names.length).map Vbwbab.isName).all id := by rw [List.all_map]; rfl
  refine ⟨D, (r.take f.names.length).map Vbwbab.isName, rfl, SqL.of ?_, ?_⟩
  · rw [hD2, List.map_map]
    congr 2
    rw [List.length_map]
    exact range_list (r.take f.names.length) _ _ fun i x hx => by rw [hx]; rfl
  rw [← ea]
  refine ⟨_, rfl, if_intro (fun c4 => ?_) fun c4 => ?_⟩
  · refine fin ?_ H2 s2'
    rw [eF]
    have : (r.take f.names.length).all Vbwbab.isName = false := by simpa using c4
    rw [this, Bool.false_and]
  have c4' : (r.take f.names.length).all Vbwbab.isName = true := by simpa using c4
  rw [c4', Bool.true_and] at eF
  have ha2 := s2' _ _ ha
  refine ⟨_, rfl, _, rfl, a, f, r, rfl, ha2, fun nl2 hnl2 => ?_⟩
  have s3 := s2'.trans (same_new (o := .lst ((r.drop f.names.length).map wv)) hnl2)
  have ha3 := s3 _ _ ha
  have ld : (r.drop f.names.length).length = f.nums.length := by rw [List.length_drop]; omega
  have lf : f.nums.length ≤ 2 := by cases f <;> decide
  refine ⟨_, rfl, _, rfl, a, _, (0 : Nat), wv (kw f.s), rfl, rfl, SqL.of ha3, atI_nat rfl, _, _, _, rfl, (by unfold wv; rw [kwS]), m1, nl2, _, _, _, rfl, SqL.of upd_same, m2 _, fun D2 hD2' => lc_fn (walk_zipX (t := false) (u := true) (n := f.nums.length) (by simp; omega)) (fun i => .bl ((((r.drop f.names.length).zip f.nums)[i]?.map (fun x => numB 1 x.2 x.1)).getD false)) hD2' (fun H4 s4 => ⟨s4.seq (SqL.of upd_same), m2 _⟩) (line_lt (by omega)) ?_ ?_⟩
  · rintro i x H4 H5 R hi s4 ⟨T, e1, e2, rfl, nT, rfl, he1, he2⟩ k
    have h1 : (r.drop f.names.length)[i]? = some ((r.drop f.names.length)[i]'(by omega)) := List.getElem?_eq_getElem (by omega)
    have h2 : f.nums[i]? = some (f.nums[i]'(by omega)) := List.getElem?_eq_getElem (by omega)
    have hm : (r.drop f.names.length)[i]'(by omega) ∈ r := List.mem_of_mem_drop (List.getElem_mem _)
    generalize (r.drop f.names.length)[i]'(by omega) = nb at h1 hm
    generalize f.nums[i]'(by omega) = mx at h2
    replace he1 : ((r.drop f.names.length).map wv)[i]? = some e1 := he1
    replace he2 : (f.nums.map natV)[i]? = some e2 := he2
    rw [List.getElem?_map, h1] at he1
    rw [List.getElem?_map, h2] at he2
    cases he1
    cases he2
    have hz : ((r.drop f.names.length).zip f.nums)[i]? = some (nb, mx) := by rw [List.getElem?_zip_eq_some]; exact ⟨h1, h2⟩
    refine ⟨T, _, rfl, .inl (.inl upd_same), rfl, _, _, rfl, _, _, rfl, rfl, ?_⟩
    refine ⟨rfl, _, rfl, _, rfl, _, _, _, rfl, nb, 1, mx, rfl, rfl, rfl, (hr1 _ hm).1, (hr1 _ hm).2, fun H6 s6 => ?_⟩
    have k1 := k H6 ((same_new nT).trans s6)
    rw [hz] at k1
    exact k1
  intro H4 s4 hD4
  have s4' := s3.trans s4
  have ez : ((r.drop f.names.length).zip f.nums).all (fun x => numB 1 x.2 x.1) = (((r.drop f.names.length).zip f.nums).map (fun x => numB 1 x.2 x.1)).all id := by rw [List.all_map]; rfl
  have lz : ((r.drop f.names.length).zip f.nums).length = f.nums.length := by rw [List.length_zip]; omega
  refine ⟨D2, ((r.drop f.names.length).zip f.nums).map (fun x => numB 1 x.2 x.1), rfl, SqL.of ?_, ?_⟩
  · rw [hD4, List.map_map]
    congr 2
    rw [← lz]
    exact range_list ((r.drop f.names.length).zip f.nums) _ _ fun i x hx => by rw [hx]; rfl
  rw [← ez]
  refine ⟨_, rfl, if_intro (fun c5 => ?_) fun c5 => ?_⟩
  · refine fin ?_ H4 s4'
    rw [eF]
    have : ((r.drop f.names.length).zip f.nums).all (fun x => numB 1 x.2 x.1) = false := by simpa using c5
    rw [this, Bool.false_and]
  have c5' : ((r.drop f.names.length).zip f.nums).all (fun x => numB 1 x.2 x.1) = true := by simpa using c5
  rw [c5', Bool.true_and] at eF
  have ha4 := s4' _ _ ha
  have hn4 : H4 nl2 = some (.lst ((r.drop f.names.length).map wv)) := s4 _ _ upd_same
  refine ⟨_, rfl, a, _, (0 : Nat), wv (kw f.s), rfl, rfl, SqL.of ha4, atI_nat rfl, rfl, _, rfl, if_intro (fun c6 => fin ?_ H4 s4') fun c6 => ?_⟩
  · have : f ≠ .turn := fun z => by
      subst z
      unfold wv at c6
      rw [kwS] at c6
      simp [Fm.s] at c6
    rw [eF, decide_eq_true this, Bool.true_or]
  have ef : f = .turn := by
    have h1 : wv (kw f.s) = V.str (Str.ofString "turn") := by simpa using c6
    have h2 : S (kw f.s) = S (kw "turn") := (V.str.inj h1).trans (kwS "turn").symm
    exact fm_inj (g := .turn) (S_inj h2)
  subst ef
  obtain ⟨x, y, exy⟩ : ∃ x y, r.drop Fm.turn.names.length = [x, y] := by
    have l2 : (r.drop Fm.turn.names.length).length = 2 := ld
    match h : r.drop Fm.turn.names.length, l2 with
    | [x, y], _ => exact ⟨x, y, rfl⟩
  rw [exy] at c5' eF hn4
  have hxy : numB 1 1000 x = true ∧ numB 1 1000 y = true := by simpa [Fm.nums] using c5'
  obtain ⟨nx, ex, _, _⟩ := numB_true hxy.1
  obtain ⟨ny, ey, _, _⟩ := numB_true hxy.2
  obtain ⟨tx, lx⟩ := num_text ex
  obtain ⟨ty, ly⟩ := num_text ey
  refine ⟨_, rfl, nl2, _, (0 : Nat), wv x, rfl, rfl, SqL.of hn4, atI_nat rfl, S x, nx, rfl, tx, by rw [len_S]; omega, _, rfl, nl2, _, (1 : Nat), wv y, rfl, rfl, SqL.of hn4, atI_nat rfl, S y, ny, rfl, ty, by rw [len_S]; omega, _, _, rfl, rfl, fin ?_ H4 s4'⟩
  rw [eF]
  have vx : val x = nx := by unfold val; rw [ex]; rfl
  have vy : val y = ny := by unfold val; rw [ey]; rfl
  simp [vx, vy]
end
end Bw
end

section
set_option Elab.async false
set_option linter.all false
set_option maxRecDepth 100000
set_option maxHeartbeats 4000000
/-! The works' lines: the plant. -/
namespace Bw
open PySem PySem.Spec PyProof.Rows L2 TL
/-- the groups of lines as they are shown -/
inductive Lg where
  | stuff | vessel | unit | claim | take | give | doing
  deriving DecidableEq
def Lg.s : Lg → String
  | .stuff => "stuff" | .vessel => "vessel" | .unit => "unit" | .claim => "claim" | .take => "take" | .give => "give" | .doing => "doing"
/-- what is known of the works -/
structure PS where
  bk : Bk
  stuffs : List (List Nat)
  vessels : List (List Nat × Nat)
  units : List (List Nat × Nat)
  claims : List (Nat × Nat × Nat)
  takes : List (Nat × Nat × Nat)
  gives : List (Nat × Nat × Nat)
  doings : List (Nat × Vbwbzz.Doing)
  ln : Lg → List (List Nat)
def PS.bare (k : Bk) : PS := ⟨k, [], [], [], [], [], [], [], fun _ => []⟩
def PS.told (p : PS) : Wh → List (List Nat)
  | .recipe => p.bk.names
  | .step => p.bk.snames
  | .condition => p.bk.conds
  | .stuff => p.stuffs
  | .vessel => p.vessels.map (·.1)
  | .unit => p.units.map (·.1)
def PS.addLn (p : PS) (x : Lg) (t : List Nat) : PS := { p with ln := fun y => if y = x then p.ln y ++ [t] else p.ln y }
def Fm.lg : Fm → Lg
  | .stuff => .stuff | .vessel => .vessel | .unit => .unit | .claim => .claim | .take => .take | .give => .give | _ => .doing
def doingOf (is xs : List Nat) : Fm → Vbwbzz.Doing
  | .charge => .charge (is.getD 1 0) (is.getD 2 0) (xs.getD 0 0)
  | .pour => .pour (is.getD 1 0) (is.getD 2 0) (xs.getD 0 0)
  | .empty => .empty (is.getD 1 0) (is.getD 2 0)
  | .turn => .turn (is.getD 1 0) (is.getD 2 0) (is.getD 3 0) (xs.getD 0 0) (xs.getD 1 0)
  | _ => .ship (is.getD 1 0)
def Fm.does : Fm → Bool
  | .charge | .pour | .empty | .turn | .ship => true
  | _ => false
/-- a doing's tuples -/
def DoingAt (H : Hp) (t : Addr) (d : Nat × Vbwbzz.Doing) : Prop := ∃ (f : Fm) (is xs : List Nat) (t1 t2 : Addr), f.does = true ∧ is.length = f.names.length ∧ xs.length = f.nums.length ∧ d = (is.getD 0 0, doingOf is xs f) ∧ H t = some (.tup [.str f.s, .ref t1, .ref t2]) ∧ H t1 = some (.tup (is.map natV)) ∧ H t2 = some (.tup (xs.map natV))
def DoingsAt (H : Hp) (das : List Addr) (ds : List (Nat × Vbwbzz.Doing)) : Prop := das.length = ds.length ∧ ∀ (i : Nat) (t : Addr) (d : Nat × Vbwbzz.Doing), das[i]? = some t → ds[i]? = some d → DoingAt H t d
theorem DoingAt.mono {H H' : Hp} {t : Addr} {d : Nat × Vbwbzz.Doing} (h : DoingAt H t d) (s : Same H H') : DoingAt H' t d := by
  obtain ⟨f, is, xs, t1, t2, h1, h2, h3, h4, h5, h6, h7⟩ := h
  exact ⟨f, is, xs, t1, t2, h1, h2, h3, h4, s _ _ h5, s _ _ h6, s _ _ h7⟩
theorem DoingsAt.mono {H H' : Hp} {das : List Addr} {ds : List (Nat × Vbwbzz.Doing)} (h : DoingsAt H das ds) (s : Same H H') : DoingsAt H' das ds := ⟨h.1, fun i t d h1 h2 => (h.2 i t d h1 h2).mono s⟩
/-- a dict from pairs of numbers -/
def dtp (l : List (Nat × Nat × Nat)) : List (List L2.Key × V) := l.map fun x => ([Sum.inl (x.1 : Int), Sum.inl (x.2.1 : Int)], natV x.2.2)
section
variable {P : Program} {w : World} {K : PySem.W.Frag} {mg : Str → Option Value} {base : Heap}
abbrev cPl (K : PySem.W.Frag) : Addr := He.ga K "Plant"
structure PA where
  dx : Addr
  bk : Addr
  td : Addr
  sd : Addr
  pd : Addr
  dl : Addr
  t1 : Addr
  t2 : Addr
  t3 : Addr
  z1 : Addr
  z2 : Addr
  z3 : Addr
  q1 : Addr
  q2 : Addr
  q3 : Addr
  das : List Addr
  ld : Addr
  la : Lg → Addr
def skey (s : String) : L2.Key := Sum.inr (Str.ofString s)
def plms (A : PA) (p : PS) : List (Addr × HO) :=
  [(A.t1, .dK (dix p.stuffs)), (A.t2, .dK (dix (p.vessels.map (·.1)))), (A.t3, .dK (dix (p.units.map (·.1)))), (A.z1, .lst (p.stuffs.map fun _ => natV 0)), (A.z2, .lst (p.vessels.map fun x => natV x.2)), (A.z3, .lst (p.units.map fun x => natV x.2)),
   (A.q1, .dT (dtp p.claims)), (A.q2, .dT (dtp p.takes)), (A.q3, .dT (dtp p.gives)), (A.dl, .lst (A.das.map V.ref)),
   (A.la .stuff, .lst ((p.ln .stuff).map wv)), (A.la .vessel, .lst ((p.ln .vessel).map wv)), (A.la .unit, .lst ((p.ln .unit).map wv)), (A.la .claim, .lst ((p.ln .claim).map wv)), (A.la .take, .lst ((p.ln .take).map wv)), (A.la .give, .lst ((p.ln .give).map wv)), (A.la .doing, .lst ((p.ln .doing).map wv))]
def lnD (la : Lg → Addr) : List (L2.Key × V) := [(skey "stuff", .ref (la .stuff)), (skey "vessel", .ref (la .vessel)), (skey "unit", .ref (la .unit)), (skey "claim", .ref (la .claim)), (skey "take", .ref (la .take)), (skey "give", .ref (la .give)), (skey "doing", .ref (la .doing))]
structure PlantAt (K : PySem.W.Frag) (H G : Hp) (a : Addr) (A : PA) (bA : BA) (p : PS) : Prop where
  lay : Lay H G (plms A p)
  obj : G a = some (.ins (cPl K) A.dx (F_Plant (.ref A.bk) (.ref A.td) (.ref A.sd) (.ref A.pd) (.ref A.dl) (.ref A.ld)))
  told : G A.td = some (.dK [(skey "recipe", .ref bA.dr), (skey "step", .ref bA.ds), (skey "condition", .ref bA.dc), (skey "stuff", .ref A.t1), (skey "vessel", .ref A.t2), (skey "unit", .ref A.t3)])
  sizes : G A.sd = some (.dK [(skey "stuff", .ref A.z1), (skey "vessel", .ref A.z2), (skey "unit", .ref A.z3)])
  pairs : G A.pd = some (.dK [(skey "claim", .ref A.q1), (skey "take", .ref A.q2), (skey "give", .ref A.q3)])
  lines : G A.ld = some (.dK (lnD A.la))
  book : BookF K G A.bk bA p.bk
  das : DoingsAt G A.das p.doings
def sp_Plant_init (K : PySem.W.Frag) : Sp := sp2 fun v v1 H Q _ => ∃ (p dx bk : Addr) (G : Hp) (bA : BA) (k : Bk), v = .ref p ∧ v1 = .ref bk ∧ Lay H G [(p, .ins (cPl K) dx [])] ∧ BookF K G bk bA k ∧ ∀ (H' G' : Hp) (A : PA), Same G G' → PlantAt K H' G' p A bA (PS.bare k) → Q .non H'
theorem ok_Plant_init (Z : Tx w K mg) : Cal P w K mg base CX0 1 (He.fAd K ("Plant", some "__init__")) ["self", "book"] (sp_Plant_init K) := by
  obtain ⟨fd, F⟩ := Z.fd_Plant_init
  refine ⟨⟨fd, F.ok sc_Plant_init (fun vs H Q E h => ?_) (fun cdv A outer s H vs Q E hr h => ?_), F.bindsN fun _ _ _ _ _ _ us hl => match us, hl with | [_, _], _ => rfl⟩, F.kp⟩
  · exact sp2_len h
  have sc := sc_Plant_init
  have nd : N_Plant_init.Nodup := sc.nd
  replace h := sp2_get h
  obtain ⟨v_self, v_book, rfl, h⟩ := h
  refine ⟨_, PSs.nox (by exact ((pss_cons (ps_fld (pv 0) (pv 1) rfl)
 (pss_cons (ps_fld (pv 0) (pe_disp (pps_cons pe_str (pe_fld (pv 1) rfl) (pps_cons pe_str (pe_fld (pv 1) rfl) (pps_cons pe_str (pe_fld (pv 1) rfl) (pps_cons pe_str pe_dnewK (pps_cons pe_str pe_dnewK (pps_cons pe_str pe_dnewK pps_nil)))))) (by rfl) (by rfl) (fun z => by cases z) (by decide)) rfl)
 (pss_cons (ps_fld (pv 0) (pe_disp (pps_cons pe_str (pe_lst pa_nil) (pps_cons pe_str (pe_lst pa_nil) (pps_cons pe_str (pe_lst pa_nil) pps_nil))) (by rfl) (by rfl) (fun z => by cases z) (by decide)) rfl)
 (pss_cons (ps_fld (pv 0) (pe_disp (pps_cons pe_str pe_dnewT (pps_cons pe_str pe_dnewT (pps_cons pe_str pe_dnewT pps_nil))) (by rfl) (by rfl) (fun z => by cases z) (by decide)) rfl)
 (pss_cons (ps_fld (pv 0) (pe_lst pa_nil) rfl)
 (pss_one (ps_fld (pv 0) (pe_disp (pps_cons pe_str (pe_lst pa_nil) (pps_cons pe_str (pe_lst pa_nil) (pps_cons pe_str (pe_lst pa_nil) (pps_cons pe_str (pe_lst pa_nil) (pps_cons pe_str (pe_lst pa_nil) (pps_cons pe_str (pe_lst pa_nil) (pps_cons pe_str (pe_lst pa_nil) pps_nil))))))) (by rfl) (by rfl) (fun z => by cases z) (by decide)) rfl))))))))), ?_⟩
  obtain ⟨p, dx, bk, G, bA, k, rfl, rfl, L0, BF, h⟩ := h
  have cl := Z.cl_Plant
  refine ⟨_, rfl, _, rfl, p, _, _, _, rfl, L0.getAt 0 rfl, cl, Z.n_Plant_book, small_of (m := 0) rfl, ?_⟩
  have L1 : Lay _ G _ := L0.updAt (o' := .ins (cPl K) dx (putF "book" (.ref bk) [])) 0 rfl
  intro td htd
  have L2 : Lay _ G _ := L1.new (o := .dK []) htd
  have hB := L2.same _ _ (BF.obj (bk, _) (List.mem_cons_self ..))
  refine ⟨_, rfl, bk, _, _, _, _, rfl, hB, Z.cl_Book, Z.n_Book_recipes, lk_Book_recipes _ _ _ _ _ _, _, rfl, bk, _, _, _, _, rfl, hB, Z.cl_Book, Z.n_Book_steps, lk_Book_steps _ _ _ _ _ _, _, rfl, bk, _, _, _, _, rfl, hB, Z.cl_Book, Z.n_Book_conditions, lk_Book_conditions _ _ _ _ _ _, fun t1 h1 t2 h2 t3 h3 => ?_⟩
  have L5 : Lay _ G _ := ((L2.new (o := .dK []) h1).new (o := .dK []) h2).new (o := .dK []) h3
  refine ⟨L5.getAt 3 rfl, [(skey "recipe", .ref bA.dr), (skey "step", .ref bA.ds), (skey "condition", .ref bA.dc), (skey "stuff", .ref t1), (skey "vessel", .ref t2), (skey "unit", .ref t3)], rfl, (by show 6 ≤ 15; decide), ?_⟩
  have em1 : mergeK [] [(skey "recipe", V.ref bA.dr), (skey "step", .ref bA.ds), (skey "condition", .ref bA.dc), (skey "stuff", .ref t1), (skey "vessel", .ref t2), (skey "unit", .ref t3)] = [(skey "recipe", .ref bA.dr), (skey "step", .ref bA.ds), (skey "condition", .ref bA.dc), (skey "stuff", .ref t1), (skey "vessel", .ref t2), (skey "unit", .ref t3)] := by rfl
  rw [em1]
  have L6 : Lay _ G _ := L5.updAt (o' := .dK [(skey "recipe", .ref bA.dr), (skey "step", .ref bA.ds), (skey "condition", .ref bA.dc), (skey "stuff", .ref t1), (skey "vessel", .ref t2), (skey "unit", .ref t3)]) 3 rfl
  refine ⟨_, rfl, p, _, _, _, rfl, L6.getAt 4 rfl, cl, Z.n_Plant_told, small_of (m := 1) rfl, ?_⟩
  have L7 : Lay _ G _ := L6.updAt (o' := .ins (cPl K) dx (putF "told" (.ref td) (putF "book" (.ref bk) []))) 4 rfl
  refine fun sd hsd => ⟨by decide, fun z1 h4 => ⟨by decide, fun z2 h5 => ⟨by decide, fun z3 h6 => ?_⟩⟩⟩
  have L8 : Lay _ G _ := (((L7.new (o := .dK []) hsd).new (o := .lst []) h4).new (o := .lst []) h5).new (o := .lst []) h6
  refine ⟨L8.getAt 3 rfl, [(skey "stuff", .ref z1), (skey "vessel", .ref z2), (skey "unit", .ref z3)], rfl, (by show 3 ≤ 15; decide), ?_⟩
  have em2 : mergeK [] [(skey "stuff", V.ref z1), (skey "vessel", .ref z2), (skey "unit", .ref z3)] = [(skey "stuff", .ref z1), (skey "vessel", .ref z2), (skey "unit", .ref z3)] := by rfl
  rw [em2]
  have L9 : Lay _ G _ := L8.updAt (o' := .dK [(skey "stuff", .ref z1), (skey "vessel", .ref z2), (skey "unit", .ref z3)]) 3 rfl
  refine ⟨_, rfl, p, _, _, _, rfl, L9.getAt 8 rfl, cl, Z.n_Plant_sizes, small_of (m := 2) rfl, ?_⟩
  have L10 : Lay _ G _ := L9.updAt (o' := .ins (cPl K) dx (putF "sizes" (.ref sd) (putF "told" (.ref td) (putF "book" (.ref bk) [])))) 8 rfl
  refine fun pd hpd q1 h7 q2 h8 q3 h9 => ?_
  have L11 : Lay _ G _ := (((L10.new (o := .dK []) hpd).new (o := .dT []) h7).new (o := .dT []) h8).new (o := .dT []) h9
  refine ⟨L11.getAt 3 rfl, [(skey "claim", .ref q1), (skey "take", .ref q2), (skey "give", .ref q3)], rfl, (by show 3 ≤ 15; decide), ?_⟩
  have em3 : mergeK [] [(skey "claim", V.ref q1), (skey "take", .ref q2), (skey "give", .ref q3)] = [(skey "claim", .ref q1), (skey "take", .ref q2), (skey "give", .ref q3)] := by rfl
  rw [em3]
  have L12 : Lay _ G _ := L11.updAt (o' := .dK [(skey "claim", .ref q1), (skey "take", .ref q2), (skey "give", .ref q3)]) 3 rfl
  refine ⟨_, rfl, p, _, _, _, rfl, L12.getAt 12 rfl, cl, Z.n_Plant_pairs, small_of (m := 3) rfl, ?_⟩
  have L13 : Lay _ G _ := L12.updAt (o' := .ins (cPl K) dx (putF "pairs" (.ref pd) (putF "sizes" (.ref sd) (putF "told" (.ref td) (putF "book" (.ref bk) []))))) 12 rfl
  refine ⟨by decide, fun dl hdl => ⟨_, rfl, p, _, _, _, rfl, (L13.new (o := .lst []) hdl).getAt 13 rfl, cl, Z.n_Plant_doings, small_of (m := 4) rfl, ?_⟩⟩
  have L14 : Lay _ G _ := (L13.new (o := .lst []) hdl).updAt (o' := .ins (cPl K) dx (putF "doings" (.ref dl) (putF "pairs" (.ref pd) (putF "sizes" (.ref sd) (putF "told" (.ref td) (putF "book" (.ref bk) [])))))) 13 rfl
  refine fun ld hld => ⟨by decide, fun l1 k1 => ⟨by decide, fun l2 k2 => ⟨by decide, fun l3 k3 => ⟨by decide, fun l4 k4 => ⟨by decide, fun l5 k5 => ⟨by decide, fun l6 k6 => ⟨by decide, fun l7 k7 => ?_⟩⟩⟩⟩⟩⟩⟩
  have L15 : Lay _ G _ := (((((((L14.new (o := .dK []) hld).new (o := .lst []) k1).new (o := .lst []) k2).new (o := .lst []) k3).new (o := .lst []) k4).new (o := .lst []) k5).new (o := .lst []) k6).new (o := .lst []) k7
  obtain ⟨la, ela⟩ : ∃ la : Lg → Addr, la = fun x => match x with
    | .stuff => l1 | .vessel => l2 | .unit => l3 | .claim => l4 | .take => l5 | .give => l6 | .doing => l7 := ⟨_, rfl⟩
  have eD : [(skey "stuff", V.ref l1), (skey "vessel", .ref l2), (skey "unit", .ref l3), (skey "claim", .ref l4), (skey "take", .ref l5), (skey "give", .ref l6), (skey "doing", .ref l7)] = lnD la := by rw [ela]; rfl
  refine ⟨L15.getAt 7 rfl, [(skey "stuff", .ref l1), (skey "vessel", .ref l2), (skey "unit", .ref l3), (skey "claim", .ref l4), (skey "take", .ref l5), (skey "give", .ref l6), (skey "doing", .ref l7)], rfl, (by show 7 ≤ 15; decide), ?_⟩
  have em4 : mergeK [] [(skey "stuff", V.ref l1), (skey "vessel", .ref l2), (skey "unit", .ref l3), (skey "claim", .ref l4), (skey "take", .ref l5), (skey "give", .ref l6), (skey "doing", .ref l7)] = lnD la := by rw [← eD]; rfl
  rw [em4]
  have L16 : Lay _ G _ := L15.updAt (o' := .dK (lnD la)) 7 rfl
  refine ⟨_, rfl, p, _, _, _, rfl, L16.getAt 21 rfl, cl, Z.n_Plant_lines, small_of (m := 5) rfl, ?_⟩
  rw [mk_Plant]
  have L17 : Lay _ G _ := L16.updAt (o' := .ins (cPl K) dx (F_Plant (.ref bk) (.ref td) (.ref sd) (.ref pd) (.ref dl) (.ref ld))) 21 rfl
  obtain ⟨M1, g1⟩ := fixAt L17 21 (k := p) (o := .ins (cPl K) dx (F_Plant (.ref bk) (.ref td) (.ref sd) (.ref pd) (.ref dl) (.ref ld))) rfl
  obtain ⟨M2, g2⟩ := fixAt M1 20 (k := td) (o := .dK [(skey "recipe", .ref bA.dr), (skey "step", .ref bA.ds), (skey "condition", .ref bA.dc), (skey "stuff", .ref t1), (skey "vessel", .ref t2), (skey "unit", .ref t3)]) rfl
  obtain ⟨M3, g3⟩ := fixAt M2 16 (k := sd) (o := .dK [(skey "stuff", .ref z1), (skey "vessel", .ref z2), (skey "unit", .ref z3)]) rfl
  obtain ⟨M4, g4⟩ := fixAt M3 12 (k := pd) (o := .dK [(skey "claim", .ref q1), (skey "take", .ref q2), (skey "give", .ref q3)]) rfl
  obtain ⟨M5, g5⟩ := fixAt M4 7 (k := ld) (o := .dK (lnD la)) rfl
  have gG := (((g1.trans g2).trans g3).trans g4).trans g5
  refine h _ _ ⟨dx, bk, td, sd, pd, dl, t1, t2, t3, z1, z2, z3, q1, q2, q3, [], ld, la⟩ gG ⟨M5.perm ?_, g5 _ _ (g4 _ _ (g3 _ _ (g2 _ _ upd_same))), g5 _ _ (g4 _ _ (g3 _ _ upd_same)), g5 _ _ (g4 _ _ upd_same), g5 _ _ upd_same, upd_same, BF.mono gG, ⟨rfl, fun i t d h1 _ => by simp at h1⟩⟩
  subst ela
  exact List.reverse_perm [(t1, HO.dK []), (t2, .dK []), (t3, .dK []), (z1, .lst []), (z2, .lst []), (z3, .lst []), (q1, .dT []), (q2, .dT []), (q3, .dT []), (dl, .lst []), (l1, .lst []), (l2, .lst []), (l3, .lst []), (l4, .lst []), (l5, .lst []), (l6, .lst []), (l7, .lst [])]
/-- the plant as it stands -/
structure PlantF (K : PySem.W.Frag) (H : Hp) (a : Addr) (A : PA) (bA : BA) (p : PS) : Prop where
  ent : ∀ q ∈ plms A p, H q.1 = some q.2
  obj : H a = some (.ins (cPl K) A.dx (F_Plant (.ref A.bk) (.ref A.td) (.ref A.sd) (.ref A.pd) (.ref A.dl) (.ref A.ld)))
  told : H A.td = some (.dK [(skey "recipe", .ref bA.dr), (skey "step", .ref bA.ds), (skey "condition", .ref bA.dc), (skey "stuff", .ref A.t1), (skey "vessel", .ref A.t2), (skey "unit", .ref A.t3)])
  sizes : H A.sd = some (.dK [(skey "stuff", .ref A.z1), (skey "vessel", .ref A.z2), (skey "unit", .ref A.z3)])
  pairs : H A.pd = some (.dK [(skey "claim", .ref A.q1), (skey "take", .ref A.q2), (skey "give", .ref A.q3)])
  lines : H A.ld = some (.dK (lnD A.la))
  book : BookF K H A.bk bA p.bk
  das : DoingsAt H A.das p.doings
theorem PlantF.mono {H H' : Hp} {a : Addr} {A : PA} {bA : BA} {p : PS} (h : PlantF K H a A bA p) (s : Same H H') : PlantF K H' a A bA p :=
  ⟨fun q hq => s _ _ (h.ent q hq), s _ _ h.obj, s _ _ h.told, s _ _ h.sizes, s _ _ h.pairs, s _ _ h.lines, h.book.mono s, h.das.mono s⟩
theorem PlantAt.f {H G : Hp} {a : Addr} {A : PA} {bA : BA} {p : PS} (h : PlantAt K H G a A bA p) : PlantF K H a A bA p :=
  have s := h.lay.same
  ⟨h.lay.at_, s _ _ h.obj, s _ _ h.told, s _ _ h.sizes, s _ _ h.pairs, s _ _ h.lines, h.book.mono s, h.das.mono s⟩
def PA.tw (A : PA) (bA : BA) : Wh → Addr
  | .recipe => bA.dr | .step => bA.ds | .condition => bA.dc | .stuff => A.t1 | .vessel => A.t2 | .unit => A.t3
theorem PlantF.at_told {H : Hp} {a : Addr} {A : PA} {bA : BA} {p : PS} (h : PlantF K H a A bA p) (x : Wh) : H (A.tw bA x) = some (.dK (dix (p.told x))) ∧ DGet H A.td (whv x) (some (.ref (A.tw bA x))) := by
  constructor
  · cases x
    · exact h.book.obj (bA.dr, .dK (dix p.bk.names)) (by simp [bms])
    · exact h.book.obj (bA.ds, .dK (dix p.bk.snames)) (by simp [bms])
    · exact h.book.obj (bA.dc, .dK (dix p.bk.conds)) (by simp [bms])
    · exact h.ent (A.t1, .dK (dix p.stuffs)) (by simp [plms])
    · exact h.ent (A.t2, .dK (dix (p.vessels.map (·.1)))) (by simp [plms])
    · exact h.ent (A.t3, .dK (dix (p.units.map (·.1)))) (by simp [plms])
  · have := DGet.k (k := skey x.s) h.told
    cases x <;> exact this
/-- the forms that tell pairs -/
inductive Pr where
  | claim | take | give
  deriving DecidableEq
def Pr.f : Pr → Fm
  | .claim => .claim | .take => .take | .give => .give
def PS.prs (p : PS) : Pr → List (Nat × Nat × Nat)
  | .claim => p.claims | .take => p.takes | .give => p.gives
def PA.q (A : PA) : Pr → Addr
  | .claim => A.q1 | .take => A.q2 | .give => A.q3
theorem PlantF.at_pairs {H : Hp} {a : Addr} {A : PA} {bA : BA} {p : PS} (h : PlantF K H a A bA p) (x : Pr) : H (A.q x) = some (.dT (dtp (p.prs x))) ∧ DGet H A.pd (.str x.f.s) (some (.ref (A.q x))) := by
  constructor
  · cases x
    · exact h.ent (A.q1, _) (by simp [plms, PS.prs, PA.q])
    · exact h.ent (A.q2, _) (by simp [plms, PS.prs, PA.q])
    · exact h.ent (A.q3, _) (by simp [plms, PS.prs, PA.q])
  · have := DGet.k (k := skey x.f.s) h.pairs
    cases x <;> exact this
def pairAt (l : List (Nat × Nat × Nat)) (i j : Nat) : Option Nat := (l.find? fun x => x.1 == i && x.2.1 == j).map fun x => x.2.2
theorem valV_dtp (i j : Nat) : ∀ l : List (Nat × Nat × Nat), valV (dtp l) [Sum.inl (i : Int), Sum.inl (j : Int)] = (pairAt l i j).map natV
  | [] => rfl
  | x :: r => by
    have ih := valV_dtp i j r
    obtain ⟨a, b, c⟩ := x
    show valV (([Sum.inl (a : Int), Sum.inl (b : Int)], natV c) :: dtp r) _ = _
    unfold pairAt
    by_cases h : a = i ∧ b = j
    · obtain ⟨rfl, rfl⟩ := h
      rw [valV_pos rfl]
      simp
    · rw [valV_neg (fun z => h (by
        have z1 := List.cons.inj z
        have z2 := List.cons.inj z1.2
        exact ⟨Int.ofNat.inj (Sum.inl.inj z1.1), Int.ofNat.inj (Sum.inl.inj z2.1)⟩)), ih]
      have hf : ((a == i) && (b == j)) = false := by
        rw [Bool.and_eq_false_iff]
        by_cases h1 : a = i
        · exact .inr (by simpa using fun z => h ⟨h1, z⟩)
        · exact .inl (by simpa using h1)
      rw [List.find?_cons, hf]
      rfl
/-- the amounts, unit by unit -/
def vec (p : PS) (x : Pr) (i : Nat) : List Nat := (List.range p.units.length).map fun j => (pairAt (p.prs x) i j).getD 0
def TupAt (H : Hp) (t : Addr) (l : List Nat) : Prop := H t = some (.tup (l.map natV))
def sp_Plant_amounts (K : PySem.W.Frag) : Sp := sp3 fun v v1 v2 H Q _ => ∃ (a : Addr) (A : PA) (bA : BA) (p : PS) (x : Pr) (i : Nat), v = .ref a ∧ v1 = .str x.f.s ∧ v2 = .int i ∧ PlantF K H a A bA p ∧ p.units.length ≤ 1000 ∧ ∀ H' t, Same H H' → TupAt H' t (vec p x i) → Q (.ref t) H'
theorem ok_Plant_amounts (Z : Tx w K mg) : Cal P w K mg base CX0 1 (He.fAd K ("Plant", some "amounts")) ["self", "word", "number"] (sp_Plant_amounts K) := by
  obtain ⟨fd, F⟩ := Z.fd_Plant_amounts
  refine ⟨⟨fd, F.ok sc_Plant_amounts (fun vs H Q E h => ?_) (fun cdv A outer s H vs Q E hr h => ?_), F.bindsN fun _ _ _ _ _ _ us hl => match us, hl with | [_, _, _], _ => rfl⟩, F.kp⟩
  · exact sp3_len h
  have sc := sc_Plant_amounts
  have nd : N_Plant_amounts.Nodup := sc.nd
  replace h := sp3_get h
  obtain ⟨v_self, v_word, v_number, rfl, h⟩ := h
  refine ⟨_, PSs.nox (by exact ((pss_cons (ps_set (i := 3) nd rfl (by first | exact Or.inl rfl | exact Or.inr rfl) (pe_dget (hu_of hr) (pe_fld (pv 0) rfl) (pv 1) (fun _ _ => rfl)))
 (pss_one (ps_ret (pe_callTy call_tuple_of (by rfl) Z.b_tuple (by decide +kernel) (pa_cons (pe_lc (own := [("unit", 4)]) (g := (gName 4)) rfl nd (pi_range1 (by rfl) Z.b_range (pa_cons (pe_callB call_lenD (by rfl) Z.b_len (by decide +kernel) (pa_cons (pe_dget (hu_of hr) (pe_fld (pv 0) rfl) pe_str (fun _ _ => rfl)) pa_nil)) pa_nil)) (blkOk_by (own := [("unit", 4)]) (N := N_Plant_amounts) (sc := defScope s_Plant_amounts) (by decide +kernel)) (fun _ _ _ _ _ => (pg_name (i := 4) nd rfl (by first | exact Or.inl rfl | exact Or.inr rfl))) (fun _ _ _ _ _ => pts_nil) (fun _ _ _ _ _ => (pe_dget2 (hu_of hr) (pv 3) (pe_tup (pa_cons (pv 2) (pa_cons (pv 4) pa_nil))) pe_int ⟨rfl, rfl, rfl, rfl⟩))) pa_nil))))))), ?_⟩
  obtain ⟨a, A, bA, p, x, i, rfl, rfl, rfl, B, hu, h⟩ := h
  obtain ⟨q1, q2⟩ := B.at_pairs x
  obtain ⟨t1, t2⟩ := B.at_told .unit
  have cl := Z.cl_Plant
  refine ⟨_, rfl, a, _, _, _, _, rfl, B.obj, cl, Z.n_Plant_pairs, lk_Plant_pairs _ _ _ _ _ _, _, rfl, A.pd, _, rfl, q2, ?_⟩
  have tl : (dix (p.told .unit)).length = p.units.length := by rw [dix_len]; simp [PS.told]
  refine ⟨_, rfl, a, _, _, _, _, rfl, B.obj, cl, Z.n_Plant_told, lk_Plant_told _ _ _ _ _ _, A.td, _, rfl, t2, _, _, rfl, t1, ?_⟩
  rw [tl]
  refine ⟨(p.units.length : Nat), rfl, by omega, by omega, fun D hD => lc_fn walk_range (fun j => natV ((pairAt (p.prs x) i j).getD 0)) hD (fun _ _ => trivial) (line_lt (by omega)) ?_ ?_⟩
  · rintro j y H2 H3 R hi s2 ⟨rfl, hy⟩ k
    obtain rfl : y = V.int j := by rw [hy]; simp
    have q1' := s2 _ _ q1
    refine ⟨rfl, _, rfl, A.q x, rfl, .inr ⟨_, .inl q1'⟩, _, rfl, _, rfl, (by show 2 ≤ sizeLine; decide), fun T hT => ⟨(pairAt (p.prs x) i j).map natV, .inr ⟨_, [Sum.inl (i : Int), Sum.inl (j : Int)], T, .inl (same_new hT _ _ q1'), rfl, upd_same, (valV_dtp i j _).symm⟩, ?_⟩⟩
    have k1 := k _ (same_new (o := .tup [.int i, .int j]) hT)
    have e : ((pairAt (p.prs x) i j).map natV).getD (V.int 0) = natV ((pairAt (p.prs x) i j).getD 0) := by cases pairAt (p.prs x) i j <;> rfl
    rw [e]
    exact k1
  intro H2 s2 hD2
  rw [Int.toNat_natCast] at hD2
  refine ⟨D, _, rfl, .inl ⟨SqL.of hD2, fun t ht => h _ t (s2.trans (same_new ht)) ?_⟩⟩
  unfold TupAt vec
  rw [upd_same, List.map_map]; rfl
def sp_Plant_nothing (K : PySem.W.Frag) : Sp := sp1 fun v H Q _ => ∃ (a : Addr) (A : PA) (bA : BA) (p : PS), v = .ref a ∧ PlantF K H a A bA p ∧ p.units.length ≤ 1000 ∧ ∀ H' t, Same H H' → TupAt H' t (List.replicate p.units.length 0) → Q (.ref t) H'
theorem ok_Plant_nothing (Z : Tx w K mg) : Cal P w K mg base CX0 1 (He.fAd K ("Plant", some "nothing")) ["self"] (sp_Plant_nothing K) := by
  obtain ⟨fd, F⟩ := Z.fd_Plant_nothing
  refine ⟨⟨fd, F.ok sc_Plant_nothing (fun vs H Q E h => ?_) (fun cdv A outer s H vs Q E hr h => ?_), F.bindsN fun _ _ _ _ _ _ us hl => match us, hl with | [_], _ => rfl⟩, F.kp⟩
  · exact sp1_len h
  have sc := sc_Plant_nothing
  have nd : N_Plant_nothing.Nodup := sc.nd
  replace h := sp1_get h
  obtain ⟨v_self, rfl, h⟩ := h
  refine ⟨_, PSs.nox (by exact ((pss_one (ps_ret (pe_op (op_rep01 (K := K) rfl) (pe_tup (pa_cons pe_int pa_nil)) (pe_callB call_len_seq (by rfl) Z.b_len (by decide +kernel) (pa_cons (pe_dget (hu_of hr) (pe_fld (pv 0) rfl) pe_str (fun _ _ => rfl)) pa_nil))))))), ?_⟩
  obtain ⟨a, A, bA, p, rfl, B, hu, h⟩ := h
  have cl := Z.cl_Plant
  have hz : H A.z3 = some (.lst (p.units.map fun x => natV x.2)) := B.ent (A.z3, _) (by simp [plms])
  refine ⟨(by show 1 ≤ sizeLine; decide), fun t0 h0 => ?_⟩
  have B1 := B.mono (same_new (o := .tup [.int 0]) h0)
  have hd : DGet (upd H t0 (.tup [.int 0])) A.sd (.str "unit") (some (.ref A.z3)) := by
    have := DGet.k (k := skey "unit") B1.sizes
    exact this
  have lu : (p.units.map fun x => natV x.2).length = p.units.length := List.length_map _
  refine ⟨_, rfl, a, _, _, _, _, rfl, B1.obj, cl, Z.n_Plant_sizes, lk_Plant_sizes _ _ _ _ _ _, A.sd, .ref A.z3, rfl, hd, A.z3, _, rfl, .inl (SqL.of (same_new (o := .tup [.int 0]) h0 _ _ hz)), t0, p.units.length, [.int 0], rfl, by rw [lu], upd_same, by simp, by simp, hu, fun q H' s' hq => h H' q ((same_new h0).trans s') ?_⟩
  have e : (List.replicate p.units.length [V.int 0]).flatten = (List.replicate p.units.length 0).map natV := by
    rw [List.map_replicate]
    generalize p.units.length = n
    induction n with
    | zero => rfl
    | succ n ih => rw [List.replicate_succ, List.flatten_cons, ih, List.replicate_succ]; rfl
  unfold TupAt; rw [← e]; exact hq
def toldAll (p : PS) (f : Fm) (ns : List (List Nat)) : Bool := (f.names.zip ns).all fun x => (idx (p.told x.1) x.2).isSome
def numsOf (p : PS) (f : Fm) (ns : List (List Nat)) : List Nat := (f.names.zip ns).map fun x => (idx (p.told x.1) x.2).getD 0
def spTold (K : PySem.W.Frag) (v v1 v2 : V) (H : Hp) (R : Addr → PA → BA → PS → Fm → Addr → List (List Nat) → Prop) : Prop := ∃ (a : Addr) (A : PA) (bA : BA) (p : PS) (f : Fm) (l : Addr) (ns : List (List Nat)), v = .ref a ∧ v1 = .str f.s ∧ v2 = .ref l ∧ PlantF K H a A bA p ∧ H l = some (.lst (ns.map wv)) ∧ ns.length = f.names.length ∧ R a A bA p f l ns
def sp_Plant_are_told (K : PySem.W.Frag) : Sp := sp3 fun v v1 v2 H Q _ => spTold K v v1 v2 H fun _ _ _ p f _ ns => ∀ H', Same H H' → Q (.bl (toldAll p f ns)) H'
def sp_Plant_numbers_of (K : PySem.W.Frag) : Sp := sp3 fun v v1 v2 H Q _ => spTold K v v1 v2 H fun _ _ _ p f _ ns => toldAll p f ns = true ∧ ∀ H' t, Same H H' → TupAt H' t (numsOf p f ns) → Q (.ref t) H'
theorem names_few (f : Fm) : f.names.length ≤ 4 := by cases f <;> decide
theorem ok_Plant_are_told (Z : Tx w K mg) : Cal P w K mg base CX0 1 (He.fAd K ("Plant", some "are_told")) ["self", "word", "names"] (sp_Plant_are_told K) := by
  obtain ⟨fd, F⟩ := Z.fd_Plant_are_told
  refine ⟨⟨fd, F.ok sc_Plant_are_told (fun vs H Q E h => ?_) (fun cdv A outer s H vs Q E hr h => ?_), F.bindsN fun _ _ _ _ _ _ us hl => match us, hl with | [_, _, _], _ => rfl⟩, F.kp⟩
  · exact sp3_len h
  have sc := sc_Plant_are_told
  have nd : N_Plant_are_told.Nodup := sc.nd
  replace h := sp3_get h
  obtain ⟨v_self, v_word, v_names, rfl, h⟩ := h
  refine ⟨_, PSs.nox (by exact ((pss_one (ps_ret (pe_callB (cr_all rfl) (by rfl) Z.b_all (by decide +kernel) (pa_cons (pe_lc (own := [("what", 3), ("name", 4)]) (g := (gTup K 2 (gCons (gName 3) (gCons (gName 4) gNil)))) rfl nd (pi_zipX true false (K := K) rfl (by rfl) Z.b_zip (pa_cons (pe_ix ix_kdict (pe_glob rfl Z.g_NAMES (v := .ref _) rfl) (pv 1) (fun _ _ => rfl)) (pa_cons (pv 2) pa_nil))) (blkOk_by (own := [("what", 3), ("name", 4)]) (N := N_Plant_are_told) (sc := defScope s_Plant_are_told) (by decide +kernel)) (fun _ _ _ _ _ => (pg_tupK (K := K) rfl rfl (pgs_cons (pg_name (i := 3) nd rfl (by first | exact Or.inl rfl | exact Or.inr rfl)) (pgs_cons (pg_name (i := 4) nd rfl (by first | exact Or.inl rfl | exact Or.inr rfl)) pgs_nil)))) (fun _ _ _ _ _ => pts_nil) (fun _ _ _ _ _ => (pe_cmp (pc_din (hu_of hr) (pv 4) (pe_dget (hu_of hr) (pe_fldK (K := K) rfl (pv 0) rfl) (pv 3) (fun _ _ => rfl))) rfl))) pa_nil)))))), ?_⟩
  obtain ⟨a, A, bA, p, f, l, ns, rfl, rfl, rfl, B, hl, en, h⟩ := h
  have cl := Z.cl_Plant
  obtain ⟨n1, n2⟩ := names_at Z f
  have lz : (f.names.zip ns).length = f.names.length := by rw [List.length_zip]; omega
  refine ⟨_, rfl, _, _, _, rfl, rfl, n1, _, rfl, kdv K "NAMES" f.s, l, _, _, rfl, n2 H, SqL.of hl, fun D hD => lc_fn (walk_zipX (t := true) (u := false) (n := f.names.length) (by simp; omega)) (fun i => .bl (((f.names.zip ns)[i]?.map fun x => (idx (p.told x.1) x.2).isSome).getD false)) hD (fun H2 s2 => ⟨n2 H2, SqL.of (s2 _ _ hl)⟩) (line_lt (by have := names_few f; omega)) ?_ ?_⟩
  · rintro i x H2 H3 R hi s2 ⟨T, e1, e2, rfl, nT, rfl, he1, he2⟩ k
    have g1 : f.names[i]? = some f.names[i] := List.getElem?_eq_getElem hi
    have g2 : ns[i]? = some (ns[i]'(by omega)) := List.getElem?_eq_getElem (by omega)
    generalize f.names[i] = wh at g1
    generalize ns[i]'(by omega) = nm at g2
    replace he1 : (f.names.map whv)[i]? = some e1 := he1
    replace he2 : (ns.map wv)[i]? = some e2 := he2
    rw [List.getElem?_map, g1] at he1
    rw [List.getElem?_map, g2] at he2
    cases he1
    cases he2
    have hz : (f.names.zip ns)[i]? = some (wh, nm) := by rw [List.getElem?_zip_eq_some]; exact ⟨g1, g2⟩
    obtain ⟨t1, t2⟩ := (B.mono (s2.trans (same_new (o := .tup [whv wh, wv nm]) nT))).at_told wh
    have ho := (B.mono (s2.trans (same_new (o := .tup [whv wh, wv nm]) nT))).obj
    refine ⟨T, _, rfl, .inl (.inl upd_same), rfl, _, _, rfl, _, _, rfl, rfl, rfl, ?_⟩
    have hd := DGet.k (k := Sum.inr (S nm)) t1
    rw [valV_dix] at hd
    have k1 := k _ (same_new (o := .tup [whv wh, wv nm]) nT)
    rw [hz] at k1
    refine ⟨_, rfl, _, rfl, a, _, _, _, _, rfl, ho, cl, Z.n_Plant_told, lk_Plant_told _ _ _ _ _ _, _, rfl, A.td, _, rfl, t2, A.tw bA wh, _, rfl, hd, ?_⟩
    have e : ((idx (p.told wh) nm).map fun i : Nat => V.int i).isSome = (idx (p.told wh) nm).isSome := by cases idx (p.told wh) nm <;> rfl
    rw [e]
    exact k1
  intro H2 s2 hD2
  have ea : toldAll p f ns = ((f.names.zip ns).map fun x => (idx (p.told x.1) x.2).isSome).all id := by unfold toldAll; rw [List.all_map]; rfl
  refine ⟨D, _, rfl, SqL.of ?_, by rw [← ea]; exact h H2 s2⟩
  rw [hD2, List.map_map]
  congr 2
  rw [← lz]
  exact range_list (f.names.zip ns) _ _ fun i x hx => by rw [hx]; rfl
theorem ok_Plant_numbers_of (Z : Tx w K mg) : Cal P w K mg base CX0 1 (He.fAd K ("Plant", some "numbers_of")) ["self", "word", "names"] (sp_Plant_numbers_of K) := by
  obtain ⟨fd, F⟩ := Z.fd_Plant_numbers_of
  refine ⟨⟨fd, F.ok sc_Plant_numbers_of (fun vs H Q E h => ?_) (fun cdv A outer s H vs Q E hr h => ?_), F.bindsN fun _ _ _ _ _ _ us hl => match us, hl with | [_, _, _], _ => rfl⟩, F.kp⟩
  · exact sp3_len h
  have sc := sc_Plant_numbers_of
  have nd : N_Plant_numbers_of.Nodup := sc.nd
  replace h := sp3_get h
  obtain ⟨v_self, v_word, v_names, rfl, h⟩ := h
  refine ⟨_, PSs.nox (by exact ((pss_one (ps_ret (pe_callTy call_tuple_of (by rfl) Z.b_tuple (by decide +kernel) (pa_cons (pe_lc (own := [("what", 3), ("name", 4)]) (g := (gTup K 2 (gCons (gName 3) (gCons (gName 4) gNil)))) rfl nd (pi_zipX true false (K := K) rfl (by rfl) Z.b_zip (pa_cons (pe_ix ix_kdict (pe_glob rfl Z.g_NAMES (v := .ref _) rfl) (pv 1) (fun _ _ => rfl)) (pa_cons (pv 2) pa_nil))) (blkOk_by (own := [("what", 3), ("name", 4)]) (N := N_Plant_numbers_of) (sc := defScope s_Plant_numbers_of) (by decide +kernel)) (fun _ _ _ _ _ => (pg_tupK (K := K) rfl rfl (pgs_cons (pg_name (i := 3) nd rfl (by first | exact Or.inl rfl | exact Or.inr rfl)) (pgs_cons (pg_name (i := 4) nd rfl (by first | exact Or.inl rfl | exact Or.inr rfl)) pgs_nil)))) (fun _ _ _ _ _ => pts_nil) (fun _ _ _ _ _ => (pe_dget (hu_of hr) (pe_dget (hu_of hr) (pe_fldK (K := K) rfl (pv 0) rfl) (pv 3) (fun _ _ => rfl)) (pv 4) (fun _ _ => rfl)))) pa_nil)))))), ?_⟩
  obtain ⟨a, A, bA, p, f, l, ns, rfl, rfl, rfl, B, hl, en, hT, h⟩ := h
  have cl := Z.cl_Plant
  obtain ⟨n1, n2⟩ := names_at Z f
  have lz : (f.names.zip ns).length = f.names.length := by rw [List.length_zip]; omega
  refine ⟨_, rfl, _, _, _, rfl, rfl, n1, _, rfl, kdv K "NAMES" f.s, l, _, _, rfl, n2 H, SqL.of hl, fun D hD => lc_fn (walk_zipX (t := true) (u := false) (n := f.names.length) (by simp; omega)) (fun i => natV (((f.names.zip ns)[i]?.map fun x => (idx (p.told x.1) x.2).getD 0).getD 0)) hD (fun H2 s2 => ⟨n2 H2, SqL.of (s2 _ _ hl)⟩) (line_lt (by have := names_few f; omega)) ?_ ?_⟩
  · rintro i x H2 H3 R hi s2 ⟨T, e1, e2, rfl, nT, rfl, he1, he2⟩ k
    have g1 : f.names[i]? = some f.names[i] := List.getElem?_eq_getElem hi
    have g2 : ns[i]? = some (ns[i]'(by omega)) := List.getElem?_eq_getElem (by omega)
    generalize f.names[i] = wh at g1
    generalize ns[i]'(by omega) = nm at g2
    replace he1 : (f.names.map whv)[i]? = some e1 := he1
    replace he2 : (ns.map wv)[i]? = some e2 := he2
    rw [List.getElem?_map, g1] at he1
    rw [List.getElem?_map, g2] at he2
    cases he1
    cases he2
    have hz : (f.names.zip ns)[i]? = some (wh, nm) := by rw [List.getElem?_zip_eq_some]; exact ⟨g1, g2⟩
    obtain ⟨t1, t2⟩ := (B.mono (s2.trans (same_new (o := .tup [whv wh, wv nm]) nT))).at_told wh
    have ho := (B.mono (s2.trans (same_new (o := .tup [whv wh, wv nm]) nT))).obj
    have hm : (idx (p.told wh) nm).isSome = true := List.all_eq_true.mp hT (wh, nm) (List.mem_of_getElem? hz)
    obtain ⟨j, hj⟩ := Option.isSome_iff_exists.mp hm
    refine ⟨T, _, rfl, .inl (.inl upd_same), rfl, _, _, rfl, _, _, rfl, rfl, rfl, ?_⟩
    have hd := DGet.k (k := Sum.inr (S nm)) t1
    rw [valV_dix, hj] at hd
    have k1 := k _ (same_new (o := .tup [whv wh, wv nm]) nT)
    rw [hz] at k1
    simp only [Option.map_some, Option.getD_some, hj] at k1
    exact ⟨_, rfl, a, _, _, _, _, rfl, ho, cl, Z.n_Plant_told, lk_Plant_told _ _ _ _ _ _, _, rfl, A.td, _, rfl, t2, _, rfl, A.tw bA wh, _, rfl, hd, k1⟩
  intro H2 s2 hD2
  refine ⟨D, _, rfl, .inl ⟨SqL.of hD2, fun t ht => h _ t (s2.trans (same_new ht)) ?_⟩⟩
  unfold TupAt
  rw [upd_same]
  congr 2
  unfold numsOf
  rw [List.map_map, ← lz]
  exact range_list (f.names.zip ns) _ _ fun i x hx => by rw [hx]; rfl
inductive Nw where
  | stuff | vessel | unit
  deriving DecidableEq
def Nw.f : Nw → Fm
  | .stuff => .stuff | .vessel => .vessel | .unit => .unit
def Nw.wh : Nw → Wh
  | .stuff => .stuff | .vessel => .vessel | .unit => .unit
def Nw.most : Nw → Nat
  | .stuff => 12 | .vessel => 12 | .unit => 6
theorem Nw.s (x : Nw) : x.wh.s = x.f.s := by cases x <;> rfl
theorem most_at (Z : Tx w K mg) (x : Nw) : KDct K w (He.ga K "MOST_TOLD") (Str.ofString x.f.s) (natV x.most) := by
  have tb := Z.d_MOST_TOLD.2.1
  cases x
  · exact tb (Str.ofString "stuff", .int 12) (by simp)
  · exact tb (Str.ofString "vessel", .int 12) (by simp)
  · exact tb (Str.ofString "unit", .int 6) (by simp)
def kindNew (p : PS) (x : Nw) (nm : List Nat) : Nat := if (p.told x.wh).contains nm = true then 2 else if (p.told x.wh).length = x.most then 5 else 0
def sp_kind_of_new (K : PySem.W.Frag) : Sp := sp3 fun v v1 v2 H Q _ => ∃ (a : Addr) (A : PA) (bA : BA) (p : PS) (x : Nw) (nm : List Nat), v = .ref a ∧ v1 = .str x.f.s ∧ v2 = wv nm ∧ PlantF K H a A bA p ∧ Q (.int (kindNew p x nm : Nat)) H
theorem ok_kind_of_new (Z : Tx w K mg) : Cal P w K mg base CX0 1 (He.fAd K ("kind_of_new", none)) ["plant", "word", "name"] (sp_kind_of_new K) := by
  obtain ⟨fd, F⟩ := Z.fd_kind_of_new
  refine ⟨⟨fd, F.ok sc_kind_of_new (fun vs H Q E h => ?_) (fun cdv A outer s H vs Q E hr h => ?_), F.bindsN fun _ _ _ _ _ _ us hl => match us, hl with | [_, _, _], _ => rfl⟩, F.kp⟩
  · exact sp3_len h
  have sc := sc_kind_of_new
  have nd : N_kind_of_new.Nodup := sc.nd
  replace h := sp3_get h
  obtain ⟨v_plant, v_word, v_name, rfl, h⟩ := h
  refine ⟨_, PSs.nox (by exact ((pss_cons (ps_if (pt_cmp (pc_din (hu_of hr) (pv 2) (pe_dget (hu_of hr) (pe_fld (pv 0) rfl) (pv 1) (fun _ _ => rfl)))) (pss_one (ps_ret pe_int)) pss_nil)
 (pss_cons (ps_if (pt_cmpR op_eq (pe_callB call_lenD (by rfl) Z.b_len (by decide +kernel) (pa_cons (pe_dget (hu_of hr) (pe_fld (pv 0) rfl) (pv 1) (fun _ _ => rfl)) pa_nil)) (pe_ix ix_kdict (pe_glob rfl Z.g_MOST_TOLD (v := .ref _) rfl) (pv 1) (fun _ _ => rfl)) (nomark _)) (pss_one (ps_ret pe_int)) pss_nil)
 (pss_one (ps_ret pe_int)))))), ?_⟩
  obtain ⟨a, A, bA, p, x, nm, rfl, rfl, rfl, B, h⟩ := h
  have cl := Z.cl_Plant
  obtain ⟨t1, t2⟩ := B.at_told x.wh
  have t2' : DGet H A.td (.str x.f.s) (some (.ref (A.tw bA x.wh))) := by
    have := t2
    unfold whv at this
    rw [Nw.s] at this
    exact this
  have hd := DGet.k (k := Sum.inr (S nm)) t1
  rw [valV_dix] at hd
  have e : ((idx (p.told x.wh) nm).map fun i : Nat => V.int i).isSome = (p.told x.wh).contains nm := by
    have := idx_none (l := p.told x.wh) (w := nm)
    cases e : idx (p.told x.wh) nm with
    | none => rw [this.mp e]; rfl
    | some i =>
      cases e2 : (p.told x.wh).contains nm with
      | true => rfl
      | false => rw [this.mpr e2] at e; cases e
  refine ⟨_, rfl, _, rfl, a, _, _, _, _, rfl, B.obj, cl, Z.n_Plant_told, lk_Plant_told _ _ _ _ _ _, _, rfl, A.td, _, rfl, t2', A.tw bA x.wh, _, rfl, hd, ?_⟩
  rw [e]
  refine ⟨_, rfl, if_intro (fun c => ?_) fun c => ?_⟩
  · rw [show kindNew p x nm = 2 from if_pos c] at h
    exact h
  refine ⟨_, rfl, a, _, _, _, _, rfl, B.obj, cl, Z.n_Plant_told, lk_Plant_told _ _ _ _ _ _, _, rfl, A.td, _, rfl, t2', A.tw bA x.wh, _, rfl, t1, _, rfl, _, _, _, rfl, rfl, most_at Z x, rfl, _, rfl, if_intro (fun c2 => ?_) fun c2 => ?_⟩
  · have e2 : (p.told x.wh).length = x.most := by
      have := V.int.inj (of_decide_eq_true c2)
      rw [dix_len] at this; omega
    rw [show kindNew p x nm = 5 from (if_neg c).trans (if_pos e2)] at h
    exact h
  · have e2 : ¬ (p.told x.wh).length = x.most := fun z => c2 (decide_eq_true (by rw [dix_len, z]; rfl))
    rw [show kindNew p x nm = 0 from (if_neg c).trans (if_neg e2)] at h
    exact h
def kindPair (p : PS) (x : Pr) (ns : List (List Nat)) : Nat := if toldAll p x.f ns = true then (if (pairAt (p.prs x) ((numsOf p x.f ns).getD 0 0) ((numsOf p x.f ns).getD 1 0)).isSome = true then 2 else if (p.prs x).length = 60 then 5 else 0) else 3
def sp_kind_of_pair (K : PySem.W.Frag) : Sp := sp3 fun v v1 v2 H Q _ => ∃ (a : Addr) (A : PA) (bA : BA) (p : PS) (x : Pr) (l : Addr) (ns : List (List Nat)), v = .ref a ∧ v1 = .str x.f.s ∧ v2 = .ref l ∧ PlantF K H a A bA p ∧ H l = some (.lst (ns.map wv)) ∧ ns.length = 2 ∧ ∀ H', Same H H' → Q (.int (kindPair p x ns : Nat)) H'
theorem Pr.two (x : Pr) : x.f.names.length = 2 := by cases x <;> rfl
theorem nums_two {p : PS} {x : Pr} {ns : List (List Nat)} (h : ns.length = 2) : numsOf p x.f ns = [(numsOf p x.f ns).getD 0 0, (numsOf p x.f ns).getD 1 0] := by
  have l2 : (numsOf p x.f ns).length = 2 := by unfold numsOf; rw [List.length_map, List.length_zip, x.two, h]; rfl
  match e : numsOf p x.f ns, l2 with
  | [i, j], _ => rfl
theorem ok_kind_of_pair (Z : Tx w K mg) : Cal P w K mg base CX0 2 (He.fAd K ("kind_of_pair", none)) ["plant", "word", "names"] (sp_kind_of_pair K) := by
  obtain ⟨fd, F⟩ := Z.fd_kind_of_pair
  have c_Plant_are_told := ok_Plant_are_told (P := P) (w := w) (base := base) Z
  have c_Plant_numbers_of := ok_Plant_numbers_of (P := P) (w := w) (base := base) Z
  refine ⟨⟨fd, F.ok sc_kind_of_pair (fun vs H Q E h => ?_) (fun cdv A outer s H vs Q E hr h => ?_), F.bindsN fun _ _ _ _ _ _ us hl => match us, hl with | [_, _, _], _ => rfl⟩, F.kp⟩
  · exact sp3_len h
  have sc := sc_kind_of_pair
  have nd : N_kind_of_pair.Nodup := sc.nd
  replace h := sp3_get h
  obtain ⟨v_plant, v_word, v_names, rfl, h⟩ := h
  refine ⟨_, PSs.nox (by exact ((pss_cons (ps_if (pt_not (pt_val (pe_metC (E := E0) (pv 0) Z.cl_Plant Z.m_Plant_are_told c_Plant_are_told (hr.mono (by decide)) pass0 (pa_cons (pv 1) (pa_cons (pv 2) pa_nil))))) (pss_one (ps_ret pe_int)) pss_nil)
 (pss_cons (ps_if (pt_cmp (pc_din (hu_of hr) (pe_metC (E := E0) (pv 0) Z.cl_Plant Z.m_Plant_numbers_of c_Plant_numbers_of (hr.mono (by decide)) pass0 (pa_cons (pv 1) (pa_cons (pv 2) pa_nil))) (pe_dget (hu_of hr) (pe_fld (pv 0) rfl) (pv 1) (fun _ _ => rfl)))) (pss_one (ps_ret pe_int)) pss_nil)
 (pss_cons (ps_if (pt_cmpR op_eq (pe_callB call_lenT (by rfl) Z.b_len (by decide +kernel) (pa_cons (pe_dget (hu_of hr) (pe_fld (pv 0) rfl) (pv 1) (fun _ _ => rfl)) pa_nil)) (pe_gi rfl Z.g_MOST_PAIRS) (nomark _)) (pss_one (ps_ret pe_int)) pss_nil)
 (pss_one (ps_ret pe_int))))))), ?_⟩
  obtain ⟨a, A, bA, p, x, l, ns, rfl, rfl, rfl, B, hl, en, h⟩ := h
  have cl := Z.cl_Plant
  refine ⟨_, rfl, a, _, _, rfl, B.obj, lm_Plant_are_told _ _ _ _ _ _, _, rfl, _, rfl, _, _, _, rfl, a, A, bA, p, x.f, l, ns, rfl, rfl, rfl, B, hl, by rw [x.two]; exact en, fun H1 s1 => ⟨_, rfl, if_intro (fun c => ?_) fun c => ?_⟩⟩
  · have c' : ¬ toldAll p x.f ns = true := by simpa using c
    have := h H1 s1
    rw [show kindPair p x ns = 3 from if_neg c'] at this
    exact this
  have c' : toldAll p x.f ns = true := by simpa using c
  have B1 := B.mono s1
  refine ⟨_, rfl, a, _, _, rfl, B1.obj, lm_Plant_numbers_of _ _ _ _ _ _, _, rfl, _, rfl, _, _, _, rfl, a, A, bA, p, x.f, l, ns, rfl, rfl, rfl, B1, s1 _ _ hl, by rw [x.two]; exact en, c', fun H2 t s2 ht => ?_⟩
  have B2 := B1.mono s2
  obtain ⟨q1, q2⟩ := B2.at_pairs x
  have hn := nums_two (p := p) (x := x) en
  obtain ⟨i, hi⟩ : ∃ i, i = (numsOf p x.f ns).getD 0 0 := ⟨_, rfl⟩
  obtain ⟨j, hj⟩ : ∃ j, j = (numsOf p x.f ns).getD 1 0 := ⟨_, rfl⟩
  have hk : kindPair p x ns = (if (pairAt (p.prs x) i j).isSome = true then 2 else if (p.prs x).length = 60 then 5 else 0) := by
    unfold kindPair
    rw [if_pos c', ← hi, ← hj]
  rw [← hi, ← hj] at hn
  have hd : DGet H2 (A.q x) (.ref t) ((pairAt (p.prs x) i j).map natV) := .inr ⟨_, [Sum.inl (i : Int), Sum.inl (j : Int)], t, .inl q1, rfl, by
    unfold TupAt at ht
    rw [hn] at ht
    exact ht, (valV_dtp i j _).symm⟩
  have es : ((pairAt (p.prs x) i j).map natV).isSome = (pairAt (p.prs x) i j).isSome := by cases pairAt (p.prs x) i j <;> rfl
  have h2 := h H2 (s1.trans s2)
  rw [hk] at h2
  refine ⟨_, rfl, a, _, _, _, _, rfl, B2.obj, cl, Z.n_Plant_pairs, lk_Plant_pairs _ _ _ _ _ _, _, rfl, A.pd, _, rfl, q2, A.q x, _, rfl, hd, ?_⟩
  rw [es]
  refine ⟨_, rfl, if_intro (fun c2 => ?_) fun c2 => ?_⟩
  · rw [if_pos c2] at h2; exact h2
  rw [if_neg c2] at h2
  have ld : (dtp (p.prs x)).length = (p.prs x).length := List.length_map _
  refine ⟨_, rfl, a, _, _, _, _, rfl, B2.obj, cl, Z.n_Plant_pairs, lk_Plant_pairs _ _ _ _ _ _, _, rfl, A.pd, _, rfl, q2, A.q x, _, rfl, q1, rfl, _, rfl, if_intro (fun c3 => ?_) fun c3 => ?_⟩
  · rw [if_pos (by
      have := V.int.inj (of_decide_eq_true c3)
      rw [ld] at this; omega)] at h2
    exact h2
  · rw [if_neg (fun z => c3 (decide_eq_true (by rw [ld, z]; rfl)))] at h2
    exact h2
theorem atI_neg {α : Type} (xs : List α) (k : Nat) (h1 : 1 ≤ k) (h2 : k ≤ xs.length) : atI xs (-(k : Int)) = xs[xs.length - k]? := by
  unfold atI ixN
  rw [if_neg (by omega), if_pos (by omega)]
  show xs[(-(k : Int) + xs.length).toNat]? = _
  congr 1; omega
theorem doing3 (f : Fm) : inV (.str f.s) [.str "pour", .str "empty", .str "turn"] = (decide (f = .pour) || decide (f = .empty) || decide (f = .turn)) := by cases f <;> decide +kernel
def twice (f : Fm) (ns : List (List Nat)) : Bool := (decide (f = .pour) || decide (f = .empty) || decide (f = .turn)) && decide (ns.getD (ns.length - 2) [] = ns.getD (ns.length - 1) [])
def kindDoing (p : PS) (f : Fm) (ns : List (List Nat)) : Nat := if toldAll p f ns = true then (if twice f ns = true then 4 else if p.doings.length = 60 then 5 else 0) else 3
def sp_kind_of_doing (K : PySem.W.Frag) : Sp := sp3 fun v v1 v2 H Q _ => ∃ (a : Addr) (A : PA) (bA : BA) (p : PS) (f : Fm) (l : Addr) (ns : List (List Nat)), v = .ref a ∧ v1 = .str f.s ∧ v2 = .ref l ∧ PlantF K H a A bA p ∧ A.das.length = p.doings.length ∧ H l = some (.lst (ns.map wv)) ∧ ns.length = f.names.length ∧ 2 ≤ ns.length ∧ ∀ H', Same H H' → Q (.int (kindDoing p f ns : Nat)) H'
theorem ok_kind_of_doing (Z : Tx w K mg) : Cal P w K mg base CX0 2 (He.fAd K ("kind_of_doing", none)) ["plant", "word", "names"] (sp_kind_of_doing K) := by
  obtain ⟨fd, F⟩ := Z.fd_kind_of_doing
  have c_Plant_are_told := ok_Plant_are_told (P := P) (w := w) (base := base) Z
  refine ⟨⟨fd, F.ok sc_kind_of_doing (fun vs H Q E h => ?_) (fun cdv A outer s H vs Q E hr h => ?_), F.bindsN fun _ _ _ _ _ _ us hl => match us, hl with | [_, _, _], _ => rfl⟩, F.kp⟩
  · exact sp3_len h
  have sc := sc_kind_of_doing
  have nd : N_kind_of_doing.Nodup := sc.nd
  replace h := sp3_get h
  obtain ⟨v_plant, v_word, v_names, rfl, h⟩ := h
  refine ⟨_, PSs.nox (by exact ((pss_cons (ps_if (pt_not (pt_val (pe_metC (E := E0) (pv 0) Z.cl_Plant Z.m_Plant_are_told c_Plant_are_told (hr.mono (by decide)) pass0 (pa_cons (pv 1) (pa_cons (pv 2) pa_nil))))) (pss_one (ps_ret pe_int)) pss_nil)
 (pss_cons (ps_if (PW.pt (pw_and (pt_cmpR op_in_seq (pv 1) (pe_tup (pa_cons pe_str (pa_cons pe_str (pa_cons pe_str pa_nil)))) rfl) (pw_and1 (pt_cmpR op_eq (pe_ix ix_list (pv 2) (pe_un un_neg pe_int) (fun _ _ => rfl)) (pe_ix ix_list (pv 2) (pe_un un_neg pe_int) (fun _ _ => rfl)) (nomark _))))) (pss_one (ps_ret pe_int)) pss_nil)
 (pss_cons (ps_if (pt_cmpR op_eq (pe_callB call_len_seq (by rfl) Z.b_len (by decide +kernel) (pa_cons (pe_fld (pv 0) rfl) pa_nil)) (pe_gi rfl Z.g_MOST_DOINGS) (nomark _)) (pss_one (ps_ret pe_int)) pss_nil)
 (pss_one (ps_ret pe_int))))))), ?_⟩
  obtain ⟨a, A, bA, p, f, l, ns, rfl, rfl, rfl, B, hda, hl, en, e2, h⟩ := h
  have cl := Z.cl_Plant
  refine ⟨_, rfl, a, _, _, rfl, B.obj, lm_Plant_are_told _ _ _ _ _ _, _, rfl, _, rfl, _, _, _, rfl, a, A, bA, p, f, l, ns, rfl, rfl, rfl, B, hl, en, fun H1 s1 => ⟨_, rfl, if_intro (fun c => ?_) fun c => ?_⟩⟩
  · have c' : ¬ toldAll p f ns = true := by simpa using c
    have := h H1 s1
    rw [show kindDoing p f ns = 3 from if_neg c'] at this
    exact this
  have c' : toldAll p f ns = true := by simpa using c
  have B1 := B.mono s1
  have go : ∀ H2, Same H1 H2 → twice f ns = true → Q (.int 4) H2 := fun H2 s2 e => by
    have := h H2 (s1.trans s2)
    rw [show kindDoing p f ns = 4 from (if_pos c').trans (if_pos e)] at this
    exact this
  have hdl : H1 A.dl = some (.lst (A.das.map V.ref)) := B1.ent (A.dl, _) (by simp [plms])
  have done : ∀ H2, Same H1 H2 → twice f ns = false → ∀ b : Bool, b = decide (V.int ((A.das.map V.ref).length : Nat) = V.int 60) → if b = true then Q (.int 5) H2 else Q (.int 0) H2 := fun H2 s2 e b hb => by
    have h2 := h H2 (s1.trans s2)
    rw [show kindDoing p f ns = (if p.doings.length = 60 then 5 else 0) from (if_pos c').trans (if_neg (by rw [e]; simp))] at h2
    subst hb
    refine if_intro (fun c3 => ?_) fun c3 => ?_
    · rw [if_pos (by
        have := V.int.inj (of_decide_eq_true c3)
        rw [List.length_map, hda] at this; omega)] at h2
      exact h2
    · rw [if_neg (fun z => c3 (decide_eq_true (by rw [List.length_map, hda, z]; rfl)))] at h2
      exact h2
  refine ⟨_, rfl, (by show 3 ≤ sizeLine; decide), fun T hT => ⟨T, _, rfl, .inr (.inl (.inl upd_same)), rfl, rfl, _, rfl, if_intro (fun c2 => ?_) fun c2 => ?_⟩⟩
  · have sT := same_new (o := .tup [.str "pour", .str "empty", .str "turn"]) hT
    have hl2 := sT _ _ (s1 _ _ hl)
    have c2' : (decide (f = .pour) || decide (f = .empty) || decide (f = .turn)) = true := (doing3 f).symm.trans c2
    obtain ⟨n2, hn2⟩ : ∃ n2, n2 = ns.getD (ns.length - 2) [] := ⟨_, rfl⟩
    obtain ⟨n1, hn1⟩ : ∃ n1, n1 = ns.getD (ns.length - 1) [] := ⟨_, rfl⟩
    have g2 : ns[ns.length - 2]? = some n2 := by rw [hn2, List.getD_eq_getElem?_getD, List.getElem?_eq_getElem (by omega)]; rfl
    have g1 : ns[ns.length - 1]? = some n1 := by rw [hn1, List.getD_eq_getElem?_getD, List.getElem?_eq_getElem (by omega)]; rfl
    have tw : twice f ns = decide (n2 = n1) := by unfold twice; rw [c2', Bool.true_and, ← hn2, ← hn1]
    have a2 : atI (ns.map wv) (-2) = some (wv n2) := by
      have := atI_neg (ns.map wv) 2 (by omega) (by rw [List.length_map]; omega)
      rw [List.length_map, List.getElem?_map, g2] at this
      exact this
    have a1 : atI (ns.map wv) (-1) = some (wv n1) := by
      have := atI_neg (ns.map wv) 1 (by omega) (by rw [List.length_map]; omega)
      rw [List.length_map, List.getElem?_map, g1] at this
      exact this
    refine ⟨_, rfl, 2, rfl, l, _, (-2 : Int), wv n2, rfl, rfl, SqL.of hl2, a2, _, rfl, 1, rfl, l, _, (-1 : Int), wv n1, rfl, rfl, SqL.of hl2, a1, rfl, _, rfl, if_intro (fun c3 => ?_) fun c3 => ?_⟩
    · refine go _ sT ?_
      rw [tw]
      have : V.str (S n2) = V.str (S n1) := of_decide_eq_true c3
      exact decide_eq_true (S_inj (V.str.inj this))
    · have e : twice f ns = false := by
        rw [tw]
        refine decide_eq_false fun z => c3 ?_
        rw [z]; exact decide_eq_true rfl
      exact ⟨_, rfl, a, _, _, _, _, rfl, sT _ _ B1.obj, cl, Z.n_Plant_doings, lk_Plant_doings _ _ _ _ _ _, A.dl, _, rfl, .inl (SqL.of (sT _ _ hdl)), rfl, _, rfl, done _ sT e _ rfl⟩
  · have sT := same_new (o := .tup [.str "pour", .str "empty", .str "turn"]) hT
    have c2' : (decide (f = .pour) || decide (f = .empty) || decide (f = .turn)) = false := by
      rw [← doing3]
      exact Bool.eq_false_iff.mpr c2
    have e : twice f ns = false := by unfold twice; rw [c2', Bool.false_and]
    refine iteF ⟨_, rfl, a, _, _, _, _, rfl, sT _ _ B1.obj, cl, Z.n_Plant_doings, lk_Plant_doings _ _ _ _ _ _, A.dl, _, rfl, .inl (SqL.of (sT _ _ hdl)), rfl, _, rfl, done _ sT e _ rfl⟩
end
end Bw
end

section
set_option Elab.async false
set_option linter.all false
set_option maxRecDepth 100000
set_option maxHeartbeats 4000000
/-! The works' lines: what a line is, and what it does. -/
namespace Bw
open PySem PySem.Spec PyProof.Rows L2 TL
inductive Gr where
  | new (x : Nw)
  | pair (x : Pr)
  | doing
def grp : Fm → Gr
  | .stuff => .new .stuff | .vessel => .new .vessel | .unit => .new .unit
  | .claim => .pair .claim | .take => .pair .take | .give => .pair .give
  | _ => .doing
def kindF (p : PS) (f : Fm) (ns : List (List Nat)) : Nat := match grp f with
  | .new x => kindNew p x (ns.getD 0 [])
  | .pair x => kindPair p x ns
  | .doing => kindDoing p f ns
def kindL (p : PS) (ws : List (List Nat)) : Nat := if formed ws = true then (match ws with
  | [] => 1
  | k :: r => match fmOf k with
    | none => 1
    | some f => kindF p f (r.take f.names.length)) else 1
/-- the first of a list of forms -/
theorem grp_new {f : Fm} {x : Nw} (h : grp f = .new x) : f = x.f := by cases f <;> cases h <;> rfl
theorem grp_pair {f : Fm} {x : Pr} (h : grp f = .pair x) : f = x.f := by cases f <;> cases h <;> rfl
theorem grp_doing {f : Fm} (h : grp f = .doing) : 2 ≤ f.names.length := by cases f <;> first | (cases h; done) | (show 2 ≤ List.length _; decide)
def Gr.isNew : Gr → Bool
  | .new _ => true
  | _ => false
def Gr.isPair : Gr → Bool
  | .pair _ => true
  | _ => false
theorem formed_some {ws : List (List Nat)} (h : formed ws = true) : ∃ (f : Fm) (r : List (List Nat)), ws = kw f.s :: r ∧ r.length = f.names.length + f.nums.length ∧ (r.take f.names.length).all Vbwbab.isName = true ∧ ((r.drop f.names.length).zip f.nums).all (fun x => numB 1 x.2 x.1) = true := by
  cases ws with
  | nil => cases h
  | cons k r =>
    unfold formed at h
    cases e : fmOf k with
    | none => simp [e] at h
    | some f =>
      simp only [e, Bool.and_eq_true, decide_eq_true_eq] at h
      exact ⟨f, r, by rw [fmOf_some e], h.1, h.2.1, h.2.2.1⟩
theorem kindL_of {p : PS} {f : Fm} {r : List (List Nat)} (h : formed (kw f.s :: r) = true) : kindL p (kw f.s :: r) = kindF p f (r.take f.names.length) := by
  unfold kindL
  rw [if_pos h]
  simp only [fmOf_kw]
section
variable {P : Program} {w : World} {K : PySem.W.Frag} {mg : Str → Option Value} {base : Heap}
theorem in_sizes {H : Hp} {a : Addr} {A : PA} {bA : BA} {p : PS} (B : PlantF K H a A bA p) (f : Fm) : ∃ o, DGet H A.sd (.str f.s) o ∧ o.isSome = (grp f).isNew := by
  have := DGet.k (k := skey f.s) B.sizes
  refine ⟨_, this, ?_⟩
  cases f <;> rfl
theorem in_pairs {H : Hp} {a : Addr} {A : PA} {bA : BA} {p : PS} (B : PlantF K H a A bA p) (f : Fm) : ∃ o, DGet H A.pd (.str f.s) o ∧ o.isSome = (grp f).isPair := by
  have := DGet.k (k := skey f.s) B.pairs
  refine ⟨_, this, ?_⟩
  cases f <;> rfl
def sp_kind_of_line (K : PySem.W.Frag) : Sp := sp2 fun v v1 H Q _ => ∃ (a : Addr) (A : PA) (bA : BA) (p : PS) (l : Addr) (ws : List (List Nat)), v = .ref a ∧ v1 = .ref l ∧ PlantF K H a A bA p ∧ A.das.length = p.doings.length ∧ H l = some (.lst (ws.map wv)) ∧ ws ≠ [] ∧ ws.length ≤ 100000 ∧ (∀ x ∈ ws, x ≠ [] ∧ x.length ≤ 100000) ∧ ∀ H', Same H H' → Q (.int (kindL p ws : Nat)) H'
theorem ok_kind_of_line (Z : Tx w K mg) : Cal P w K mg base CX0 4 (He.fAd K ("kind_of_line", none)) ["plant", "words"] (sp_kind_of_line K) := by
  obtain ⟨fd, F⟩ := Z.fd_kind_of_line
  have c_is_formed := ok_is_formed (P := P) (w := w) (base := base) Z
  have c_names_in := ok_names_in (P := P) (w := w) (base := base) Z
  have c_kind_of_new := ok_kind_of_new (P := P) (w := w) (base := base) Z
  have c_kind_of_pair := ok_kind_of_pair (P := P) (w := w) (base := base) Z
  have c_kind_of_doing := ok_kind_of_doing (P := P) (w := w) (base := base) Z
  refine ⟨⟨fd, F.ok sc_kind_of_line (fun vs H Q E h => ?_) (fun cdv A outer s H vs Q E hr h => ?_), F.bindsN fun _ _ _ _ _ _ us hl => match us, hl with | [_, _], _ => rfl⟩, F.kp⟩
  · exact sp2_len h
  have sc := sc_kind_of_line
  have nd : N_kind_of_line.Nodup := sc.nd
  replace h := sp2_get h
  obtain ⟨v_plant, v_words, rfl, h⟩ := h
  refine ⟨_, PSs.nox (by exact ((pss_cons (ps_if (pt_not (pt_val (pe_calC (E := E0) c_is_formed (hr.mono (by decide)) rfl Z.g_is_formed pass0 (pa_cons (pv 1) pa_nil)))) (pss_one (ps_ret pe_int)) pss_nil)
 (pss_cons (ps_set (i := 2) nd rfl (by first | exact Or.inl rfl | exact Or.inr rfl) (pe_calC (E := E0) c_names_in (hr.mono (by decide)) rfl Z.g_names_in pass0 (pa_cons (pv 1) pa_nil)))
 (pss_cons (ps_if (pt_cmp (pc_din (hu_of hr) (pe_ix ix_list (pv 1) pe_int (fun _ _ => rfl)) (pe_fld (pv 0) rfl))) (pss_one (ps_ret (pe_calC (E := E0) c_kind_of_new (hr.mono (by decide)) rfl Z.g_kind_of_new pass0 (pa_cons (pv 0) (pa_cons (pe_ix ix_list (pv 1) pe_int (fun _ _ => rfl)) (pa_cons (pe_ix ix_list (pv 2) pe_int (fun _ _ => rfl)) pa_nil)))))) pss_nil)
 (pss_cons (ps_if (pt_cmp (pc_din (hu_of hr) (pe_ix ix_list (pv 1) pe_int (fun _ _ => rfl)) (pe_fld (pv 0) rfl))) (pss_one (ps_ret (pe_calC (E := E0) c_kind_of_pair (hr.mono (by decide)) rfl Z.g_kind_of_pair pass0 (pa_cons (pv 0) (pa_cons (pe_ix ix_list (pv 1) pe_int (fun _ _ => rfl)) (pa_cons (pv 2) pa_nil)))))) pss_nil)
 (pss_one (ps_ret (pe_calC (E := E0) c_kind_of_doing (hr.mono (by decide)) rfl Z.g_kind_of_doing pass0 (pa_cons (pv 0) (pa_cons (pe_ix ix_list (pv 1) pe_int (fun _ _ => rfl)) (pa_cons (pv 2) pa_nil)))))))))))), ?_⟩
  obtain ⟨a, A, bA, p, l, ws, rfl, rfl, B, hda, hl, hne, hlen, hx, h⟩ := h
  have cl := Z.cl_Plant
  refine ⟨_, rfl, _, rfl, l, ws, rfl, hl, hne, hlen, hx, fun H1 s1 => ⟨_, rfl, if_intro (fun c => ?_) fun c => ?_⟩⟩
  · have c' : ¬ formed ws = true := by simpa using c
    have := h H1 s1
    rw [show kindL p ws = 1 from if_neg c'] at this
    exact this
  have c' : formed ws = true := by simpa using c
  obtain ⟨f, r, rfl, e1, e2, e3⟩ := formed_some c'
  rw [kindL_of c'] at h
  have hl1 := s1 _ _ hl
  refine ⟨_, rfl, _, rfl, l, f, r, rfl, hl1, fun nl hnl => ?_⟩
  have s2 := s1.trans (same_new (o := .lst ((r.take f.names.length).map wv)) hnl)
  have hl2 := s2 _ _ hl
  have B2 := B.mono s2
  have nl2 : (r.take f.names.length).length = f.names.length := by rw [List.length_take]; omega
  obtain ⟨o1, d1, q1⟩ := in_sizes B2 f
  obtain ⟨o2, d2, q2⟩ := in_pairs B2 f
  refine ⟨_, rfl, l, _, (0 : Nat), wv (kw f.s), rfl, rfl, SqL.of hl2, atI_nat rfl, _, rfl, a, _, _, _, _, rfl, B2.obj, cl, Z.n_Plant_sizes, lk_Plant_sizes _ _ _ _ _ _, A.sd, o1, rfl, (by unfold wv; rw [kwS]; exact d1), _, rfl, if_intro (fun c1 => ?_) fun c1 => ?_⟩
  · rw [q1] at c1
    obtain ⟨x, hg⟩ : ∃ x, grp f = .new x := by
      cases e : grp f with
      | new x => exact ⟨x, rfl⟩
      | pair x => rw [e] at c1; cases c1
      | doing => rw [e] at c1; cases c1
    obtain rfl := grp_new hg
    have kf : kindF p x.f (r.take x.f.names.length) = kindNew p x ((r.take x.f.names.length).getD 0 []) := by unfold kindF; rw [hg]
    rw [kf] at h
    obtain ⟨n0, en⟩ : ∃ n0, r.take x.f.names.length = [n0] := by
      have l1 : (r.take x.f.names.length).length = 1 := by rw [nl2]; cases x <;> rfl
      match e : r.take x.f.names.length, l1 with
      | [n0], _ => exact ⟨n0, rfl⟩
    have hnl2 := upd_same (H := H1) (a := nl) (o := .lst ((r.take x.f.names.length).map wv))
    rw [en] at h s2 B2 hl2 hnl2 ⊢
    exact ⟨_, rfl, _, rfl, l, _, (0 : Nat), wv (kw x.f.s), rfl, rfl, SqL.of hl2, atI_nat rfl, _, rfl, nl, _, (0 : Nat), wv n0, rfl, rfl, SqL.of hnl2, atI_nat rfl, _, _, _, rfl, a, A, bA, p, x, n0, rfl, (by unfold wv; rw [kwS]), rfl, B2, h _ s2⟩
  have c1' : (grp f).isNew = false := by rw [← q1]; exact Bool.eq_false_iff.mpr c1
  refine ⟨_, rfl, l, _, (0 : Nat), wv (kw f.s), rfl, rfl, SqL.of hl2, atI_nat rfl, _, rfl, a, _, _, _, _, rfl, B2.obj, cl, Z.n_Plant_pairs, lk_Plant_pairs _ _ _ _ _ _, A.pd, o2, rfl, (by unfold wv; rw [kwS]; exact d2), _, rfl, if_intro (fun c2 => ?_) fun c2 => ?_⟩
  · rw [q2] at c2
    obtain ⟨x, hg⟩ : ∃ x, grp f = .pair x := by
      cases e : grp f with
      | new x => rw [e] at c2; cases c2
      | pair x => exact ⟨x, rfl⟩
      | doing => rw [e] at c2; cases c2
    obtain rfl := grp_pair hg
    have kf : kindF p x.f (r.take x.f.names.length) = kindPair p x (r.take x.f.names.length) := by unfold kindF; rw [hg]
    rw [kf] at h
    exact ⟨_, rfl, _, rfl, l, _, (0 : Nat), wv (kw x.f.s), rfl, rfl, SqL.of hl2, atI_nat rfl, _, rfl, _, _, _, rfl, a, A, bA, p, x, nl, _, rfl, (by unfold wv; rw [kwS]), rfl, B2, upd_same, by rw [nl2]; exact x.two, fun H3 s3 => h H3 (s2.trans s3)⟩
  have hg : grp f = .doing := by
    rw [q2] at c2
    cases e : grp f with
    | new x => rw [e] at c1'; cases c1'
    | pair x => rw [e] at c2; exact absurd rfl c2
    | doing => rfl
  have kf : kindF p f (r.take f.names.length) = kindDoing p f (r.take f.names.length) := by unfold kindF; rw [hg]
  rw [kf] at h
  exact ⟨_, rfl, _, rfl, l, _, (0 : Nat), wv (kw f.s), rfl, rfl, SqL.of hl2, atI_nat rfl, _, rfl, _, _, _, rfl, a, A, bA, p, f, nl, _, rfl, (by unfold wv; rw [kwS]), rfl, B2, hda, upd_same, nl2, by rw [nl2]; exact grp_doing hg, fun H3 s3 => h H3 (s2.trans s3)⟩
def PA.z (A : PA) : Nw → Addr
  | .stuff => A.z1 | .vessel => A.z2 | .unit => A.z3
def PS.szs (p : PS) : Nw → List Nat
  | .stuff => p.stuffs.map fun _ => 0
  | .vessel => p.vessels.map (·.2)
  | .unit => p.units.map (·.2)
def PS.addNew (p : PS) (n : List Nat) (sz : Nat) : Nw → PS
  | .stuff => { p with stuffs := p.stuffs ++ [n] }
  | .vessel => { p with vessels := p.vessels ++ [(n, sz)] }
  | .unit => { p with units := p.units ++ [(n, sz)] }
def PS.addPair (p : PS) (i j k : Nat) : Pr → PS
  | .claim => { p with claims := p.claims ++ [(i, j, k)] }
  | .take => { p with takes := p.takes ++ [(i, j, k)] }
  | .give => { p with gives := p.gives ++ [(i, j, k)] }
def takeF (p : PS) (f : Fm) (ns : List (List Nat)) (xs : List Nat) : PS := match grp f with
  | .new x => p.addNew (ns.getD 0 []) xs.sum x
  | .pair x => p.addPair ((numsOf p f ns).getD 0 0) ((numsOf p f ns).getD 1 0) (xs.getD 0 0) x
  | .doing => { p with doings := p.doings ++ [((numsOf p f ns).getD 0 0, doingOf (numsOf p f ns) xs f)] }
def takeL (p : PS) (ws : List (List Nat)) : PS := match ws with
  | [] => p
  | k :: r => match fmOf k with
    | none => p
    | some f => takeF (p.addLn f.lg (Vbwbzz.joined (kw f.s :: r))) f (r.take f.names.length) ((r.drop f.names.length).map val)
structure Fits (p : PS) : Prop where
  s : p.stuffs.length ≤ 12
  v : p.vessels.length ≤ 12
  u : p.units.length ≤ 6
  c : p.claims.length ≤ 60
  t : p.takes.length ≤ 60
  g : p.gives.length ≤ 60
  d : p.doings.length ≤ 60
def PS.lnLen (p : PS) : Lg → Nat
  | .stuff => p.stuffs.length | .vessel => p.vessels.length | .unit => p.units.length | .claim => p.claims.length | .take => p.takes.length | .give => p.gives.length | .doing => p.doings.length
def LnOk (p : PS) : Prop := ∀ x, (p.ln x).length = p.lnLen x
theorem Fits.lnLen {p : PS} (h : Fits p) (x : Lg) : p.lnLen x ≤ 60 := by
  have := h.s
  have := h.v
  have := h.u
  have := h.c
  have := h.t
  have := h.g
  have := h.d
  cases x <;> (simp only [PS.lnLen]; omega)
theorem Fits.told {p : PS} (h : Fits p) (x : Nw) : (p.told x.wh).length ≤ 12 := by
  cases x
  · exact h.s
  · show (p.vessels.map (·.1)).length ≤ 12; rw [List.length_map]; exact h.v
  · show (p.units.map (·.1)).length ≤ 12; rw [List.length_map]; have := h.u; omega
theorem Fits.prs {p : PS} (h : Fits p) (x : Pr) : (p.prs x).length ≤ 60 := by
  cases x
  · exact h.c
  · exact h.t
  · exact h.g
theorem put1 {H G : Hp} {a : Addr} {A : PA} {bA : BA} {p : PS} (x : Nw) (B : PlantAt K H G a A bA p) (n : List Nat) (sz : Nat) (hs : x = .stuff → sz = 0) :
    (∀ D, (upd H (A.tw bA x.wh) D) (A.z x) = some (.lst ((p.szs x).map natV)) ∧ Same G (upd H (A.tw bA x.wh) D)) ∧ PlantAt K (upd (upd H (A.tw bA x.wh) (.dK (dix (p.told x.wh ++ [n])))) (A.z x) (.lst ((p.szs x).map natV ++ [natV sz]))) G a A bA (p.addNew n sz x) := by
  cases x
  · obtain rfl := hs rfl
    have z0 : H A.z1 = some (.lst (p.stuffs.map fun _ => natV 0)) := B.lay.getAt 3 rfl
    have ne : A.z1 ≠ A.t1 := B.lay.ne 3 0 rfl rfl (by decide)
    have L1 := (B.lay.updAt (o' := .dK (dix (p.stuffs ++ [n]))) 0 rfl).updAt (o' := .lst ((p.stuffs ++ [n]).map fun _ => natV 0)) 3 rfl
    have e : (p.szs .stuff).map natV = p.stuffs.map fun _ => natV 0 := by unfold PS.szs; rw [List.map_map]; rfl
    rw [e]
    refine ⟨fun D => ⟨by rw [show A.tw bA Nw.stuff.wh = A.t1 from rfl, show A.z .stuff = A.z1 from rfl, upd_ne ne]; exact z0, (B.lay.updAt (o' := D) 0 rfl).same⟩, ?_, B.obj, B.told, B.sizes, B.pairs, B.lines, B.book, B.das⟩
    have e2 : (p.stuffs ++ [n]).map (fun _ => natV 0) = p.stuffs.map (fun _ => natV 0) ++ [natV 0] := by simp
    rw [← e2]
    exact L1
  · have z0 : H A.z2 = some (.lst (p.vessels.map fun x => natV x.2)) := B.lay.getAt 4 rfl
    have ne : A.z2 ≠ A.t2 := B.lay.ne 4 1 rfl rfl (by decide)
    have L1 := (B.lay.updAt (o' := .dK (dix ((p.vessels ++ [(n, sz)]).map (·.1)))) 1 rfl).updAt (o' := .lst ((p.vessels ++ [(n, sz)]).map fun x => natV x.2)) 4 rfl
    have e : (p.szs .vessel).map natV = p.vessels.map fun x => natV x.2 := by unfold PS.szs; rw [List.map_map]; rfl
    rw [e]
    refine ⟨fun D => ⟨by rw [show A.tw bA Nw.vessel.wh = A.t2 from rfl, show A.z .vessel = A.z2 from rfl, upd_ne ne]; exact z0, (B.lay.updAt (o' := D) 1 rfl).same⟩, ?_, B.obj, B.told, B.sizes, B.pairs, B.lines, B.book, B.das⟩
    have e2 : (p.vessels ++ [(n, sz)]).map (fun x => natV x.2) = p.vessels.map (fun x => natV x.2) ++ [natV sz] := by simp
    have e3 : (p.vessels ++ [(n, sz)]).map (·.1) = p.told Nw.vessel.wh ++ [n] := by simp [PS.told, Nw.wh]
    rw [← e2, ← e3]
    exact L1
  · have z0 : H A.z3 = some (.lst (p.units.map fun x => natV x.2)) := B.lay.getAt 5 rfl
    have ne : A.z3 ≠ A.t3 := B.lay.ne 5 2 rfl rfl (by decide)
    have L1 := (B.lay.updAt (o' := .dK (dix ((p.units ++ [(n, sz)]).map (·.1)))) 2 rfl).updAt (o' := .lst ((p.units ++ [(n, sz)]).map fun x => natV x.2)) 5 rfl
    have e : (p.szs .unit).map natV = p.units.map fun x => natV x.2 := by unfold PS.szs; rw [List.map_map]; rfl
    rw [e]
    refine ⟨fun D => ⟨by rw [show A.tw bA Nw.unit.wh = A.t3 from rfl, show A.z .unit = A.z3 from rfl, upd_ne ne]; exact z0, (B.lay.updAt (o' := D) 2 rfl).same⟩, ?_, B.obj, B.told, B.sizes, B.pairs, B.lines, B.book, B.das⟩
    have e2 : (p.units ++ [(n, sz)]).map (fun x => natV x.2) = p.units.map (fun x => natV x.2) ++ [natV sz] := by simp
    have e3 : (p.units ++ [(n, sz)]).map (·.1) = p.told Nw.unit.wh ++ [n] := by simp [PS.told, Nw.wh]
    rw [← e2, ← e3]
    exact L1
theorem put2 {H G : Hp} {a : Addr} {A : PA} {bA : BA} {p : PS} (x : Pr) (B : PlantAt K H G a A bA p) (i j k : Nat) : PlantAt K (upd H (A.q x) (.dT (dtp (p.prs x ++ [(i, j, k)])))) G a A bA (p.addPair i j k x) := by
  cases x
  · exact ⟨B.lay.updAt (o' := .dT (dtp (p.claims ++ [(i, j, k)]))) 6 rfl, B.obj, B.told, B.sizes, B.pairs, B.lines, B.book, B.das⟩
  · exact ⟨B.lay.updAt (o' := .dT (dtp (p.takes ++ [(i, j, k)]))) 7 rfl, B.obj, B.told, B.sizes, B.pairs, B.lines, B.book, B.das⟩
  · exact ⟨B.lay.updAt (o' := .dT (dtp (p.gives ++ [(i, j, k)]))) 8 rfl, B.obj, B.told, B.sizes, B.pairs, B.lines, B.book, B.das⟩
/-- what stands already may be fixed -/
theorem Lay.addG {H G : Hp} {ms : List (Addr × HO)} {t : Addr} {o : HO} (L : Lay H G ms) (h : H t = some o) (hm : ∀ q ∈ ms, q.2 ≠ o) : Lay H (L2.upd G t o) ms ∧ Same G (L2.upd G t o) := by
  have ne : ∀ q ∈ ms, q.1 ≠ t := fun q hq e => by
    have := L.at_ q hq
    rw [e, h] at this
    exact hm q hq (Option.some.inj this).symm
  refine ⟨⟨fun b u e => ?_, L.at_, fun q hq => ?_, L.nd⟩, fun b u e => ?_⟩
  · by_cases hb : b = t
    · subst hb; rw [upd_same] at e; cases e; exact h
    · rw [upd_ne hb] at e; exact L.same b u e
  · rw [upd_ne (ne q hq)]; exact L.off q hq
  · by_cases hb : b = t
    · subst hb
      rw [upd_same, ← L.same b u e, h]
    · rw [upd_ne hb]; exact e
theorem plms_tup {A : PA} {p : PS} {xs : List V} : ∀ q ∈ plms A p, q.2 ≠ .tup xs := by
  intro q hq
  simp only [plms, List.mem_cons, List.not_mem_nil, or_false] at hq
  rcases hq with e | e | e | e | e | e | e | e | e | e | e | e | e | e | e | e | e <;> (subst e; exact fun z => by cases z)
theorem put3 {H G : Hp} {a : Addr} {A : PA} {bA : BA} {p : PS} (B : PlantAt K H G a A bA p) (d : Nat × Vbwbzz.Doing) (t : Addr) (hd : DoingAt G t d) : PlantAt K (upd H A.dl (.lst (A.das.map V.ref ++ [.ref t]))) G a { A with das := A.das ++ [t] } bA { p with doings := p.doings ++ [d] } := by
  have L := B.lay.updAt (o' := .lst (A.das.map V.ref ++ [.ref t])) 9 rfl
  refine ⟨?_, B.obj, B.told, B.sizes, B.pairs, B.lines, B.book, by simp [B.das.1], fun i u e h1 h2 => ?_⟩
  · have e : A.das.map V.ref ++ [.ref t] = (A.das ++ [t]).map V.ref := by simp
    rw [e] at L
    rw [e]
    exact L
  · have hl := B.das.1
    replace h1 : (A.das ++ [t])[i]? = some u := h1
    replace h2 : (p.doings ++ [d])[i]? = some e := h2
    by_cases hi : i < A.das.length
    · rw [List.getElem?_append_left hi] at h1
      rw [List.getElem?_append_left (by omega)] at h2
      exact B.das.2 i u e h1 h2
    · rw [List.getElem?_append_right (by omega)] at h1 h2
      rw [← hl] at h2
      cases hz : i - A.das.length with
      | zero => rw [hz] at h1 h2; simp at h1 h2; subst h1 h2; exact hd
      | succ n => rw [hz] at h1; simp at h1
theorem PS.ln_same (p : PS) (x : Lg) (t : List Nat) : (p.addLn x t).ln x = p.ln x ++ [t] := if_pos rfl
theorem PS.ln_ne (p : PS) {x y : Lg} (t : List Nat) (h : y ≠ x) : (p.addLn x t).ln y = p.ln y := if_neg h
theorem put0 {H G : Hp} {a : Addr} {A : PA} {bA : BA} {p : PS} (x : Lg) (B : PlantAt K H G a A bA p) (t : List Nat) : PlantAt K (upd H (A.la x) (.lst ((p.ln x).map wv ++ [wv t]))) G a A bA (p.addLn x t) := by
  have e : (p.ln x).map wv ++ [wv t] = ((p.addLn x t).ln x).map wv := by rw [PS.ln_same]; simp
  rw [e]
  refine ⟨?_, B.obj, B.told, B.sizes, B.pairs, B.lines, B.book, B.das⟩
  cases x
  · exact B.lay.updAt (o' := .lst (((p.addLn .stuff t).ln .stuff).map wv)) 10 rfl
  · exact B.lay.updAt (o' := .lst (((p.addLn .vessel t).ln .vessel).map wv)) 11 rfl
  · exact B.lay.updAt (o' := .lst (((p.addLn .unit t).ln .unit).map wv)) 12 rfl
  · exact B.lay.updAt (o' := .lst (((p.addLn .claim t).ln .claim).map wv)) 13 rfl
  · exact B.lay.updAt (o' := .lst (((p.addLn .take t).ln .take).map wv)) 14 rfl
  · exact B.lay.updAt (o' := .lst (((p.addLn .give t).ln .give).map wv)) 15 rfl
  · exact B.lay.updAt (o' := .lst (((p.addLn .doing t).ln .doing).map wv)) 16 rfl
theorem PlantF.at_ln {H : Hp} {a : Addr} {A : PA} {bA : BA} {p : PS} (B : PlantF K H a A bA p) (x : Lg) : H (A.la x) = some (.lst ((p.ln x).map wv)) := by
  cases x <;> exact B.ent (_, _) (by simp [plms])
theorem in_lines {H : Hp} {a : Addr} {A : PA} {bA : BA} {p : PS} (B : PlantF K H a A bA p) (f : Fm) : (∃ o, DGet H A.ld (.str f.s) o ∧ (o.isSome = true → f.s = f.lg.s) ∧ (o.isSome = false → "doing" = f.lg.s)) ∧ DGet H A.ld (.str f.lg.s) (some (.ref (A.la f.lg))) := by
  constructor
  · have := DGet.k (k := skey f.s) B.lines
    refine ⟨_, this, ?_, ?_⟩
    · cases f <;> first | (intro _; rfl) | (intro h; cases h)
    · cases f <;> first | (intro _; rfl) | (intro h; cases h)
  · have := DGet.k (k := skey f.lg.s) B.lines
    cases f <;> exact this
theorem told_addLn (p : PS) (x : Lg) (t : List Nat) (w : Wh) : (p.addLn x t).told w = p.told w := by cases w <;> rfl
theorem prs_addLn (p : PS) (x : Lg) (t : List Nat) (w : Pr) : (p.addLn x t).prs w = p.prs w := by cases w <;> rfl
theorem toldAll_addLn (p : PS) (x : Lg) (t : List Nat) (f : Fm) (ns : List (List Nat)) : toldAll (p.addLn x t) f ns = toldAll p f ns := by
  unfold toldAll; simp only [told_addLn]
theorem numsOf_addLn (p : PS) (x : Lg) (t : List Nat) (f : Fm) (ns : List (List Nat)) : numsOf (p.addLn x t) f ns = numsOf p f ns := by
  unfold numsOf; simp only [told_addLn]
theorem kindF_addLn (p : PS) (x : Lg) (t : List Nat) (f : Fm) (ns : List (List Nat)) : kindF (p.addLn x t) f ns = kindF p f ns := by
  unfold kindF kindNew kindPair kindDoing
  simp only [told_addLn, prs_addLn, toldAll_addLn, numsOf_addLn]
  rfl
theorem formed_small {ws : List (List Nat)} (h : formed ws = true) : ws.length ≤ 7 ∧ ∀ w ∈ ws, w.length ≤ 12 := by
  obtain ⟨f, r, rfl, e1, e2, e3⟩ := formed_some h
  have hf : f.names.length + f.nums.length ≤ 6 := by cases f <;> (show List.length _ + List.length _ ≤ 6; decide)
  refine ⟨by rw [List.length_cons]; omega, fun w hw => ?_⟩
  rcases List.mem_cons.mp hw with e | hw
  · subst e; cases f <;> (show List.length _ ≤ 12; decide +kernel)
  · obtain ⟨i, hi⟩ := List.mem_iff_getElem?.mp hw
    by_cases c : i < f.names.length
    · have : w ∈ r.take f.names.length := List.mem_of_getElem? (i := i) (by rw [List.getElem?_take_of_lt c]; exact hi)
      have q := List.all_eq_true.mp e2 w this
      unfold Vbwbab.isName at q
      simp only [Bool.and_eq_true] at q
      exact of_decide_eq_true q.2.2.1
    · have hd : (r.drop f.names.length)[i - f.names.length]? = some w := by rw [List.getElem?_drop]; rw [show f.names.length + (i - f.names.length) = i by omega]; exact hi
      have hil := (List.getElem?_eq_some_iff.mp hi).1
      have h2 : f.nums[i - f.names.length]? = some (f.nums[i - f.names.length]'(by omega)) := List.getElem?_eq_getElem (by omega)
      have hz : (w, f.nums[i - f.names.length]'(by omega)) ∈ (r.drop f.names.length).zip f.nums := List.mem_of_getElem? (i := i - f.names.length) (by rw [List.getElem?_zip_eq_some]; exact ⟨hd, h2⟩)
      have q := List.all_eq_true.mp e3 _ hz
      obtain ⟨n, en, _, _⟩ := numB_true q
      obtain ⟨_, ln⟩ := num_text en
      replace ln : w.length ≤ 7 := ln
      omega
theorem sum_small : ∀ {ws : List (List Nat)} {n : Nat}, (∀ w ∈ ws, w.length ≤ n) → (ws.map (·.length)).sum ≤ n * ws.length
  | [], n, _ => by simp
  | w :: r, n, h => by
    have h1 := h w (List.mem_cons_self ..)
    have h2 := sum_small (ws := r) fun x hx => h x (List.mem_cons_of_mem _ hx)
    rw [List.map_cons, List.sum_cons, List.length_cons, Nat.mul_add]; omega
theorem PlantAt.later {H H' G : Hp} {a : Addr} {A : PA} {bA : BA} {p : PS} (B : PlantAt K H G a A bA p) (s : Same H H') : PlantAt K H' G a A bA p := ⟨B.lay.later s, B.obj, B.told, B.sizes, B.pairs, B.lines, B.book, B.das⟩
theorem PlantAt.ghost {H G G' : Hp} {a : Addr} {A : PA} {bA : BA} {p : PS} (B : PlantAt K H G a A bA p) (L : Lay H G' (plms A p)) (s : Same G G') : PlantAt K H G' a A bA p := ⟨L, s _ _ B.obj, s _ _ B.told, s _ _ B.sizes, s _ _ B.pairs, s _ _ B.lines, B.book.mono s, B.das.mono s⟩
theorem if_val {c : Prop} [Decidable c] {σ : L2.St} {i : Nat} {v u w : V} {H : Hp} {P : V → Hp → Prop} (hv : σ[i]? = some (some v)) (h1 : c → v = w) (h2 : ¬ c → u = w) (h : P w H) : if c then tVar i σ H P else P u H :=
  if_intro (fun z => ⟨v, hv, by rw [h1 z]; exact h⟩) fun z => by rw [h2 z]; exact h
def sp_take_line (K : PySem.W.Frag) : Sp := sp2 fun v v1 H Q _ => ∃ (a : Addr) (A : PA) (bA : BA) (p : PS) (G : Hp) (l : Addr) (ws : List (List Nat)), v = .ref a ∧ v1 = .ref l ∧ PlantAt K H G a A bA p ∧ Fits p ∧ LnOk p ∧ G l = some (.lst (ws.map wv)) ∧ kindL p ws = 0 ∧
  ∀ (H' G' : Hp) (A' : PA), Same G G' → PlantAt K H' G' a A' bA (takeL p ws) → Q .non H'
theorem ok_take_line (Z : Tx w K mg) : Cal P w K mg base CX0 4 (He.fAd K ("take_line", none)) ["plant", "words"] (sp_take_line K) := by
  obtain ⟨fd, F⟩ := Z.fd_take_line
  have c_names_in := ok_names_in (P := P) (w := w) (base := base) Z
  have c_numbers_in := ok_numbers_in (P := P) (w := w) (base := base) Z
  have c_line_of := ok_line_of (P := P) (w := w) (base := base) Z
  have c_Plant_numbers_of := ok_Plant_numbers_of (P := P) (w := w) (base := base) Z
  refine ⟨⟨fd, F.ok sc_take_line (fun vs H Q E h => ?_) (fun cdv A outer s H vs Q E hr h => ?_), F.bindsN fun _ _ _ _ _ _ us hl => match us, hl with | [_, _], _ => rfl⟩, F.kp⟩
  · exact sp2_len h
  have sc := sc_take_line
  have nd : N_take_line.Nodup := sc.nd
  replace h := sp2_get h
  obtain ⟨v_plant, v_words, rfl, h⟩ := h
  refine ⟨_, PSs.nox (by exact ((pss_cons (ps_set (i := 2) nd rfl (by first | exact Or.inl rfl | exact Or.inr rfl) (pe_ix ix_list (pv 1) pe_int (fun _ _ => rfl)))
 (pss_cons (ps_set (i := 3) nd rfl (by first | exact Or.inl rfl | exact Or.inr rfl) (pe_calC (E := E0) c_names_in (hr.mono (by decide)) rfl Z.g_names_in pass0 (pa_cons (pv 1) pa_nil)))
 (pss_cons (ps_setLc (i := 4) (own := [("number", 5)]) (g := (gName 5)) rfl nd rfl rfl (sw_true rfl rfl rfl (by decide +kernel)) (pi_list (pe_calC (E := E0) c_numbers_in (hr.mono (by decide)) rfl Z.g_numbers_in pass0 (pa_cons (pv 1) pa_nil))) (blkOk_by (own := [("number", 5)]) (N := N_take_line) (sc := defScope s_take_line) (by decide +kernel)) (fun _ _ _ _ _ => (pg_name (i := 5) nd rfl (by first | exact Or.inl rfl | exact Or.inr rfl))) (fun _ _ _ _ _ => pts_nil) (fun _ _ _ _ _ => (pe_callTy call_int_str (by rfl) Z.b_int (by decide +kernel) (pa_cons (pv 5) pa_nil))))
 (pss_cons (ps_expr (pe_bm PySem.F.plainAttrs_list PySem.F.slot_list_append PySem.F.type_list_append mt_append (pe_dget (hu_of hr) (pe_fld (pv 0) rfl) (pe_ifExp (pt_cmp (pc_din (hu_of hr) (pv 2) (pe_fld (pv 0) rfl))) (pv 2) pe_str) (fun _ _ => rfl)) (pa_cons (pe_calC (E := E0) c_line_of (hr.mono (by decide)) rfl Z.g_line_of pass0 (pa_cons (pv 1) pa_nil)) pa_nil)))
 (pss_one (ps_if (pt_cmp (pc_din (hu_of hr) (pv 2) (pe_fld (pv 0) rfl))) (pss_cons (ps_dput (hu_of hr) (pe_dget (hu_of hr) (pe_fld (pv 0) rfl) (pv 2) (fun _ _ => rfl)) (pe_ix ix_list (pv 3) pe_int (fun _ _ => rfl)) (pe_callB call_lenD (by rfl) Z.b_len (by decide +kernel) (pa_cons (pe_dget (hu_of hr) (pe_fld (pv 0) rfl) (pv 2) (fun _ _ => rfl)) pa_nil)) rfl)
 (pss_one (ps_expr (pe_bm PySem.F.plainAttrs_list PySem.F.slot_list_append PySem.F.type_list_append mt_append (pe_dget (hu_of hr) (pe_fld (pv 0) rfl) (pv 2) (fun _ _ => rfl)) (pa_cons (pe_callB (cr_sum rfl) (by rfl) Z.b_sum (by decide +kernel) (pa_cons (pv 4) pa_nil)) pa_nil))))) (pss_one (ps_if (pt_cmp (pc_din (hu_of hr) (pv 2) (pe_fld (pv 0) rfl))) (pss_one (ps_dput (hu_of hr) (pe_dget (hu_of hr) (pe_fld (pv 0) rfl) (pv 2) (fun _ _ => rfl)) (pe_metC (E := E0) (pv 0) Z.cl_Plant Z.m_Plant_numbers_of c_Plant_numbers_of (hr.mono (by decide)) pass0 (pa_cons (pv 2) (pa_cons (pv 3) pa_nil))) (pe_ix ix_list (pv 4) pe_int (fun _ _ => rfl)) rfl)) (pss_one (ps_expr (pe_bm PySem.F.plainAttrs_list PySem.F.slot_list_append PySem.F.type_list_append mt_append (pe_fld (pv 0) rfl) (pa_cons (pe_tup (pa_cons (pv 2) (pa_cons (pe_metC (E := E0) (pv 0) Z.cl_Plant Z.m_Plant_numbers_of c_Plant_numbers_of (hr.mono (by decide)) pass0 (pa_cons (pv 2) (pa_cons (pv 3) pa_nil))) (pa_cons (pe_callTy call_tuple_of (by rfl) Z.b_tuple (by decide +kernel) (pa_cons (pv 4) pa_nil)) pa_nil)))) pa_nil)))))))))))))), ?_⟩
  obtain ⟨a, A, bA, p, G, l, ws, rfl, rfl, B, F1, FL, hl, hk, hQ⟩ := h
  have cl := Z.cl_Plant
  have hf : formed ws = true := by
    unfold kindL at hk
    by_cases e : formed ws = true
    · exact e
    · rw [if_neg e] at hk; cases hk
  obtain ⟨f, r, rfl, e1, e2, e3⟩ := formed_some hf
  rw [kindL_of hf] at hk
  have hH := B.lay.same _ _ hl
  have nn : (r.take f.names.length).length = f.names.length := by rw [List.length_take]; omega
  have nd2 : (r.drop f.names.length).length = f.nums.length := by rw [List.length_drop]; omega
  have eT : takeL p (kw f.s :: r) = takeF (p.addLn f.lg (Vbwbzz.joined (kw f.s :: r))) f (r.take f.names.length) ((r.drop f.names.length).map val) := by
    unfold takeL; simp only [fmOf_kw]
  rw [eT] at hQ
  refine ⟨_, rfl, l, _, (0 : Nat), wv (kw f.s), rfl, rfl, SqL.of hH, atI_nat rfl, _, rfl, _, rfl, l, f, r, rfl, hH, fun nl hnl => ?_⟩
  obtain ⟨L1, g1⟩ := (B.lay.new (o := .lst ((r.take f.names.length).map wv)) hnl).fix
  have s1 := same_new (o := .lst ((r.take f.names.length).map wv)) hnl
  have B1 := (B.later s1).ghost L1 g1
  have hn1 := upd_same (H := G) (a := nl) (o := .lst ((r.take f.names.length).map wv))
  generalize upd G nl (.lst ((r.take f.names.length).map wv)) = G1 at L1 g1 B1 hn1
  generalize upd H nl (.lst ((r.take f.names.length).map wv)) = H1 at L1 s1 B1
  refine ⟨_, rfl, _, rfl, l, f, r, rfl, s1 _ _ hH, fun dl hdl => ?_⟩
  obtain ⟨L2, g2⟩ := (B1.lay.new (o := .lst ((r.drop f.names.length).map wv)) hdl).fix
  have s2 := s1.trans (same_new (o := .lst ((r.drop f.names.length).map wv)) hdl)
  have B2 := (B1.later (same_new (o := .lst ((r.drop f.names.length).map wv)) hdl)).ghost L2 g2
  have hn2 := g2 _ _ hn1
  have hd2 := upd_same (H := H1) (a := dl) (o := .lst ((r.drop f.names.length).map wv))
  have gg := g1.trans g2
  generalize upd G1 dl (.lst ((r.drop f.names.length).map wv)) = G2 at L2 g2 B2 hn2 gg
  generalize upd H1 dl (.lst ((r.drop f.names.length).map wv)) = H2 at L2 s2 B2 hd2
  have few : f.nums.length ≤ 2 := by cases f <;> (show List.length _ ≤ 2; decide)
  refine ⟨dl, rfl, ⟨_, SqL.of hd2⟩, fun D hD => lc_fn walk_list (fun i => natV (((r.drop f.names.length)[i]?.map val).getD 0)) hD (fun H3 s3 => s3.seq (SqL.of hd2)) (by rw [List.length_map]; exact line_lt (by omega)) ?_ ?_⟩
  · rintro i x H3 H4 R hi s3 ⟨rfl, hx⟩ k
    rw [List.length_map] at hi
    have h1 : (r.drop f.names.length)[i]? = some (r.drop f.names.length)[i] := List.getElem?_eq_getElem hi
    have h2 : f.nums[i]? = some (f.nums[i]'(by omega)) := List.getElem?_eq_getElem (by omega)
    generalize (r.drop f.names.length)[i] = nb at h1
    generalize f.nums[i]'(by omega) = mx at h2
    rw [List.getElem?_map, h1] at hx
    cases hx
    have hz : ((r.drop f.names.length).zip f.nums)[i]? = some (nb, mx) := by rw [List.getElem?_zip_eq_some]; exact ⟨h1, h2⟩
    have hb := List.all_eq_true.mp e3 (nb, mx) (List.mem_of_getElem? hz)
    obtain ⟨n, en, _, _⟩ := numB_true hb
    obtain ⟨tn, ln⟩ := num_text en
    replace ln : nb.length ≤ 7 := ln
    have vn : val nb = n := by unfold val; rw [en]; rfl
    have k1 := k H4 (Same.refl H4)
    rw [h1] at k1
    simp only [Option.map_some, Option.getD_some, vn] at k1
    exact ⟨rfl, _, rfl, S nb, n, rfl, tn, (by have := len_S nb; omega), k1⟩
  intro H3 s3 hD3
  have eD : (List.range (List.map wv (List.drop f.names.length r)).length).map (fun i => natV (((r.drop f.names.length)[i]?.map val).getD 0)) = ((r.drop f.names.length).map val).map natV := by
    rw [List.map_map, List.length_map]
    exact range_list (r.drop f.names.length) _ _ fun i x hx => by rw [hx]; rfl
  rw [eD] at hD3
  have B3 := B2.later s3
  have F3 := B3.f
  obtain ⟨xs, exs⟩ : ∃ xs, xs = (r.drop f.names.length).map val := ⟨_, rfl⟩
  rw [← exs] at hD3 hQ
  obtain ⟨ns, ens⟩ : ∃ ns, ns = r.take f.names.length := ⟨_, rfl⟩
  rw [← ens] at hn2 hk hQ nn
  have lxs : xs.length = f.nums.length := by rw [exs, List.length_map]; exact nd2
  have hn3 := s3 _ _ (B2.lay.same _ _ hn2)
  have ekw : wv (kw f.s) = V.str f.s := by unfold wv; rw [kwS]
  rw [ekw]
  obtain ⟨⟨o3, d3, q31, q32⟩, d4⟩ := in_lines F3 f
  obtain ⟨sm1, sm2⟩ := formed_small hf
  have smS := sum_small sm2
  have hl3 := s3 _ _ (s2 _ _ hH)
  refine ⟨_, rfl, a, _, _, _, _, rfl, F3.obj, cl, Z.n_Plant_lines, lk_Plant_lines _ _ _ _ _ _, _, rfl, _, rfl, a, _, _, _, _, rfl, F3.obj, cl, Z.n_Plant_lines, lk_Plant_lines _ _ _ _ _ _, A.ld, o3, rfl, d3, _, rfl, ?_⟩
  refine if_val (w := .str f.lg.s) rfl (fun c => by rw [q31 c]) (fun c => by rw [q32 (by simpa using c)]) ?_
  refine ⟨A.ld, _, rfl, d4, .inl ⟨rfl, _, SqL.of (F3.at_ln f.lg)⟩, _, rfl, _, rfl, l, _, _, rfl, hl3, TxL.strs (kw f.s :: r), by omega, by omega, fun H4 s4 => ?_⟩
  have B4 := B3.later s4
  refine ⟨A.la f.lg, _, _, rfl, rfl, B4.f.at_ln f.lg, by rw [List.length_map, FL f.lg]; exact line_lt (by have := F1.lnLen f.lg; omega), ?_⟩
  have hD4 := s4 _ _ hD3
  have B5 := put0 f.lg B4 (Vbwbzz.joined (kw f.s :: r))
  have nD : D ≠ A.la f.lg := by
    rintro rfl
    rw [B2.f.at_ln f.lg] at hD; cases hD
  have hD5 : (upd H4 (A.la f.lg) (.lst ((p.ln f.lg).map wv ++ [wv (Vbwbzz.joined (kw f.s :: r))]))) D = some (.lst (xs.map natV)) := by rw [upd_ne nD]; exact hD4
  clear hD3 hn3 hl3 d3 d4 q31 q32 o3 hD4 F3
  have F5 : Fits (p.addLn f.lg (Vbwbzz.joined (kw f.s :: r))) := ⟨F1.s, F1.v, F1.u, F1.c, F1.t, F1.g, F1.d⟩
  have hk5 : kindF (p.addLn f.lg (Vbwbzz.joined (kw f.s :: r))) f ns = 0 := by rw [kindF_addLn]; exact hk

  show (fun H3 : Hp => _) (upd H4 (A.la f.lg) (.lst ((p.ln f.lg).map wv ++ [wv (Vbwbzz.joined (kw f.s :: r))])))
  clear hk F1 FL B3 B4 hD s3 s4
  generalize upd H4 (A.la f.lg) (.lst ((p.ln f.lg).map wv ++ [wv (Vbwbzz.joined (kw f.s :: r))])) = H3 at B5 hD5 ⊢
  generalize p.addLn f.lg (Vbwbzz.joined (kw f.s :: r)) = p at B5 F5 hk5 hQ
  have F1 := F5
  have hk := hk5
  have B3 := B5
  have hD3 := hD5
  have F3 := B3.f
  have hn3 := B3.lay.same _ _ hn2
  obtain ⟨o1, d1, q1⟩ := in_sizes F3 f
  obtain ⟨o2, d2, q2⟩ := in_pairs F3 f
  refine ⟨_, rfl, _, rfl, a, _, _, _, _, rfl, F3.obj, cl, Z.n_Plant_sizes, lk_Plant_sizes _ _ _ _ _ _, A.sd, o1, rfl, d1, _, rfl, if_intro (fun c1 => ?_) fun c1 => ?_⟩
  · rw [q1] at c1
    obtain ⟨x, hg⟩ : ∃ x, grp f = .new x := by
      cases e : grp f with
      | new x => exact ⟨x, rfl⟩
      | pair x => rw [e] at c1; cases c1
      | doing => rw [e] at c1; cases c1
    obtain rfl := grp_new hg
    have kf : kindF p x.f ns = kindNew p x (ns.getD 0 []) := by unfold kindF; rw [hg]
    rw [kf] at hk
    obtain ⟨n0, en⟩ : ∃ n0, ns = [n0] := by
      have l1 : ns.length = 1 := by rw [nn]; cases x <;> rfl
      match e : ns, l1 with
      | [n0], _ => exact ⟨n0, rfl⟩
    have tf : takeF p x.f ns xs = p.addNew (ns.getD 0 []) xs.sum x := by unfold takeF; rw [hg]
    rw [tf] at hQ
    rw [en] at hk hn3 hQ
    replace hk : kindNew p x n0 = 0 := hk
    have nc : (p.told x.wh).contains n0 = false := by
      unfold kindNew at hk
      by_cases e : (p.told x.wh).contains n0 = true
      · rw [if_pos e] at hk; cases hk
      · simpa using e
    have hz : x = .stuff → xs.sum = 0 := fun e => by
      subst e
      have : xs = [] := List.length_eq_zero_iff.mp lxs
      rw [this]; rfl
    obtain ⟨pz, pB⟩ := put1 x B3 n0 xs.sum hz
    obtain ⟨t1, t2⟩ := F3.at_told x.wh
    have t2' : DGet H3 A.td (.str x.f.s) (some (.ref (A.tw bA x.wh))) := by
      have := t2
      unfold whv at this
      rw [Nw.s] at this
      exact this
    have eput : putK (dix (p.told x.wh)) (Sum.inr (S n0)) (V.int (dix (p.told x.wh)).length) = dix (p.told x.wh ++ [n0]) := by
      rw [putK_new _ (by rw [valV_dix, idx_none.mpr nc]; rfl), dix_snoc, dix_len]
    have dp := DPut.k (k := Sum.inr (S n0)) (v := V.int (dix (p.told x.wh)).length) t1 (by rw [dix_len]; exact line_lt (by have := F1.told x; omega))
    rw [eput] at dp
    obtain ⟨z1, sG⟩ := pz (.dK (dix (p.told x.wh ++ [n0])))
    obtain ⟨zz, dz⟩ : ∃ zz, DGet (upd H3 (A.tw bA x.wh) (.dK (dix (p.told x.wh ++ [n0])))) A.sd (.str x.f.s) (some (.ref (A.z x))) := ⟨(), by
      have := DGet.k (k := skey x.f.s) (sG _ _ B3.sizes)
      cases x <;> exact this⟩
    have hDx : (upd H3 (A.tw bA x.wh) (.dK (dix (p.told x.wh ++ [n0])))) D = some (.lst (xs.map natV)) := by
      rw [upd_ne]
      · exact hD3
      · rintro rfl
        rw [hD3] at t1; cases t1
    have sx : (xs.map natV) = (xs.map fun n : Nat => (n : Int)).map V.int := by rw [List.map_map]; rfl
    have zl : (p.szs x).length ≤ 12 := by
      cases x
      · show (p.stuffs.map _).length ≤ 12; rw [List.length_map]; exact F1.s
      · show (p.vessels.map _).length ≤ 12; rw [List.length_map]; exact F1.v
      · show (p.units.map _).length ≤ 12; rw [List.length_map]; have := F1.u; omega
    refine ⟨_, rfl, a, _, _, _, _, rfl, F3.obj, cl, Z.n_Plant_told, lk_Plant_told _ _ _ _ _ _, _, rfl, A.td, _, rfl, t2', A.tw bA x.wh, _, rfl, t1, _, rfl, a, _, _, _, _, rfl, F3.obj, cl, Z.n_Plant_told, lk_Plant_told _ _ _ _ _ _, _, rfl, A.td, _, rfl, t2', _, rfl, nl, _, (0 : Nat), wv n0, rfl, rfl, SqL.of hn3, atI_nat rfl, A.tw bA x.wh, _, rfl, dp, ?_⟩
    refine ⟨_, rfl, a, _, _, _, _, rfl, sG _ _ B3.obj, cl, Z.n_Plant_sizes, lk_Plant_sizes _ _ _ _ _ _, _, rfl, A.sd, _, rfl, dz, .inl ⟨rfl, _, SqL.of z1⟩, _, rfl, D, xs.map fun n : Nat => (n : Int), rfl, SqL.of (by rw [hDx, sx]), A.z x, _, _, rfl, rfl, z1, by rw [List.length_map]; exact line_lt (by omega), ?_⟩
    rw [sum_nat]
    exact hQ _ _ A gg pB
  have c1' : (grp f).isNew = false := by rw [← q1]; exact Bool.eq_false_iff.mpr c1
  refine ⟨_, rfl, _, rfl, a, _, _, _, _, rfl, F3.obj, cl, Z.n_Plant_pairs, lk_Plant_pairs _ _ _ _ _ _, A.pd, o2, rfl, d2, _, rfl, if_intro (fun c2 => ?_) fun c2 => ?_⟩
  · rw [q2] at c2
    obtain ⟨x, hg⟩ : ∃ x, grp f = .pair x := by
      cases e : grp f with
      | new x => rw [e] at c2; cases c2
      | pair x => exact ⟨x, rfl⟩
      | doing => rw [e] at c2; cases c2
    obtain rfl := grp_pair hg
    have kf : kindF p x.f ns = kindPair p x ns := by unfold kindF; rw [hg]
    rw [kf] at hk
    have tf : takeF p x.f ns xs = p.addPair ((numsOf p x.f ns).getD 0 0) ((numsOf p x.f ns).getD 1 0) (xs.getD 0 0) x := by unfold takeF; rw [hg]
    rw [tf] at hQ
    have en2 : ns.length = 2 := by rw [nn]; exact x.two
    obtain ⟨k0, ex⟩ : ∃ k0, xs = [k0] := by
      have l1 : xs.length = 1 := by rw [lxs]; cases x <;> rfl
      match e : xs, l1 with
      | [k0], _ => exact ⟨k0, rfl⟩
    rw [ex] at hD3 hQ
    obtain ⟨i, hi⟩ : ∃ i, i = (numsOf p x.f ns).getD 0 0 := ⟨_, rfl⟩
    obtain ⟨j, hj⟩ : ∃ j, j = (numsOf p x.f ns).getD 1 0 := ⟨_, rfl⟩
    have hn := nums_two (p := p) (x := x) en2
    unfold kindPair at hk
    rw [← hi, ← hj] at hn hQ hk
    have hT : toldAll p x.f ns = true := by
      by_cases e : toldAll p x.f ns = true
      · exact e
      · rw [if_neg e] at hk; cases hk
    rw [if_pos hT] at hk
    have hnone : pairAt (p.prs x) i j = none := by
      cases e : pairAt (p.prs x) i j with
      | none => rfl
      | some c => rw [e] at hk; cases hk
    obtain ⟨p1, p2⟩ := F3.at_pairs x
    refine ⟨_, rfl, D, _, (0 : Nat), natV k0, rfl, rfl, SqL.of hD3, atI_nat rfl, _, rfl, a, _, _, _, _, rfl, F3.obj, cl, Z.n_Plant_pairs, lk_Plant_pairs _ _ _ _ _ _, _, rfl, A.pd, _, rfl, p2, _, rfl, a, _, _, rfl, F3.obj, lm_Plant_numbers_of _ _ _ _ _ _, _, rfl, _, rfl, _, _, _, rfl, a, A, bA, p, x.f, nl, ns, rfl, rfl, rfl, F3, hn3, nn, hT, fun H5 t s5 ht => ?_⟩
    have p5 := s5 _ _ p1
    refine ⟨A.q x, upd H5 (A.q x) (.dT (dtp (p.prs x ++ [(i, j, k0)]))), rfl, .inr ⟨_, [Sum.inl (i : Int), Sum.inl (j : Int)], t, p5, rfl, ?_, ?_, ?_⟩, hQ _ _ A gg (put2 x (B3.later s5) i j k0)⟩
    · unfold TupAt at ht
      rw [hn] at ht
      exact ht
    · show (List.map _ _).length < _
      rw [List.length_map]
      exact line_lt (by have := F1.prs x; omega)
    · congr 2
      rw [putK_new _ (by rw [valV_dtp, hnone]; rfl)]
      unfold dtp
      rw [List.map_append]; rfl
  have hg : grp f = .doing := by
    rw [q2] at c2
    cases e : grp f with
    | new x => rw [e] at c1'; cases c1'
    | pair x => rw [e] at c2; exact absurd rfl c2
    | doing => rfl
  have kf : kindF p f ns = kindDoing p f ns := by unfold kindF; rw [hg]
  rw [kf] at hk
  have tf : takeF p f ns xs = { p with doings := p.doings ++ [((numsOf p f ns).getD 0 0, doingOf (numsOf p f ns) xs f)] } := by unfold takeF; rw [hg]
  rw [tf] at hQ
  unfold kindDoing at hk
  have hT : toldAll p f ns = true := by
    by_cases e : toldAll p f ns = true
    · exact e
    · rw [if_neg e] at hk; cases hk
  have hdl3 : H3 A.dl = some (.lst (A.das.map V.ref)) := F3.ent (A.dl, _) (by simp [plms])
  refine ⟨_, rfl, a, _, _, _, _, rfl, F3.obj, cl, Z.n_Plant_doings, lk_Plant_doings _ _ _ _ _ _, .inl ⟨rfl, _, SqL.of hdl3⟩, _, rfl, _, rfl, a, _, _, rfl, F3.obj, lm_Plant_numbers_of _ _ _ _ _ _, _, rfl, _, rfl, _, _, _, rfl, a, A, bA, p, f, nl, ns, rfl, rfl, rfl, F3, hn3, nn, hT, fun H5 t s5 ht => ?_⟩
  have hD5 := s5 _ _ hD3
  refine ⟨_, rfl, D, _, rfl, .inl ⟨SqL.of hD5, fun t2 ht2 => ⟨(by show 3 ≤ sizeLine; decide), fun t3 ht3 => ?_⟩⟩⟩
  have s6 := same_new (o := .tup (xs.map natV)) ht2
  have s6' := same_new (o := .tup [.str f.s, .ref t, .ref t2]) ht3
  have s7 := (s5.trans s6).trans s6'
  have B7 := B3.later s7
  have hdo : f.does = true := by cases f <;> first | rfl | (cases hg; done)
  obtain ⟨L8, g8⟩ := B7.lay.addG (t := t) (o := .tup ((numsOf p f ns).map natV)) (s6' _ _ (s6 _ _ ht)) plms_tup
  obtain ⟨L9, g9⟩ := L8.addG (t := t2) (o := .tup (xs.map natV)) (s6' _ _ upd_same) plms_tup
  obtain ⟨L10, g10⟩ := L9.addG (t := t3) (o := .tup [.str f.s, .ref t, .ref t2]) upd_same plms_tup
  have lnm : (numsOf p f ns).length = f.names.length := by unfold numsOf; rw [List.length_map, List.length_zip]; omega
  have DA : DoingAt (upd (upd (upd G2 t (.tup ((numsOf p f ns).map natV))) t2 (.tup (xs.map natV))) t3 (.tup [.str f.s, .ref t, .ref t2])) t3 ((numsOf p f ns).getD 0 0, doingOf (numsOf p f ns) xs f) :=
    ⟨f, numsOf p f ns, xs, t, t2, hdo, lnm, lxs, rfl, upd_same, g10 _ _ (g9 _ _ upd_same), g10 _ _ upd_same⟩
  have B10 := ((B7.ghost L8 g8).ghost L9 g9).ghost L10 g10
  exact ⟨A.dl, A.das.map V.ref, .ref t3, rfl, rfl, s7 _ _ hdl3, by rw [List.length_map, B3.das.1]; exact line_lt (by have := F1.d; omega), hQ _ _ _ (((gg.trans g8).trans g9).trans g10) (put3 B10 _ t3 DA)⟩
end
end Bw
end

section
set_option Elab.async false
set_option linter.all false
set_option maxRecDepth 100000
set_option maxHeartbeats 4000000
/-! The spots of a recipe. -/
namespace Bw
open PySem PySem.Spec PyProof.Rows L2 TL
def srt (l : List Int) : List Int := l.mergeSort fun a b => decide (a ≤ b)
theorem srt_of {l l' : List Int} (h : l'.Perm l) (s : l'.Pairwise (· ≤ ·)) : l' = srt l := by
  refine List.Perm.eq_of_pairwise (le := (· ≤ ·)) (fun a b _ _ h1 h2 => Int.le_antisymm h1 h2) s ?_ (h.trans (List.mergeSort_perm l _).symm)
  have := List.pairwise_mergeSort (le := fun a b : Int => decide (a ≤ b)) (by intro a b c; simp; omega) (by intro a b; simp; omega) l
  exact this.imp fun h => of_decide_eq_true h
def intL (l : List Nat) : List Int := l.map fun n : Nat => (n : Int)
theorem natV_ints (l : List Nat) : l.map natV = (intL l).map V.int := by unfold intL; rw [List.map_map]; rfl
section
variable {P : Program} {w : World} {K : PySem.W.Frag} {mg : Str → Option Value} {base : Heap}
def TupI (H : Hp) (t : Addr) (l : List Int) : Prop := H t = some (.tup (l.map V.int))
theorem flat_int (l : List Int) : (l.map V.int).all flatV = true := by rw [List.all_map, List.all_eq_true]; intro x _; rfl
theorem inV_int (x : Int) (l : List Int) : inV (.int x) (l.map V.int) = l.contains x := by
  unfold inV
  rw [List.any_map]
  induction l with
  | nil => rfl
  | cons y r ih =>
    rw [List.any_cons, List.contains_cons, ih]
    congr 1
    show eqV (.int y) (.int x) = (x == y)
    have : eqV (.int y) (.int x) = decide (y = x) := rfl
    rw [this]
    by_cases h : y = x
    · subst h; simp
    · rw [decide_eq_false h]; simp; exact fun z => h z.symm
def canB (mv : Mv) (m : List Int) : Bool := mv.pre.all fun p : Nat => m.contains (p : Int)
def sp_can_be (K : PySem.W.Frag) : Sp := sp2 fun v v1 H Q _ => ∃ (a t : Addr) (mv : Mv) (m : List Int), v = .ref a ∧ v1 = .ref t ∧ MoveAt K H a mv ∧ TupI H t m ∧ mv.pre.length ≤ 1000 ∧ ∀ H', Same H H' → Q (.bl (canB mv m)) H'
theorem ok_can_be (Z : Tx w K mg) : Cal P w K mg base CX0 1 (He.fAd K ("can_be", none)) ["move", "marked"] (sp_can_be K) := by
  obtain ⟨fd, F⟩ := Z.fd_can_be
  refine ⟨⟨fd, F.ok sc_can_be (fun vs H Q E h => ?_) (fun cdv A outer s H vs Q E hr h => ?_), F.bindsN fun _ _ _ _ _ _ us hl => match us, hl with | [_, _], _ => rfl⟩, F.kp⟩
  · exact sp2_len h
  have sc := sc_can_be
  have nd : N_can_be.Nodup := sc.nd
  replace h := sp2_get h
  obtain ⟨v_move, v_marked, rfl, h⟩ := h
  refine ⟨_, PSs.nox (by exact ((pss_one (ps_ret (pe_callB (cr_all rfl) (by rfl) Z.b_all (by decide +kernel) (pa_cons (pe_lc (own := [("place", 2)]) (g := (gName 2)) rfl nd (pi_tup (pe_fld (pv 0) rfl)) (blkOk_by (own := [("place", 2)]) (N := N_can_be) (sc := defScope s_can_be) (by decide +kernel)) (fun _ _ _ _ _ => (pg_name (i := 2) nd rfl (by first | exact Or.inl rfl | exact Or.inr rfl))) (fun _ _ _ _ _ => pts_nil) (fun _ _ _ _ _ => (pe_cmpR (op_in_seqK (K := K) rfl) (pv 2) (pv 1) rfl))) pa_nil)))))), ?_⟩
  obtain ⟨a, t, mv, m, rfl, rfl, hM, ht, hl, h⟩ := h
  obtain ⟨dx, b, f, kd, n, h1, h2, h3, h4⟩ := hM
  have cl := Z.cl_Move
  refine ⟨_, rfl, a, _, _, _, _, rfl, h1, cl, Z.n_Move_before, lk_Move_before _ _ _ _, b, rfl, ⟨_, .inl (.inl h2)⟩, fun D hD => lc_fn walk_tup (fun i => .bl ((mv.pre[i]?.map fun p : Nat => m.contains (p : Int)).getD false)) hD (fun H2 s2 => .inl (.inl (s2 _ _ h2))) (by rw [List.length_map]; exact line_lt (by omega)) ?_ ?_⟩
  · rintro i x H2 H3 R hi s2 ⟨rfl, hx⟩ k
    rw [List.length_map] at hi
    have hg : mv.pre[i]? = some mv.pre[i] := List.getElem?_eq_getElem hi
    generalize mv.pre[i] = p at hg
    rw [List.getElem?_map, hg] at hx
    cases hx
    have k1 := k H3 (Same.refl H3)
    rw [hg] at k1
    refine ⟨rfl, _, rfl, _, rfl, t, _, rfl, .inr (.inl (.inl (s2 _ _ ht))), rfl, flat_int m, ?_⟩
    have e := inV_int (p : Int) m
    simp only [Bool.false_eq_true, if_false]
    rw [show natV p = V.int p from rfl, e]
    exact k1
  intro H2 s2 hD2
  have ea : canB mv m = (mv.pre.map fun p : Nat => m.contains (p : Int)).all id := by unfold canB; rw [List.all_map]; rfl
  refine ⟨D, _, rfl, SqL.of ?_, by rw [← ea]; exact h H2 s2⟩
  rw [hD2, List.map_map, List.length_map]
  congr 2
  exact range_list mv.pre _ _ fun i x hx => by rw [hx]; rfl
def sp_zip2 (f : Int → Int → Int) : Sp := sp2 fun v v1 H Q _ => ∃ (a b : Addr) (xs ys : List Int), v = .ref a ∧ v1 = .ref b ∧ TupI H a xs ∧ TupI H b ys ∧ xs.length ≤ 1000 ∧ ∀ H' t, Same H H' → TupI H' t (List.zipWith f xs ys) → Q (.ref t) H'
theorem ok_added (Z : Tx w K mg) : Cal P w K mg base CX0 1 (He.fAd K ("added", none)) ["held", "amounts"] (sp_zip2 fun x y => x + y) := by
  obtain ⟨fd, F⟩ := Z.fd_added
  refine ⟨⟨fd, F.ok sc_added (fun vs H Q E h => ?_) (fun cdv A outer s H vs Q E hr h => ?_), F.bindsN fun _ _ _ _ _ _ us hl => match us, hl with | [_, _], _ => rfl⟩, F.kp⟩
  · exact sp2_len h
  have sc := sc_added
  have nd : N_added.Nodup := sc.nd
  replace h := sp2_get h
  obtain ⟨v_held, v_amounts, rfl, h⟩ := h
  refine ⟨_, PSs.nox (by exact ((pss_one (ps_ret (pe_callTy call_tuple_of (by rfl) Z.b_tuple (by decide +kernel) (pa_cons (pe_lc (own := [("have", 2), ("more", 3)]) (g := (gTup K 2 (gCons (gName 2) (gCons (gName 3) gNil)))) rfl nd (pi_zipX true true (K := K) rfl (by rfl) Z.b_zip (pa_cons (pv 0) (pa_cons (pv 1) pa_nil))) (blkOk_by (own := [("have", 2), ("more", 3)]) (N := N_added) (sc := defScope s_added) (by decide +kernel)) (fun _ _ _ _ _ => (pg_tupK (K := K) rfl rfl (pgs_cons (pg_name (i := 2) nd rfl (by first | exact Or.inl rfl | exact Or.inr rfl)) (pgs_cons (pg_name (i := 3) nd rfl (by first | exact Or.inl rfl | exact Or.inr rfl)) pgs_nil)))) (fun _ _ _ _ _ => pts_nil) (fun _ _ _ _ _ => (pe_op op_add (pv 2) (pv 3)))) pa_nil)))))), ?_⟩
  obtain ⟨a, b, xs, ys, rfl, rfl, ha, hb, hl, h⟩ := h
  refine ⟨_, rfl, _, rfl, a, b, _, _, rfl, .inl (.inl ha), .inl (.inl hb), fun D hD => lc_fn (walk_zipX (t := true) (u := true) (n := min xs.length ys.length) (by simp)) (fun i => .int (((List.zipWith (fun x y => x + y) xs ys)[i]?).getD 0)) hD (fun H2 s2 => ⟨.inl (.inl (s2 _ _ ha)), .inl (.inl (s2 _ _ hb))⟩) (line_lt (by omega)) ?_ ?_⟩
  · rintro i x H2 H3 R hi s2 ⟨T, e1, e2, rfl, nT, rfl, he1, he2⟩ k
    have g1 : xs[i]? = some (xs[i]'(by omega)) := List.getElem?_eq_getElem (by omega)
    have g2 : ys[i]? = some (ys[i]'(by omega)) := List.getElem?_eq_getElem (by omega)
    generalize xs[i]'(by omega) = p at g1
    generalize ys[i]'(by omega) = q at g2
    replace he1 : (xs.map V.int)[i]? = some e1 := he1
    replace he2 : (ys.map V.int)[i]? = some e2 := he2
    rw [List.getElem?_map, g1] at he1
    rw [List.getElem?_map, g2] at he2
    cases he1
    cases he2
    have k1 := k _ (same_new (o := .tup [.int p, .int q]) nT)
    rw [List.getElem?_zipWith, g1, g2] at k1
    exact ⟨T, _, rfl, .inl (.inl upd_same), rfl, _, _, rfl, _, _, rfl, rfl, rfl, _, rfl, _, rfl, _, _, rfl, rfl, k1⟩
  intro H2 s2 hD2
  refine ⟨D, _, rfl, .inl ⟨SqL.of hD2, fun t ht => h _ t (s2.trans (same_new ht)) ?_⟩⟩
  unfold TupI
  rw [upd_same]
  congr 2
  have lz : (List.zipWith (fun x y => x + y) xs ys).length = min xs.length ys.length := List.length_zipWith
  rw [← lz]
  exact range_list (List.zipWith (fun x y => x + y) xs ys) _ _ fun i x hx => by rw [hx]; rfl
theorem ok_lessened (Z : Tx w K mg) : Cal P w K mg base CX0 1 (He.fAd K ("lessened", none)) ["held", "amounts"] (sp_zip2 fun x y => x - y) := by
  obtain ⟨fd, F⟩ := Z.fd_lessened
  refine ⟨⟨fd, F.ok sc_lessened (fun vs H Q E h => ?_) (fun cdv A outer s H vs Q E hr h => ?_), F.bindsN fun _ _ _ _ _ _ us hl => match us, hl with | [_, _], _ => rfl⟩, F.kp⟩
  · exact sp2_len h
  have sc := sc_lessened
  have nd : N_lessened.Nodup := sc.nd
  replace h := sp2_get h
  obtain ⟨v_held, v_amounts, rfl, h⟩ := h
  refine ⟨_, PSs.nox (by exact ((pss_one (ps_ret (pe_callTy call_tuple_of (by rfl) Z.b_tuple (by decide +kernel) (pa_cons (pe_lc (own := [("have", 2), ("less", 3)]) (g := (gTup K 2 (gCons (gName 2) (gCons (gName 3) gNil)))) rfl nd (pi_zipX true true (K := K) rfl (by rfl) Z.b_zip (pa_cons (pv 0) (pa_cons (pv 1) pa_nil))) (blkOk_by (own := [("have", 2), ("less", 3)]) (N := N_lessened) (sc := defScope s_lessened) (by decide +kernel)) (fun _ _ _ _ _ => (pg_tupK (K := K) rfl rfl (pgs_cons (pg_name (i := 2) nd rfl (by first | exact Or.inl rfl | exact Or.inr rfl)) (pgs_cons (pg_name (i := 3) nd rfl (by first | exact Or.inl rfl | exact Or.inr rfl)) pgs_nil)))) (fun _ _ _ _ _ => pts_nil) (fun _ _ _ _ _ => (pe_op op_sub (pv 2) (pv 3)))) pa_nil)))))), ?_⟩
  obtain ⟨a, b, xs, ys, rfl, rfl, ha, hb, hl, h⟩ := h
  refine ⟨_, rfl, _, rfl, a, b, _, _, rfl, .inl (.inl ha), .inl (.inl hb), fun D hD => lc_fn (walk_zipX (t := true) (u := true) (n := min xs.length ys.length) (by simp)) (fun i => .int (((List.zipWith (fun x y => x - y) xs ys)[i]?).getD 0)) hD (fun H2 s2 => ⟨.inl (.inl (s2 _ _ ha)), .inl (.inl (s2 _ _ hb))⟩) (line_lt (by omega)) ?_ ?_⟩
  · rintro i x H2 H3 R hi s2 ⟨T, e1, e2, rfl, nT, rfl, he1, he2⟩ k
    have g1 : xs[i]? = some (xs[i]'(by omega)) := List.getElem?_eq_getElem (by omega)
    have g2 : ys[i]? = some (ys[i]'(by omega)) := List.getElem?_eq_getElem (by omega)
    generalize xs[i]'(by omega) = p at g1
    generalize ys[i]'(by omega) = q at g2
    replace he1 : (xs.map V.int)[i]? = some e1 := he1
    replace he2 : (ys.map V.int)[i]? = some e2 := he2
    rw [List.getElem?_map, g1] at he1
    rw [List.getElem?_map, g2] at he2
    cases he1
    cases he2
    have k1 := k _ (same_new (o := .tup [.int p, .int q]) nT)
    rw [List.getElem?_zipWith, g1, g2] at k1
    exact ⟨T, _, rfl, .inl (.inl upd_same), rfl, _, _, rfl, _, _, rfl, rfl, rfl, _, rfl, _, rfl, _, _, rfl, rfl, k1⟩
  intro H2 s2 hD2
  refine ⟨D, _, rfl, .inl ⟨SqL.of hD2, fun t ht => h _ t (s2.trans (same_new ht)) ?_⟩⟩
  unfold TupI
  rw [upd_same]
  congr 2
  have lz : (List.zipWith (fun x y => x - y) xs ys).length = min xs.length ys.length := List.length_zipWith
  rw [← lz]
  exact range_list (List.zipWith (fun x y => x - y) xs ys) _ _ fun i x hx => by rw [hx]; rfl
theorem picked_list {α : Type} (l : List α) (d : α) (P : α → Bool) (g : α → V) : picked l.length (fun i => P (l.getD i d)) (fun i => g (l.getD i d)) = (l.filter P).map g := by
  have h : (List.range l.length).map (fun i => l.getD i d) = l := by
    have := range_map l id d
    simpa using this
  unfold picked
  conv => rhs; rw [← h]
  rw [List.filter_map, List.map_map]
  rfl
def mvNum (l : Nat) : Nat := (l - 1) / 3
def spMoved (p : PS) (s : Spt) (i : Nat) (mv : Mv) : Spt :=
  let mk := s.m.filter fun x => !((intL mv.pre).contains x)
  if Vbwbzz.isStep mv.letter = true then ⟨mk, srt (s.b ++ [(i : Int)]), List.zipWith (fun x y => x + y) s.h (intL (vec p .take (mvNum mv.letter)))⟩
  else ⟨srt (mk ++ intL mv.post), s.b, s.h⟩
def spEnded (p : PS) (s : Spt) (i : Nat) (mv : Mv) : Spt :=
  ⟨srt (s.m ++ intL mv.post), s.b.filter fun x => decide (x ≠ (i : Int)), List.zipWith (fun x y => x - y) s.h (intL (vec p .give (mvNum mv.letter)))⟩
structure Room2 (s : Spt) (mv : Mv) : Prop where
  m : s.m.length ≤ 10000
  b : s.b.length ≤ 10000
  h : s.h.length ≤ 1000
  pre : mv.pre.length ≤ 1000
  post : mv.post.length ≤ 1000
theorem kd_step {kd : String} {n l : Nat} (h : Kd kd n l) : Vbwbzz.isStep l = decide (Str.ofString kd = Str.ofString "step") ∧ n = mvNum l := by
  unfold mvNum
  rcases h with ⟨rfl, rfl, rfl⟩ | ⟨rfl, rfl⟩ | ⟨rfl, rfl⟩ | ⟨rfl, rfl⟩
  · exact ⟨by decide +kernel, rfl⟩
  · refine ⟨?_, by unfold Vbwbab.stepLetter; omega⟩
    unfold Vbwbzz.isStep Vbwbab.stepLetter
    rw [show (1 + 3 * n) % 3 = 1 by omega]; rfl
  · refine ⟨?_, by unfold Vbwbab.yes; omega⟩
    unfold Vbwbzz.isStep Vbwbab.yes
    rw [show (2 + 3 * n) % 3 = 2 by omega]
    decide +kernel
  · refine ⟨?_, by unfold Vbwbab.no_; omega⟩
    unfold Vbwbzz.isStep Vbwbab.no_
    rw [show (3 + 3 * n) % 3 = 0 by omega]
    decide +kernel
def spMove (K : PySem.W.Frag) (f : PS → Spt → Nat → Mv → Spt) (v v1 v2 v3 : V) (H : Hp) (Q : VK) : Prop := ∃ (q : Addr) (s : Spt) (i : Nat) (a : Addr) (mv : Mv) (pl : Addr) (A : PA) (bA : BA) (p : PS), v = .ref q ∧ v1 = .int i ∧ v2 = .ref a ∧ v3 = .ref pl ∧ SpotAt H q s ∧ MoveAt K H a mv ∧ PlantF K H pl A bA p ∧ p.units.length ≤ 1000 ∧ Room2 s mv ∧ ∀ H' q', Same H H' → SpotAt H' q' (f p s i mv) → Q (.ref q') H'
def sp_moved (K : PySem.W.Frag) : Sp := sp4 fun v v1 v2 v3 H Q _ => spMove K spMoved v v1 v2 v3 H Q
def sp_ended (K : PySem.W.Frag) : Sp := sp4 fun v v1 v2 v3 H Q _ => spMove K spEnded v v1 v2 v3 H Q
theorem ok_moved (Z : Tx w K mg) : Cal P w K mg base CX0 2 (He.fAd K ("moved", none)) ["spot", "number", "move", "plant"] (sp_moved K) := by
  obtain ⟨fd, F⟩ := Z.fd_moved
  have c_added := ok_added (P := P) (w := w) (base := base) Z
  have c_Plant_amounts := ok_Plant_amounts (P := P) (w := w) (base := base) Z
  refine ⟨⟨fd, F.ok sc_moved (fun vs H Q E h => ?_) (fun cdv A outer s H vs Q E hr h => ?_), F.bindsN fun _ _ _ _ _ _ us hl => match us, hl with | [_, _, _, _], _ => rfl⟩, F.kp⟩
  · exact sp4_len h
  have sc := sc_moved
  have nd : N_moved.Nodup := sc.nd
  replace h := sp4_get h
  obtain ⟨v_spot, v_number, v_move, v_plant, rfl, h⟩ := h
  refine ⟨_, PSs.nox (by exact ((pss_cons (ps_setLc (i := 4) (own := [("place", 6)]) (g := (gName 6)) rfl nd rfl rfl (sw_true rfl rfl rfl (by decide +kernel)) (pi_tup (pe_ix ix_tup (pv 0) pe_int (fun _ _ => rfl))) (blkOk_by (own := [("place", 6)]) (N := N_moved) (sc := defScope s_moved) (by decide +kernel)) (fun _ _ _ _ _ => (pg_name (i := 6) nd rfl (by first | exact Or.inl rfl | exact Or.inr rfl))) (fun _ _ _ _ _ => (pts_one (pt_cmpR (op_notIn_seqK (K := K) rfl) (pv 6) (pe_fldK (K := K) rfl (pv 2) rfl) rfl))) (fun _ _ _ _ _ => (pv 6)))
 (pss_cons (ps_if (pt_cmpR op_ne (pe_fld (pv 2) rfl) pe_str (nomark _)) (pss_one (ps_ret (pe_tup (pa_cons (pe_callTy call_tuple_of (by rfl) Z.b_tuple (by decide +kernel) (pa_cons (pe_callB cr_sortedI (by rfl) Z.b_sorted (by decide +kernel) (pa_cons (pe_op op_cat (pv 4) (pe_callTy call_list_of (by rfl) Z.b_list (by decide +kernel) (pa_cons (pe_fld (pv 2) rfl) pa_nil))) pa_nil)) pa_nil)) (pa_cons (pe_ix ix_tup (pv 0) pe_int (fun _ _ => rfl)) (pa_cons (pe_ix ix_tup (pv 0) pe_int (fun _ _ => rfl)) pa_nil)))))) pss_nil)
 (pss_cons (ps_set (i := 5) nd rfl (by first | exact Or.inl rfl | exact Or.inr rfl) (pe_callB cr_sortedI (by rfl) Z.b_sorted (by decide +kernel) (pa_cons (pe_op op_cat (pe_callTy call_list_of (by rfl) Z.b_list (by decide +kernel) (pa_cons (pe_ix ix_tup (pv 0) pe_int (fun _ _ => rfl)) pa_nil)) (pe_lst (pa_cons (pv 1) pa_nil))) pa_nil)))
 (pss_one (ps_ret (pe_tup (pa_cons (pe_callTy call_tuple_of (by rfl) Z.b_tuple (by decide +kernel) (pa_cons (pv 4) pa_nil)) (pa_cons (pe_callTy call_tuple_of (by rfl) Z.b_tuple (by decide +kernel) (pa_cons (pv 5) pa_nil)) (pa_cons (pe_calC (E := E0) c_added (hr.mono (by decide)) rfl Z.g_added pass0 (pa_cons (pe_ix ix_tup (pv 0) pe_int (fun _ _ => rfl)) (pa_cons (pe_metC (E := E0) (pv 3) Z.cl_Plant Z.m_Plant_amounts c_Plant_amounts (hr.mono (by decide)) pass0 (pa_cons pe_str (pa_cons (pe_fld (pv 2) rfl) pa_nil))) pa_nil))) pa_nil))))))))))), ?_⟩
  obtain ⟨q, s', i, a, mv, pl, A', bA, p, rfl, rfl, rfl, rfl, hS, hM, B, hu, rm, h⟩ := h
  obtain ⟨dx, b, f, kd, n, h1, h2, h3, h4⟩ := hM
  obtain ⟨ta, tb, th, k0, k1, k2, k3⟩ := hS
  have cl := Z.cl_Move
  obtain ⟨e1, e2⟩ := kd_step h4
  refine ⟨_, rfl, q, _, (0 : Nat), .ref ta, rfl, rfl, .inl (.inl k0), atI_nat rfl, ta, rfl, ⟨_, .inl (.inl k1)⟩, fun D hD => lc_if walk_tup (fun i => !((intL mv.pre).contains (s'.m.getD i 0))) (fun i => V.int (s'.m.getD i 0)) hD (fun H2 s2 => .inl (.inl (s2 _ _ k1))) (by rw [List.length_map]; exact line_lt (by have := rm.m; omega)) ?_ ?_⟩
  · rintro j x H2 H3 R R2 hi s2 ⟨rfl, hx⟩ ky kn
    rw [List.length_map] at hi
    have hg : s'.m[j]? = some s'.m[j] := List.getElem?_eq_getElem hi
    have eg : s'.m.getD j 0 = s'.m[j] := by rw [List.getD_eq_getElem?_getD, hg]; rfl
    rw [eg] at ky kn
    generalize s'.m[j] = p' at hg ky kn
    rw [List.getElem?_map, hg] at hx
    cases hx
    refine ⟨rfl, _, rfl, _, rfl, a, _, _, _, _, rfl, s2 _ _ h1, cl, Z.n_Move_before, lk_Move_before _ _ _ _, b, _, rfl, .inr (.inl (.inl (s2 _ _ h2))), rfl, by rw [natV_ints]; exact flat_int _, ?_⟩
    rw [natV_ints, inV_int]
    simp only [if_true]
    refine ⟨_, rfl, if_intro (fun c => ⟨_, rfl, ky c H3 (Same.refl _)⟩) fun c => kn (by simpa using c) H3 (Same.refl _)⟩
  intro H2 s2 hD2
  rw [List.length_map, picked_list s'.m 0 (fun x => !((intL mv.pre).contains x)) V.int] at hD2
  have hk2 := s2 _ _ h1
  refine ⟨_, rfl, a, _, _, _, _, rfl, hk2, cl, Z.n_Move_kind, lk_Move_kind _ _ _ _, rfl, _, rfl, if_intro (fun c => ?_) fun c => ?_⟩
  · have c' : Vbwbzz.isStep mv.letter = false := by
      rw [e1]
      refine decide_eq_false fun z => ?_
      rw [z] at c; simp at c
    have em : spMoved p s' i mv = ⟨srt (s'.m.filter (fun x => !((intL mv.pre).contains x)) ++ intL mv.post), s'.b, s'.h⟩ := by unfold spMoved; rw [c']; rfl
    rw [em] at h
    have ml := rm.m
    have pl' := rm.post
    have fl := List.length_filter_le (fun x => !((intL mv.pre).contains x)) s'.m
    have h3' := s2 _ _ h3
    rw [natV_ints] at h3'
    have il : (intL mv.post).length = mv.post.length := List.length_map _
    refine ⟨_, rfl, _, rfl, a, _, _, _, _, rfl, hk2, cl, Z.n_Move_behind, lk_Move_behind _ _ _ _, f, _, rfl, .inr (.inl (.inl h3')), fun l1 hl1 => ?_⟩
    have s3 := same_new (o := .lst ((intL mv.post).map V.int)) hl1
    refine ⟨D, l1, _, _, rfl, rfl, s3 _ _ hD2, upd_same, by rw [List.length_map, List.length_map]; exact line_of (by omega), fun l2 hl2 => ?_⟩
    rw [← List.map_append]
    have s4 := s3.trans (same_new (o := .lst ((s'.m.filter (fun x => !((intL mv.pre).contains x)) ++ intL mv.post).map V.int)) hl2)
    refine ⟨l2, _, rfl, SqL.of upd_same, fun ns' l3 hp hs hl3 => ?_⟩
    obtain rfl := srt_of hp hs
    have s5 := s4.trans (same_new (o := .lst ((srt (s'.m.filter (fun x => !((intL mv.pre).contains x)) ++ intL mv.post)).map V.int)) hl3)
    refine ⟨l3, _, rfl, .inl ⟨SqL.of upd_same, fun t ht => ?_⟩⟩
    have s6 := (s2.trans s5).trans (same_new (o := .tup ((srt (s'.m.filter (fun x => !((intL mv.pre).contains x)) ++ intL mv.post)).map V.int)) ht)
    refine ⟨_, rfl, q, _, (1 : Nat), .ref tb, rfl, rfl, .inl (.inl (s6 _ _ k0)), atI_nat rfl, _, rfl, q, _, (2 : Nat), .ref th, rfl, rfl, .inl (.inl (s6 _ _ k0)), atI_nat rfl, (by show 3 ≤ sizeLine; decide), fun t4 ht4 => h _ t4 (s6.trans (same_new ht4)) ?_⟩
    have s7 := same_new (o := .tup [.ref t, .ref tb, .ref th]) ht4
    exact ⟨t, tb, th, upd_same, s7 _ _ upd_same, s7 _ _ (s6 _ _ k2), s7 _ _ (s6 _ _ k3)⟩
  have c' : Vbwbzz.isStep mv.letter = true := by
    rw [e1]
    refine decide_eq_true (Classical.byContradiction fun z => c ?_)
    simp [z]
  have em : spMoved p s' i mv = ⟨s'.m.filter (fun x => !((intL mv.pre).contains x)), srt (s'.b ++ [(i : Int)]), List.zipWith (fun x y => x + y) s'.h (intL (vec p .take (mvNum mv.letter)))⟩ := by unfold spMoved; rw [c']; rfl
  rw [em, ← e2] at h
  have bl := rm.b
  refine ⟨_, rfl, q, _, (1 : Nat), .ref tb, rfl, rfl, .inl (.inl (s2 _ _ k0)), atI_nat rfl, tb, _, rfl, .inr (.inl (.inl (s2 _ _ k2))), fun l1 hl1 => ?_⟩
  have s3 := same_new (o := .lst (s'.b.map V.int)) hl1
  refine ⟨_, rfl, (by show 1 ≤ sizeLine; decide), fun l2 hl2 => ⟨l1, l2, _, _, rfl, rfl, same_new hl2 _ _ upd_same, upd_same, by rw [List.length_map]; exact line_of (by simp; omega), fun l3 hl3 => ?_⟩⟩
  have ec : s'.b.map V.int ++ [V.int i] = (s'.b ++ [(i : Int)]).map V.int := by simp
  rw [ec]
  have s4 := (s3.trans (same_new (o := .lst [.int i]) hl2)).trans (same_new (o := .lst ((s'.b ++ [(i : Int)]).map V.int)) hl3)
  refine ⟨l3, _, rfl, SqL.of upd_same, fun ns' l4 hp hs hl4 => ?_⟩
  obtain rfl := srt_of hp hs
  have s5 := s4.trans (same_new (o := .lst ((srt (s'.b ++ [(i : Int)])).map V.int)) hl4)
  have hD5 := s5 _ _ hD2
  refine ⟨_, rfl, D, _, rfl, .inl ⟨SqL.of hD5, fun t1 ht1 => ?_⟩⟩
  have sa := same_new (o := .tup ((s'.m.filter (fun x => !((intL mv.pre).contains x))).map V.int)) ht1
  refine ⟨_, rfl, l4, _, rfl, .inl ⟨SqL.of (sa _ _ upd_same), fun t2 ht2 => ?_⟩⟩
  have sb := sa.trans (same_new (o := .tup ((srt (s'.b ++ [(i : Int)])).map V.int)) ht2)
  have s7 := (s2.trans s5).trans sb
  have ht1' := same_new (o := .tup ((srt (s'.b ++ [(i : Int)])).map V.int)) ht2 _ _ (upd_same (a := t1) (o := .tup ((s'.m.filter (fun x => !((intL mv.pre).contains x))).map V.int)))
  refine ⟨_, rfl, q, _, (2 : Nat), .ref th, rfl, rfl, .inl (.inl (s7 _ _ k0)), atI_nat rfl, _, rfl, pl, _, _, rfl, (B.mono s7).obj, lm_Plant_amounts _ _ _ _ _ _, _, rfl, a, _, _, _, _, rfl, s7 _ _ h1, cl, Z.n_Move_number, lk_Move_number _ _ _ _, _, _, _, rfl, pl, A', bA, p, .take, n, rfl, rfl, rfl, B.mono s7, hu, fun H5 ta5 s8 hta => ?_⟩
  have s9 := s7.trans s8
  unfold TupAt at hta
  rw [natV_ints] at hta
  refine ⟨_, _, rfl, th, ta5, s'.h, intL (vec p .take n), rfl, rfl, s9 _ _ k3, hta, rm.h, fun H6 t6 s10 ht6 => ⟨(by show 3 ≤ sizeLine; decide), fun t7 ht7 => ?_⟩⟩
  have s11 := same_new (o := .tup [.ref t1, .ref t2, .ref t6]) ht7
  refine h _ t7 ((s9.trans s10).trans s11) ⟨t1, t2, t6, upd_same, ?_, ?_, s11 _ _ ht6⟩
  · exact s11 _ _ (s10 _ _ (s8 _ _ ht1'))
  · exact s11 _ _ (s10 _ _ (s8 _ _ upd_same))
theorem ok_ended (Z : Tx w K mg) : Cal P w K mg base CX0 2 (He.fAd K ("ended", none)) ["spot", "number", "move", "plant"] (sp_ended K) := by
  obtain ⟨fd, F⟩ := Z.fd_ended
  have c_lessened := ok_lessened (P := P) (w := w) (base := base) Z
  have c_Plant_amounts := ok_Plant_amounts (P := P) (w := w) (base := base) Z
  refine ⟨⟨fd, F.ok sc_ended (fun vs H Q E h => ?_) (fun cdv A outer s H vs Q E hr h => ?_), F.bindsN fun _ _ _ _ _ _ us hl => match us, hl with | [_, _, _, _], _ => rfl⟩, F.kp⟩
  · exact sp4_len h
  have sc := sc_ended
  have nd : N_ended.Nodup := sc.nd
  replace h := sp4_get h
  obtain ⟨v_spot, v_number, v_move, v_plant, rfl, h⟩ := h
  refine ⟨_, PSs.nox (by exact ((pss_cons (ps_set (i := 4) nd rfl (by first | exact Or.inl rfl | exact Or.inr rfl) (pe_callB cr_sortedI (by rfl) Z.b_sorted (by decide +kernel) (pa_cons (pe_op op_cat (pe_callTy call_list_of (by rfl) Z.b_list (by decide +kernel) (pa_cons (pe_ix ix_tup (pv 0) pe_int (fun _ _ => rfl)) pa_nil)) (pe_callTy call_list_of (by rfl) Z.b_list (by decide +kernel) (pa_cons (pe_fld (pv 2) rfl) pa_nil))) pa_nil)))
 (pss_cons (ps_setLc (i := 5) (own := [("other", 6)]) (g := (gName 6)) rfl nd rfl rfl (sw_true rfl rfl rfl (by decide +kernel)) (pi_tup (pe_ix ix_tup (pv 0) pe_int (fun _ _ => rfl))) (blkOk_by (own := [("other", 6)]) (N := N_ended) (sc := defScope s_ended) (by decide +kernel)) (fun _ _ _ _ _ => (pg_name (i := 6) nd rfl (by first | exact Or.inl rfl | exact Or.inr rfl))) (fun _ _ _ _ _ => (pts_one (pt_cmpR op_ne (pv 6) (pv 1) (nomark _)))) (fun _ _ _ _ _ => (pv 6)))
 (pss_one (ps_ret (pe_tup (pa_cons (pe_callTy call_tuple_of (by rfl) Z.b_tuple (by decide +kernel) (pa_cons (pv 4) pa_nil)) (pa_cons (pe_callTy call_tuple_of (by rfl) Z.b_tuple (by decide +kernel) (pa_cons (pv 5) pa_nil)) (pa_cons (pe_calC (E := E0) c_lessened (hr.mono (by decide)) rfl Z.g_lessened pass0 (pa_cons (pe_ix ix_tup (pv 0) pe_int (fun _ _ => rfl)) (pa_cons (pe_metC (E := E0) (pv 3) Z.cl_Plant Z.m_Plant_amounts c_Plant_amounts (hr.mono (by decide)) pass0 (pa_cons pe_str (pa_cons (pe_fld (pv 2) rfl) pa_nil))) pa_nil))) pa_nil)))))))))), ?_⟩
  obtain ⟨q, s', i, a, mv, pl, A', bA, p, rfl, rfl, rfl, rfl, hS, hM, B, hu, rm, h⟩ := h
  obtain ⟨dx, b, f, kd, n, h1, h2, h3, h4⟩ := hM
  obtain ⟨ta, tb, th, k0, k1, k2, k3⟩ := hS
  have cl := Z.cl_Move
  obtain ⟨e1, e2⟩ := kd_step h4
  have em : spEnded p s' i mv = ⟨srt (s'.m ++ intL mv.post), s'.b.filter (fun x => decide (x ≠ (i : Int))), List.zipWith (fun x y => x - y) s'.h (intL (vec p .give (mvNum mv.letter)))⟩ := rfl
  rw [em, ← e2] at h
  rw [natV_ints] at h3
  have ml := rm.m
  have bl := rm.b
  have pl' := rm.post
  have il : (intL mv.post).length = mv.post.length := List.length_map _
  refine ⟨_, rfl, q, _, (0 : Nat), .ref ta, rfl, rfl, .inl (.inl k0), atI_nat rfl, ta, _, rfl, .inr (.inl (.inl k1)), fun l1 hl1 => ?_⟩
  have s1 := same_new (o := .lst (s'.m.map V.int)) hl1
  refine ⟨_, rfl, a, _, _, _, _, rfl, s1 _ _ h1, cl, Z.n_Move_behind, lk_Move_behind _ _ _ _, f, _, rfl, .inr (.inl (.inl (s1 _ _ h3))), fun l2 hl2 => ?_⟩
  have s2 := s1.trans (same_new (o := .lst ((intL mv.post).map V.int)) hl2)
  refine ⟨l1, l2, _, _, rfl, rfl, same_new hl2 _ _ upd_same, upd_same, by rw [List.length_map, List.length_map]; exact line_of (by omega), fun l3 hl3 => ?_⟩
  rw [← List.map_append]
  have s3 := s2.trans (same_new (o := .lst ((s'.m ++ intL mv.post).map V.int)) hl3)
  refine ⟨l3, _, rfl, SqL.of upd_same, fun ns' l4 hp hs hl4 => ?_⟩
  obtain rfl := srt_of hp hs
  have s4 := s3.trans (same_new (o := .lst ((srt (s'.m ++ intL mv.post)).map V.int)) hl4)
  have hl4' := upd_same (H := upd (upd (upd H l1 (.lst (s'.m.map V.int))) l2 (.lst ((intL mv.post).map V.int))) l3 (.lst ((s'.m ++ intL mv.post).map V.int))) (a := l4) (o := .lst ((srt (s'.m ++ intL mv.post)).map V.int))
  generalize upd (upd (upd (upd H l1 (.lst (s'.m.map V.int))) l2 (.lst ((intL mv.post).map V.int))) l3 (.lst ((s'.m ++ intL mv.post).map V.int))) l4 (.lst ((srt (s'.m ++ intL mv.post)).map V.int)) = H4 at s4 hl4'
  refine ⟨_, rfl, q, _, (1 : Nat), .ref tb, rfl, rfl, .inl (.inl (s4 _ _ k0)), atI_nat rfl, tb, rfl, ⟨_, .inl (.inl (s4 _ _ k2))⟩, fun D hD => lc_if walk_tup (fun i_1 => decide (s'.b.getD i_1 0 ≠ (i : Int))) (fun i => V.int (s'.b.getD i 0)) hD (fun H2 s2 => .inl (.inl (s2 _ _ (s4 _ _ k2)))) (by rw [List.length_map]; exact line_lt (by omega)) ?_ ?_⟩
  · rintro j x H2 H3 R R2 hi s5 ⟨rfl, hx⟩ ky kn
    rw [List.length_map] at hi
    have hg : s'.b[j]? = some s'.b[j] := List.getElem?_eq_getElem hi
    have eg : s'.b.getD j 0 = s'.b[j] := by rw [List.getD_eq_getElem?_getD, hg]; rfl
    rw [eg] at ky kn
    generalize s'.b[j] = p' at hg ky kn
    rw [List.getElem?_map, hg] at hx
    cases hx
    refine ⟨rfl, _, rfl, _, rfl, rfl, ?_⟩
    refine ⟨_, rfl, if_intro (fun c => ⟨_, rfl, ky (by simpa using c) H3 (Same.refl _)⟩) fun c => kn (by simpa using c) H3 (Same.refl _)⟩
  intro H5 s5 hD5
  rw [List.length_map, picked_list s'.b 0 (fun x => decide (x ≠ (i : Int))) V.int] at hD5
  have s6 := s4.trans s5
  refine ⟨_, rfl, l4, _, rfl, .inl ⟨SqL.of (s5 _ _ hl4'), fun t1 ht1 => ?_⟩⟩
  have sa := same_new (o := .tup ((srt (s'.m ++ intL mv.post)).map V.int)) ht1
  refine ⟨_, rfl, D, _, rfl, .inl ⟨SqL.of (sa _ _ hD5), fun t2 ht2 => ?_⟩⟩
  have sb := sa.trans (same_new (o := .tup ((s'.b.filter (fun x => decide (x ≠ (i : Int)))).map V.int)) ht2)
  have s7 := s6.trans sb
  have ht1' := same_new (o := .tup ((s'.b.filter (fun x => decide (x ≠ (i : Int)))).map V.int)) ht2 _ _ (upd_same (H := H5) (a := t1) (o := .tup ((srt (s'.m ++ intL mv.post)).map V.int)))
  refine ⟨_, rfl, q, _, (2 : Nat), .ref th, rfl, rfl, .inl (.inl (s7 _ _ k0)), atI_nat rfl, _, rfl, pl, _, _, rfl, (B.mono s7).obj, lm_Plant_amounts _ _ _ _ _ _, _, rfl, a, _, _, _, _, rfl, s7 _ _ h1, cl, Z.n_Move_number, lk_Move_number _ _ _ _, _, _, _, rfl, pl, A', bA, p, .give, n, rfl, rfl, rfl, B.mono s7, hu, fun H6 ta5 s8 hta => ?_⟩
  have s9 := s7.trans s8
  unfold TupAt at hta
  rw [natV_ints] at hta
  refine ⟨_, _, rfl, th, ta5, s'.h, intL (vec p .give n), rfl, rfl, s9 _ _ k3, hta, rm.h, fun H7 t6 s10 ht6 => ⟨(by show 3 ≤ sizeLine; decide), fun t7 ht7 => ?_⟩⟩
  have s11 := same_new (o := .tup [.ref t1, .ref t2, .ref t6]) ht7
  refine h _ t7 ((s9.trans s10).trans s11) ⟨t1, t2, t6, upd_same, ?_, ?_, s11 _ _ ht6⟩
  · exact s11 _ _ (s10 _ _ (s8 _ _ ht1'))
  · exact s11 _ _ (s10 _ _ (s8 _ _ upd_same))
/-- all but one object -/
def hide (H : Hp) (d : Addr) : Hp := fun x => if x = d then none else H x
theorem hide_ne {H : Hp} {d x : Addr} (h : x ≠ d) : hide H d x = H x := if_neg h
theorem hide_le {H : Hp} {d : Addr} : Same (hide H d) H := fun b o e => by
  unfold hide at e
  split at e
  · cases e
  · exact e
theorem hide_upd {H : Hp} {d : Addr} {o : HO} : hide (upd H d o) d = hide H d := by
  funext x
  unfold hide
  split
  · rfl
  · rename_i h; rw [upd_ne h]
theorem hide_same {H H' : Hp} {d : Addr} (s : Same H H') : Same (hide H d) (hide H' d) := fun b o e => by
  unfold hide at e ⊢
  split at e
  · cases e
  · rename_i h; rw [if_neg h]; exact s _ _ e
theorem same_hide {H H' : Hp} {d : Addr} (s : Same H H') (h : H d = none) : Same H (hide H' d) := fun b o e => by
  rw [hide_ne (ne_of_none e h)]; exact s _ _ e
theorem hide_at {H : Hp} {d x : Addr} {o u : HO} (h : H x = some o) (hd : H d = some u) (ne : o ≠ u) : hide H d x = some o := by
  rw [hide_ne (fun e => ne (by rw [e, hd] at h; exact (Option.some.inj h).symm))]; exact h
theorem spot_hide {H : Hp} {d q : Addr} {s : Spt} {u : HO} (h : SpotAt H q s) (hd : H d = some u) (hu : ∀ xs, u ≠ .tup xs) : SpotAt (hide H d) q s := by
  obtain ⟨a, b, c, h1, h2, h3, h4⟩ := h
  exact ⟨a, b, c, hide_at h1 hd (fun e => hu _ e.symm), hide_at h2 hd (fun e => hu _ e.symm), hide_at h3 hd (fun e => hu _ e.symm), hide_at h4 hd (fun e => hu _ e.symm)⟩
def SpotsAt (H : Hp) (ts : List Addr) (xs : List Spt) : Prop := ts.length = xs.length ∧ ∀ (i : Nat) (t : Addr) (x : Spt), ts[i]? = some t → xs[i]? = some x → SpotAt H t x
theorem SpotsAt.mono {H H' : Hp} {ts : List Addr} {xs : List Spt} (h : SpotsAt H ts xs) (s : Same H H') : SpotsAt H' ts xs := ⟨h.1, fun i t x a b => (h.2 i t x a b).mono s⟩
theorem SpotsAt.snoc {H : Hp} {ts : List Addr} {xs : List Spt} {t : Addr} {x : Spt} (h : SpotsAt H ts xs) (r : SpotAt H t x) : SpotsAt H (ts ++ [t]) (xs ++ [x]) := pair_snoc h r
def behindI (p : PS) (s : Spt) (net : List Mv) (i : Nat) : List Spt := match net[i]? with
  | none => []
  | some mv => (if canB mv s.m = true then [spMoved p s i mv] else []) ++ (if s.b.contains (i : Int) = true then [spEnded p s i mv] else [])
def behindN (p : PS) (s : Spt) (net : List Mv) (k : Nat) : List Spt := (List.range k).flatMap (behindI p s net)
theorem behindN_succ (p : PS) (s : Spt) (net : List Mv) (k : Nat) : behindN p s net (k + 1) = behindN p s net k ++ behindI p s net k := by
  unfold behindN
  rw [List.range_succ, List.flatMap_append]
  simp
theorem behindN_len (p : PS) (s : Spt) (net : List Mv) : ∀ k, (behindN p s net k).length ≤ 2 * k
  | 0 => by simp [behindN]
  | k + 1 => by
    have ih := behindN_len p s net k
    rw [behindN_succ, List.length_append]
    have : (behindI p s net k).length ≤ 2 := by
      unfold behindI
      split
      · simp
      · rw [List.length_append]; split <;> split <;> simp
    omega
def sp_spots_behind (K : PySem.W.Frag) : Sp := sp3 fun v v1 v2 H Q _ => ∃ (q : Addr) (s : Spt) (ml : Addr) (mas : List Addr) (net : List Mv) (pl : Addr) (A : PA) (bA : BA) (p : PS), v = .ref q ∧ v1 = .ref ml ∧ v2 = .ref pl ∧ SpotAt H q s ∧ H ml = some (.lst (mas.map V.ref)) ∧ MovesAt K H mas net ∧ PlantF K H pl A bA p ∧ p.units.length ≤ 1000 ∧ (∀ mv ∈ net, Room2 s mv) ∧ net.length ≤ 1000 ∧
  ∀ (H' : Hp) (a : Addr) (ts : List Addr), H a = none → Same H H' → H' a = some (.lst (ts.map V.ref)) → SpotsAt H' ts (behindN p s net net.length) → Q (.ref a) H'
theorem ok_spots_behind (Z : Tx w K mg) : Cal P w K mg base CX0 4 (He.fAd K ("spots_behind", none)) ["spot", "moves", "plant"] (sp_spots_behind K) := by
  obtain ⟨fd, F⟩ := Z.fd_spots_behind
  have c_can_be := ok_can_be (P := P) (w := w) (base := base) Z
  have c_moved := ok_moved (P := P) (w := w) (base := base) Z
  have c_ended := ok_ended (P := P) (w := w) (base := base) Z
  refine ⟨⟨fd, F.ok sc_spots_behind (fun vs H Q E h => ?_) (fun cdv A outer s H vs Q E hr h => ?_), F.bindsN fun _ _ _ _ _ _ us hl => match us, hl with | [_, _, _], _ => rfl⟩, F.kp⟩
  · exact sp3_len h
  have sc := sc_spots_behind
  have nd : N_spots_behind.Nodup := sc.nd
  replace h := sp3_get h
  obtain ⟨v_spot, v_moves, v_plant, rfl, h⟩ := h
  refine ⟨_, PSs.nox (by exact ((pss_cons (ps_set (i := 3) nd rfl (by first | exact Or.inl rfl | exact Or.inr rfl) (pe_lst pa_nil))
 (pss_cons (ps_for PassesOwn.never rfl (pi_enum (by rfl) Z.b_enumerate (pa_cons (pv 1) pa_nil)) (pg_tup rfl (pgs_cons (pg_name (i := 4) nd rfl (by first | exact Or.inl rfl | exact Or.inr rfl)) (pgs_cons (pg_name (i := 5) nd rfl (by first | exact Or.inl rfl | exact Or.inr rfl)) pgs_nil))) (C8.pss_cut (ps_if (pt_val (pe_calC (E := E0) c_can_be (hr.mono (by decide)) rfl Z.g_can_be pass0 (pa_cons (pv 5) (pa_cons (pe_ix ix_tup (pv 0) pe_int (fun _ _ => rfl)) pa_nil)))) (pss_one (ps_expr (pe_bm PySem.F.plainAttrs_list PySem.F.slot_list_append PySem.F.type_list_append mt_append (pv 3) (pa_cons (pe_calC (E := E0) c_moved (hr.mono (by decide)) rfl Z.g_moved pass0 (pa_cons (pv 0) (pa_cons (pv 4) (pa_cons (pv 5) (pa_cons (pv 2) pa_nil))))) pa_nil)))) pss_nil)
 (pss_one (ps_if (pt_cmpR op_in_seq (pv 4) (pe_ix ix_tup (pv 0) pe_int (fun _ _ => rfl)) rfl) (pss_one (ps_expr (pe_bm PySem.F.plainAttrs_list PySem.F.slot_list_append PySem.F.type_list_append mt_append (pv 3) (pa_cons (pe_calC (E := E0) c_ended (hr.mono (by decide)) rfl Z.g_ended pass0 (pa_cons (pv 0) (pa_cons (pv 4) (pa_cons (pv 5) (pa_cons (pv 2) pa_nil))))) pa_nil)))) pss_nil))))
 (pss_one (ps_ret (pv 3))))))), ?_⟩
  obtain ⟨q, s', ml, mas, net, pl, A', bA, p, rfl, rfl, rfl, hS, hml, hM, B, hu, rm, hlen, hQ⟩ := h
  have lm : mas.length = net.length := hM.1
  refine ⟨by decide, fun d hd => ⟨_, rfl, ml, _, rfl, SqL.of (same_new hd _ _ hml), for_walk (walk_enum (K := K) (a := ml) (xs := mas.map V.ref)) (fun i σ H' => ∃ (v4 v5 : Option V) (ts : List Addr), σ = [some (.ref q), some (.ref ml), some (.ref pl), some (.ref d), v4, v5] ∧ H' d = some (.lst (ts.map V.ref)) ∧ Same H (hide H' d) ∧ SpotsAt (hide H' d) ts (behindN p s' net i)) ⟨none, none, [], rfl, upd_same, same_hide (same_new hd) hd, rfl, fun i t x a => by simp at a⟩ (fun i σ H' _ ⟨_, _, _, _, _, s5, _⟩ => SqL.of (hide_le _ _ (s5 _ _ hml))) ?_ ?_⟩⟩
  · rintro i x σ H1 H2 hi ⟨v4, v5, ts, rfl, hd1, s1, hL⟩ ⟨T, e1, e2, rfl, nT, rfl, he1, he2⟩
    rw [List.length_map, lm] at hi
    have hmv : net[i]? = some net[i] := List.getElem?_eq_getElem hi
    have hma : mas[i]? = some (mas[i]'(by omega)) := List.getElem?_eq_getElem (by omega)
    generalize net[i] = mv at hmv
    generalize mas[i]'(by omega) = ai at hma
    have hMi := hM.2 i ai mv hma hmv
    have rmi := rm mv (List.mem_of_getElem? hmv)
    cases he1
    replace he2 : (mas.map V.ref)[i]? = some e2 := he2
    rw [List.getElem?_map, hma] at he2
    cases he2
    have eB : behindN p s' net (i + 1) = behindN p s' net i ++ ((if canB mv s'.m = true then [spMoved p s' i mv] else []) ++ (if s'.b.contains (i : Int) = true then [spEnded p s' i mv] else [])) := by
      rw [behindN_succ]
      unfold behindI
      rw [hmv]
    have lB := behindN_len p s' net i
    obtain ⟨H2, eH2⟩ : ∃ H2, H2 = upd H1 T (.tup [.int i, .ref ai]) := ⟨_, rfl⟩
    have sT : Same H1 H2 := by rw [eH2]; exact same_new nT
    have hT : H2 T = some (.tup [.int i, .ref ai]) := by rw [eH2]; exact upd_same
    rw [← eH2]
    have hd2 := sT _ _ hd1
    have s2 := s1.trans (hide_same (d := d) sT)
    have hL2 := hL.mono (hide_same (d := d) sT)
    obtain ⟨ta, tb, th, k0, k1, k2, k3⟩ := hS
    have hS' : SpotAt H q s' := ⟨ta, tb, th, k0, k1, k2, k3⟩
    have mvs : ∀ {H3 : Hp}, Same H (hide H3 d) → Same H H3 := fun g => g.trans hide_le
    refine ⟨T, _, rfl, .inl (.inl hT), rfl, _, _, rfl, _, _, rfl, rfl, fun σ' H' => ∃ (ts : List Addr), σ' = [some (.ref q), some (.ref ml), some (.ref pl), some (.ref d), some (.int i), some (.ref ai)] ∧ H' d = some (.lst (ts.map V.ref)) ∧ Same H (hide H' d) ∧ SpotsAt (hide H' d) ts (behindN p s' net i ++ (if canB mv s'.m = true then [spMoved p s' i mv] else [])), ?_, ?_⟩
    · refine ⟨_, rfl, _, rfl, q, _, (0 : Nat), .ref ta, rfl, rfl, .inl (.inl (mvs s2 _ _ k0)), atI_nat rfl, _, _, rfl, ai, ta, mv, s'.m, rfl, rfl, hMi.mono (mvs s2), mvs s2 _ _ k1, rmi.pre, fun H3 s3 => ?_⟩
      have hd3 := s3 _ _ hd2
      have g3 := s2.trans (hide_same (d := d) s3)
      have hL3 := hL2.mono (hide_same (d := d) s3)
      refine ⟨_, rfl, if_intro (fun c => ?_) fun c => ?_⟩
      · rw [if_pos c]
        refine ⟨_, rfl, .inl ⟨rfl, _, SqL.of hd3⟩, _, rfl, _, rfl, _, rfl, _, rfl, _, _, _, _, rfl, q, s', i, ai, mv, pl, A', bA, p, rfl, rfl, rfl, rfl, hS'.mono (mvs g3), hMi.mono (mvs g3), B.mono (mvs g3), hu, rmi, fun H4 q4 s4 hq4 => ?_⟩
        have hd4 := s4 _ _ hd3
        refine ⟨d, _, _, rfl, rfl, hd4, by rw [List.length_map, hL3.1]; exact line_lt (by omega), ts ++ [q4], rfl, ?_, ?_, ?_⟩
        · rw [upd_same, List.map_append]; rfl
        · rw [hide_upd]; exact g3.trans (hide_same s4)
        · rw [hide_upd]
          exact (hL3.mono (hide_same s4)).snoc (spot_hide hq4 hd4 (fun xs e => by cases e))
      · rw [if_neg c, List.append_nil]
        exact ⟨ts, rfl, hd3, g3, hL3⟩
    · rintro σ' H3 ⟨ts3, rfl, hd3, g3, hL3⟩
      refine ⟨_, rfl, _, rfl, q, _, (1 : Nat), .ref tb, rfl, rfl, .inl (.inl (mvs g3 _ _ k0)), atI_nat rfl, tb, _, rfl, .inr (.inl (.inl (mvs g3 _ _ k2))), rfl, flat_int _, ?_⟩
      rw [inV_int]
      simp only [Bool.false_eq_true, if_false]
      rw [← List.append_assoc] at eB
      refine ⟨_, rfl, if_intro (fun c => ?_) fun c => ?_⟩
      · rw [if_pos c] at eB
        refine ⟨_, rfl, .inl ⟨rfl, _, SqL.of hd3⟩, _, rfl, _, rfl, _, rfl, _, rfl, _, _, _, _, rfl, q, s', i, ai, mv, pl, A', bA, p, rfl, rfl, rfl, rfl, hS'.mono (mvs g3), hMi.mono (mvs g3), B.mono (mvs g3), hu, rmi, fun H4 q4 s4 hq4 => ?_⟩
        have hd4 := s4 _ _ hd3
        have l3 : ts3.length ≤ 2 * i + 1 := by
          rw [hL3.1, List.length_append]
          split <;> simp <;> omega
        refine ⟨d, _, _, rfl, rfl, hd4, by rw [List.length_map]; exact line_lt (by omega), _, _, ts3 ++ [q4], rfl, ?_, ?_, ?_⟩
        · rw [upd_same, List.map_append]; rfl
        · rw [hide_upd]; exact g3.trans (hide_same s4)
        · rw [hide_upd, eB]
          exact (hL3.mono (hide_same s4)).snoc (spot_hide hq4 hd4 (fun xs e => by cases e))
      · rw [if_neg c, List.append_nil] at eB
        exact ⟨_, _, ts3, rfl, hd3, g3, by rw [eB]; exact hL3⟩
  · rintro σ H1 ⟨v4, v5, ts, rfl, hd1, s1, hL⟩
    rw [List.length_map, lm] at hL
    exact ⟨_, rfl, hQ H1 d ts hd (s1.trans hide_le) hd1 (hL.mono hide_le)⟩
end
end Bw
end

section
set_option Elab.async false
set_option linter.all false
set_option maxRecDepth 100000
set_option maxHeartbeats 4000000
/-! All spots of a recipe. -/
namespace Bw
open PySem PySem.Spec PyProof.Rows L2 TL
def firstS (p : PS) : Spt := ⟨[0], [], List.replicate p.units.length 0⟩
def addN (f : List Spt) (x : Spt) : List Spt := if f.contains x = true then f else f ++ [x]
def stepS (p : PS) (net : List Mv) (f : List Spt) (i : Nat) : List Spt := match f[i]? with
  | none => f
  | some s => (behindN p s net net.length).foldl addN f
def loopS (p : PS) (net : List Mv) : Nat → Nat → List Spt → List Spt
  | 0, _, f => f
  | n + 1, i, f => if i < f.length ∧ f.length ≤ 600 then loopS p net n (i + 1) (stepS p net f i) else f
def spotsL (p : PS) (net : List Mv) : List Spt := loopS p net 601 0 [firstS p]
structure Fit (n i : Nat) (x : Spt) : Prop where
  m : x.m.length ≤ 2 + 2 * i
  b : x.b.length ≤ 2 + 2 * i
  h : x.h.length ≤ n
theorem srt_len (l : List Int) : (srt l).length = l.length := (List.mergeSort_perm l _).length_eq
theorem intL_len (l : List Nat) : (intL l).length = l.length := List.length_map _
theorem fit_moved {p : PS} {n i j : Nat} {x : Spt} {mv : Mv} (f : Fit n i x) (hp : mv.post.length ≤ 2) : Fit n (i + 1) (spMoved p x j mv) := by
  have fl := List.length_filter_le (fun x => !((intL mv.pre).contains x)) x.m
  have := f.m
  have := f.b
  have := f.h
  unfold spMoved
  by_cases hs : Vbwbzz.isStep mv.letter = true
  · rw [if_pos hs]
    exact ⟨by show (List.filter _ _).length ≤ _; omega, by show (srt _).length ≤ _; rw [srt_len, List.length_append]; simp; omega, by show (List.zipWith _ _ _).length ≤ _; rw [List.length_zipWith]; omega⟩
  · rw [if_neg hs]
    exact ⟨by show (srt _).length ≤ _; rw [srt_len, List.length_append, intL_len]; show (List.filter (fun x => !((intL mv.pre).contains x)) x.m).length + _ ≤ _; omega, by show x.b.length ≤ _; omega, f.h⟩
theorem fit_ended {p : PS} {n i j : Nat} {x : Spt} {mv : Mv} (f : Fit n i x) (hp : mv.post.length ≤ 2) : Fit n (i + 1) (spEnded p x j mv) := by
  have fl := List.length_filter_le (fun x => decide (x ≠ (j : Int))) x.b
  have := f.m
  have := f.b
  have := f.h
  exact ⟨by show (srt _).length ≤ _; rw [srt_len, List.length_append, intL_len]; omega, by show (List.filter _ _).length ≤ _; omega, by show (List.zipWith _ _ _).length ≤ _; rw [List.length_zipWith]; omega⟩
theorem fit_behind {p : PS} {n i : Nat} {x : Spt} {net : List Mv} (f : Fit n i x) (hp : ∀ mv ∈ net, mv.post.length ≤ 2) (k : Nat) : ∀ y ∈ behindN p x net k, Fit n (i + 1) y := by
  intro y hy
  unfold behindN at hy
  obtain ⟨j, _, hj⟩ := List.mem_flatMap.mp hy
  unfold behindI at hj
  split at hj
  · cases hj
  · rename_i mv hmv
    have hpm := hp mv (List.mem_of_getElem? hmv)
    rcases List.mem_append.mp hj with h | h
    · split at h
      · rw [List.mem_singleton] at h; subst h; exact fit_moved f hpm
      · cases h
    · split at h
      · rw [List.mem_singleton] at h; subst h; exact fit_ended f hpm
      · cases h
theorem Fit.up {n i : Nat} {x : Spt} (f : Fit n i x) : Fit n (i + 1) x := ⟨by have := f.m; omega, by have := f.b; omega, f.h⟩
theorem addN_len (f : List Spt) (x : Spt) : f.length ≤ (addN f x).length ∧ (addN f x).length ≤ f.length + 1 := by unfold addN; split <;> simp
theorem fold_len : ∀ (l f : List Spt), f.length ≤ (l.foldl addN f).length ∧ (l.foldl addN f).length ≤ f.length + l.length
  | [], f => by simp
  | x :: l, f => by
    have h1 := addN_len f x
    have h2 := fold_len l (addN f x)
    rw [List.foldl_cons, List.length_cons]; omega
theorem fold_mem : ∀ (l f : List Spt) (y : Spt), y ∈ l.foldl addN f → y ∈ f ∨ y ∈ l
  | [], f, y, h => .inl h
  | x :: l, f, y, h => by
    rcases fold_mem l (addN f x) y h with h | h
    · unfold addN at h
      split at h
      · exact .inl h
      · rcases List.mem_append.mp h with h | h
        · exact .inl h
        · exact .inr (by rw [List.mem_singleton.mp h]; exact List.mem_cons_self ..)
    · exact .inr (List.mem_cons_of_mem _ h)
theorem fold_nodup : ∀ (l f : List Spt), f.Nodup → (l.foldl addN f).Nodup
  | [], f, h => h
  | x :: l, f, h => fold_nodup l (addN f x) (by
    unfold addN
    split
    · exact h
    · rename_i hc
      refine List.nodup_append.mpr ⟨h, by simp, fun a ha b hb => ?_⟩
      rw [List.mem_singleton] at hb
      subst hb
      rintro rfl
      exact hc (List.contains_iff_mem.mpr ha))
theorem hide2_d {H : Hp} {d e : Addr} {o : HO} : hide (hide (upd H d o) d) e = hide (hide H d) e := by rw [hide_upd]
theorem hide2_e {H : Hp} {d e : Addr} {o : HO} : hide (hide (upd H e o) d) e = hide (hide H d) e := by
  funext x
  by_cases h : x = e
  · subst h; unfold hide; rw [if_pos rfl, if_pos rfl]
  · rw [hide_ne h, hide_ne h]
    unfold hide
    split
    · rfl
    · rw [upd_ne h]
theorem hide2_at {H : Hp} {d e x : Addr} (h1 : x ≠ d) (h2 : x ≠ e) : hide (hide H d) e x = H x := by rw [hide_ne h2, hide_ne h1]
theorem spot_hide2 {H : Hp} {d e q : Addr} {s : Spt} {u v : HO} (h : SpotAt H q s) (hd : H d = some u) (he : H e = some v) (hu : ∀ xs, u ≠ .tup xs) (hv : ∀ xs, v ≠ .tup xs) : SpotAt (hide (hide H d) e) q s := by
  obtain ⟨a, b, c, h1, h2, h3, h4⟩ := h
  have ne : ∀ {x xs}, H x = some (.tup xs) → x ≠ d ∧ x ≠ e := fun {x xs} z => ⟨fun y => by rw [y, hd] at z; exact hu _ (Option.some.inj z), fun y => by rw [y, he] at z; exact hv _ (Option.some.inj z)⟩
  exact ⟨a, b, c, by rw [hide2_at (ne h1).1 (ne h1).2]; exact h1, by rw [hide2_at (ne h2).1 (ne h2).2]; exact h2, by rw [hide2_at (ne h3).1 (ne h3).2]; exact h3, by rw [hide2_at (ne h4).1 (ne h4).2]; exact h4⟩
theorem zip_all {H : Hp} {qs : List Addr} {xs : List Spt} (h : SpotsAt H qs xs) : ∀ k ∈ xs.zip qs, SpotAt H k.2 k.1 := by
  intro k hk
  obtain ⟨i, hi⟩ := List.mem_iff_getElem?.mp hk
  have := List.getElem?_zip_eq_some.mp hi
  exact h.2 i k.2 k.1 this.2 this.1
theorem zip_fst {xs : List Spt} {qs : List Addr} (h : qs.length = xs.length) : (xs.zip qs).map (·.1) = xs := List.map_fst_zip (by omega)
section
variable {P : Program} {w : World} {K : PySem.W.Frag} {mg : Str → Option Value} {base : Heap}
def sp_spots_of (K : PySem.W.Frag) (r : Nat) : Sp := sp2 fun v v1 H Q _ => ∃ (pl : Addr) (A : PA) (bA : BA) (p : PS) (i : Nat) (nm : List Nat) (u : T) (b : List T) (x : Bl), v = .ref pl ∧ v1 = .int i ∧ PlantF K H pl A bA p ∧ p.units.length ≤ 1000 ∧ p.bk.recs[i]? = some (nm, u) ∧ u.bodies[0]? = some b ∧ (lays p.bk r).body b x ∧
  (Vbwbab.compiled x).moves.length ≤ 1000 ∧ (∀ mv ∈ (Vbwbab.compiled x).moves, mv.pre.length ≤ 2 ∧ mv.post.length ≤ 2) ∧
  ∀ (H' : Hp) (d : Addr) (qs : List Addr), Same H H' → H' d = some (.lst (qs.map V.ref)) → SpotsAt H' qs (spotsL p (Vbwbab.compiled x).moves) → Q (.ref d) H'
theorem ok_spots_of (Z : Tx w K mg) (r : Nat) (c_net_of : Cal P w K mg base CX0 (r+5) (He.fAd K ("net_of", none)) ["book", "recipe"] (sp_net_of K r)) : Cal P w K mg base CX0 (r+6) (He.fAd K ("spots_of", none)) ["plant", "recipe"] (sp_spots_of K r) := by
  obtain ⟨fd, F⟩ := Z.fd_spots_of
  have c_Plant_nothing := ok_Plant_nothing (P := P) (w := w) (base := base) Z
  have c_spots_behind := ok_spots_behind (P := P) (w := w) (base := base) Z
  refine ⟨⟨fd, F.ok sc_spots_of (fun vs H Q E h => ?_) (fun cdv A outer s H vs Q E hr h => ?_), F.bindsN fun _ _ _ _ _ _ us hl => match us, hl with | [_, _], _ => rfl⟩, F.kp⟩
  · exact sp2_len h
  have sc := sc_spots_of
  have nd : N_spots_of.Nodup := sc.nd
  replace h := sp2_get h
  obtain ⟨v_plant, v_recipe, rfl, h⟩ := h
  refine ⟨_, PSs.nox (by exact ((pss_cons (ps_set (i := 2) nd rfl (by first | exact Or.inl rfl | exact Or.inr rfl) (pe_calC (E := E0) c_net_of (hr.mono (by omega)) rfl Z.g_net_of pass0 (pa_cons (pe_fld (pv 0) rfl) (pa_cons (pv 1) pa_nil))))
 (pss_cons (ps_set (i := 3) nd rfl (by first | exact Or.inl rfl | exact Or.inr rfl) (pe_tup (pa_cons (pe_tup (pa_cons pe_int pa_nil)) (pa_cons (pe_tup pa_nil) (pa_cons (pe_metC0 (E := E0) (pv 0) Z.cl_Plant Z.m_Plant_nothing c_Plant_nothing (hr.mono (by omega)) pass0) pa_nil)))))
 (pss_cons (ps_set (i := 4) nd rfl (by first | exact Or.inl rfl | exact Or.inr rfl) (pe_lst (pa_cons (pv 3) pa_nil)))
 (pss_cons (ps_set (i := 5) nd rfl (by first | exact Or.inl rfl | exact Or.inr rfl) (pe_dispN (hu9_of hr) (pv 3) pe_bl))
 (pss_cons (ps_set (i := 6) nd rfl (by first | exact Or.inl rfl | exact Or.inr rfl) pe_int)
 (pss_cons (ps_while PassesOwn.never (PW.pt (pw_and (pt_cmpR op_lt (pv 6) (pe_callB call_len_seq (by rfl) Z.b_len (by decide +kernel) (pa_cons (pv 4) pa_nil)) (nomark _)) (pw_and1 (pt_cmpR op_le (pe_callB call_len_seq (by rfl) Z.b_len (by decide +kernel) (pa_cons (pv 4) pa_nil)) (pe_gi rfl Z.g_MOST_SPOTS) (nomark _))))) (C8.pss_cut (ps_for PassesOwn.never rfl (pi_list (pe_calC (E := E0) c_spots_behind (hr.mono (by omega)) rfl Z.g_spots_behind pass0 (pa_cons (pe_ix ix_list (pv 4) (pv 6) (fun _ _ => rfl)) (pa_cons (pv 2) (pa_cons (pv 0) pa_nil))))) (pg_name (i := 7) nd rfl (by first | exact Or.inl rfl | exact Or.inr rfl)) (pss_one (ps_if (pt_cmp (pc_notinN (hu9_of hr) (pv 7) (pv 5))) (pss_cons (ps_dputN (hu9_of hr) (pv 5) (pv 7) pe_bl rfl)
 (pss_one (ps_expr (pe_bm PySem.F.plainAttrs_list PySem.F.slot_list_append PySem.F.type_list_append mt_append (pv 4) (pa_cons (pv 7) pa_nil))))) pss_nil)))
 (pss_one (ps_aug (i := 6) nd rfl (by first | exact Or.inl rfl | exact Or.inr rfl) pe_int ip_add))))
 (pss_one (ps_ret (pv 4))))))))))), ?_⟩
  obtain ⟨pl, A', bA, p, i, nm, u, b, x, rfl, rfl, B, hu, hr', hb, hx, hn, hp, hQ⟩ := h
  have cl := Z.cl_Plant
  refine ⟨_, rfl, pl, _, _, _, _, rfl, B.obj, cl, Z.n_Plant_book, lk_Plant_book _ _ _ _ _ _, _, rfl, _, _, rfl, A'.bk, H, bA, p.bk, i, nm, u, b, x, rfl, rfl, Same.refl H, B.book, hr', hb, hx, by show (Vbwbab.compiled x).moves.length ≤ _; omega, fun H1 ml mas s1 hml hM => ?_⟩
  have B1 := B.mono s1
  generalize (Vbwbab.compiled x).moves = net at hn hp hQ hM
  refine ⟨(by show 1 ≤ sizeLine; decide), fun t1 h1 => ⟨(by show 0 ≤ sizeLine; decide), fun t2 h2 => ?_⟩⟩
  have s2 := (same_new (o := .tup [.int 0]) h1).trans (same_new (o := .tup []) h2)
  have ht1 := same_new (o := .tup []) h2 _ _ (upd_same (H := H1) (a := t1) (o := .tup [.int 0]))
  have ht2 := upd_same (H := upd H1 t1 (.tup [.int 0])) (a := t2) (o := .tup [])
  have B2 := B1.mono s2
  refine ⟨_, rfl, pl, _, _, rfl, B2.obj, lm_Plant_nothing _ _ _ _ _ _, _, rfl, pl, A', bA, p, rfl, B2, hu, fun H3 t3 s3 ht3 => ⟨(by show 3 ≤ sizeLine; decide), fun q0 hq0 => ?_⟩⟩
  have s4 := s3.trans (same_new (o := .tup [.ref t1, .ref t2, .ref t3]) hq0)
  have sp0 : SpotAt (upd H3 q0 (.tup [.ref t1, .ref t2, .ref t3])) q0 (firstS p) := by
    refine ⟨t1, t2, t3, upd_same, s4 _ _ ht1, s4 _ _ ht2, ?_⟩
    have := same_new (o := .tup [.ref t1, .ref t2, .ref t3]) hq0 _ _ ht3
    rw [this]
    unfold firstS
    simp only [List.map_replicate]; rfl
  refine ⟨_, rfl, (by show 1 ≤ sizeLine; decide), fun d hd e he => ?_⟩
  have s5 := ((s1.trans s2).trans s4).trans (same_new (o := .lst [.ref q0]) hd)
  have sM := (s2.trans s4).trans (same_new (o := .lst [.ref q0]) hd)
  have s6 := s5.trans (same_new (o := dn P w e []) he)
  have sM6 := sM.trans (same_new (o := dn P w e []) he)
  have sp6 := (sp0.mono (same_new (o := .lst [.ref q0]) hd)).mono (same_new (o := dn P w e []) he)
  refine ⟨_, rfl, upd_same, q0, firstS p, rfl, sp6, ?_⟩
  rw [upd_upd]
  have ned : e ≠ d := by
    rintro rfl
    rw [upd_same] at he; cases he
  have hdn : (upd H3 q0 (.tup [.ref t1, .ref t2, .ref t3])) d = none := hd
  have hen : (upd H3 q0 (.tup [.ref t1, .ref t2, .ref t3])) e = none := by rw [upd_ne ned] at he; exact he
  obtain ⟨HB, eHB⟩ : ∃ HB, HB = upd H3 q0 (.tup [.ref t1, .ref t2, .ref t3]) := ⟨_, rfl⟩
  rw [← eHB] at hdn hen s5 sM s6 sM6 sp0 hd he sp6 s4 ⊢
  have sB := (s1.trans s2).trans s4
  have sMB := s2.trans s4
  refine ⟨fun m σ H' => ∃ (j : Nat) (v7 : Option V) (xs : List Spt) (qs : List Addr), m = 601 - j ∧ j ≤ 601 ∧ j ≤ xs.length ∧ σ = [some (.ref pl), some (.int i), some (.ref ml), some (.ref q0), some (.ref d), some (.ref e), some (.int j), v7] ∧ H' d = some (.lst (qs.map V.ref)) ∧ H' e = some (dn P w e (xs.zip qs)) ∧ Same HB (hide (hide H' d) e) ∧ SpotsAt (hide (hide H' d) e) qs xs ∧ xs.Nodup ∧ (∀ x ∈ xs, Fit 1000 j x) ∧ xs.length ≤ 3000 ∧ loopS p net (601 - j) j xs = spotsL p net, ⟨_, 0, none, [firstS p], [q0], rfl, by omega, by omega, rfl, ?_, ?_, ?_, ⟨rfl, ?_⟩, by simp, ?_, by simp, rfl⟩, ?_⟩
  · rw [upd_ne (Ne.symm ned), upd_same]; rfl
  · exact upd_same
  · exact same_hide (same_hide ((same_new hd).trans (same_new he)) hdn) hen
  · intro k t x ht hx'
    have g := same_hide (same_hide ((same_new (o := .lst [.ref q0]) hd).trans (same_new (o := dn P w e ([firstS p].zip [q0])) he)) hdn) hen
    cases k with
    | zero => cases ht; cases hx'; exact sp0.mono g
    | succ k => simp at ht
  · intro y hy
    rw [List.mem_singleton] at hy
    subst hy
    exact ⟨by show 1 ≤ _; omega, by show 0 ≤ _; omega, by show (List.replicate _ _).length ≤ _; simp; exact hu⟩
  · rintro m σ H4 ⟨j, v7, xs, qs, rfl, hj, hjx, rfl, hd4, he4, s7, hS, hnd, hfit, hx3, hloop⟩
    have lq : (qs.map V.ref).length = xs.length := by rw [List.length_map]; exact hS.1
    have leave : ¬ (j < xs.length ∧ xs.length ≤ 600) → Q (.ref d) H4 := fun c => by
      have e0 : loopS p net (601 - j) j xs = xs := by
        cases h0 : 601 - j with
        | zero => rfl
        | succ n => unfold loopS; rw [if_neg c]
      rw [e0] at hloop
      rw [← hloop] at hQ
      exact hQ H4 d qs (sB.trans (s7.trans (hide_le.trans hide_le))) hd4 (hS.mono (hide_le.trans hide_le))
    refine ⟨_, rfl, _, rfl, d, _, rfl, .inl (SqL.of hd4), _, _, rfl, rfl, _, rfl, if_intro (fun c1 => ?_) fun c1 => ?_⟩
    · have c1' : j < xs.length := by
        have := of_decide_eq_true c1
        rw [lq] at this; omega
      refine ⟨_, rfl, d, _, rfl, .inl (SqL.of hd4), _, _, rfl, rfl, _, rfl, if_intro (fun c2 => ?_) fun c2 => ?_⟩
      · have c2' : xs.length ≤ 600 := by
          have := of_decide_eq_true c2
          rw [lq] at this; omega
        obtain ⟨sj, hsj⟩ : ∃ sj, xs[j]? = some sj := ⟨_, List.getElem?_eq_getElem c1'⟩
        obtain ⟨qj, hqj⟩ : ∃ qj, qs[j]? = some qj := ⟨_, List.getElem?_eq_getElem (by rw [hS.1]; exact c1')⟩
        have spj := hS.2 j qj sj hqj hsj
        have fj := hfit sj (List.mem_of_getElem? hsj)
        have back : Same (hide (hide H4 d) e) H4 := hide_le.trans hide_le
        have toH4 : Same HB H4 := s7.trans back
        have ys_fit := fit_behind (p := p) fj (fun mv hmv => (hp mv hmv).2) net.length
        have ys_len := behindN_len p sj net net.length
        have stepE : stepS p net xs j = (behindN p sj net net.length).foldl addN xs := by unfold stepS; rw [hsj]
        have flen := fold_len (behindN p sj net net.length) xs
        have hloop2 : loopS p net (601 - (j + 1)) (j + 1) (stepS p net xs j) = spotsL p net := by
          rw [← hloop]
          have : 601 - j = (601 - (j + 1)) + 1 := by omega
          rw [this]
          conv => rhs; unfold loopS
          rw [if_pos ⟨c1', c2'⟩]
        refine ⟨fun σ' H' => ∃ (v7 : Option V) (qs2 : List Addr), σ' = [some (.ref pl), some (.int i), some (.ref ml), some (.ref q0), some (.ref d), some (.ref e), some (.int (j + 1 : Nat)), v7] ∧ H' d = some (.lst (qs2.map V.ref)) ∧ H' e = some (dn P w e ((stepS p net xs j).zip qs2)) ∧ Same HB (hide (hide H' d) e) ∧ SpotsAt (hide (hide H' d) e) qs2 (stepS p net xs j), ?_, ?_⟩
        · rintro σ' H' ⟨v7', qs2, rfl, g1, g2, g3, g4⟩
          refine ⟨601 - (j + 1), by omega, j + 1, v7', _, qs2, rfl, by omega, ?_, rfl, g1, g2, g3, g4, ?_, ?_, ?_, hloop2⟩
          · rw [stepE]; omega
          · rw [stepE]; exact fold_nodup _ _ hnd
          · rw [stepE]
            intro y hy
            rcases fold_mem _ _ y hy with h | h
            · exact (hfit y h).up
            · exact ys_fit y h
          · rw [stepE]; omega
        obtain ⟨ys, eys⟩ : ∃ ys, ys = behindN p sj net net.length := ⟨_, rfl⟩
        rw [← eys] at ys_fit ys_len stepE flen
        refine ⟨fun σ' H' => ∃ (v7 : Option V) (qs2 : List Addr), σ' = [some (.ref pl), some (.int i), some (.ref ml), some (.ref q0), some (.ref d), some (.ref e), some (.int j), v7] ∧ H' d = some (.lst (qs2.map V.ref)) ∧ H' e = some (dn P w e ((stepS p net xs j).zip qs2)) ∧ Same HB (hide (hide H' d) e) ∧ SpotsAt (hide (hide H' d) e) qs2 (stepS p net xs j), ?_, ?_⟩
        · refine ⟨_, rfl, _, rfl, d, _, (j : Nat), .ref qj, rfl, rfl, SqL.of hd4, atI_nat (by rw [List.getElem?_map, hqj]; rfl), _, rfl, _, rfl, _, _, _, rfl, qj, sj, ml, mas, net, pl, A', bA, p, rfl, rfl, rfl, spj.mono back, (sMB.trans toH4) _ _ hml, (hM.mono sMB).mono toH4, (B.mono sB).mono toH4, hu, fun mv hmv => ⟨by have := fj.m; omega, by have := fj.b; omega, fj.h, by have := (hp mv hmv).1; omega, by have := (hp mv hmv).2; omega⟩, hn, fun H5 rl ts nrl s8 hrl hR => ?_⟩
          rw [← eys] at hR
          have hd5 := s8 _ _ hd4
          have he5 := s8 _ _ he4
          have nrd : rl ≠ d := fun z => by rw [z, hd4] at nrl; cases nrl
          have nre : rl ≠ e := fun z => by rw [z, he4] at nrl; cases nrl
          have hR2 : SpotsAt (hide (hide H5 d) e) ts ys := ⟨hR.1, fun k t y h1 h2 => spot_hide2 (hR.2 k t y h1 h2) hd5 he5 (fun xs z => by cases z) (fun xs z => by cases z)⟩
          have hr2 : hide (hide H5 d) e rl = some (.lst (ts.map V.ref)) := by rw [hide2_at nrd nre]; exact hrl
          refine ⟨rl, rfl, ⟨_, SqL.of hrl⟩, for_walk (walk_list (K := K) (a := rl) (xs := ts.map V.ref)) (fun k σ H' => ∃ (v7 : Option V) (qs2 : List Addr), σ = [some (.ref pl), some (.int i), some (.ref ml), some (.ref q0), some (.ref d), some (.ref e), some (.int j), v7] ∧ H' d = some (.lst (qs2.map V.ref)) ∧ H' e = some (dn P w e (((ys.take k).foldl addN xs).zip qs2)) ∧ Same (hide (hide H5 d) e) (hide (hide H' d) e) ∧ SpotsAt (hide (hide H' d) e) qs2 ((ys.take k).foldl addN xs))
            ⟨v7, qs, rfl, hd5, he5, Same.refl _, hS.mono (hide_same (hide_same s8))⟩ (fun k σ H' _ ⟨_, _, _, _, _, g, _⟩ => SqL.of (hide_le _ _ (hide_le _ _ (g _ _ hr2)))) ?_ ?_⟩
          · rintro k y σ H6 H7 hk ⟨v7', qs2, rfl, hd6, he6, g6, hS6⟩ ⟨rfl, hyk⟩
            rw [List.length_map] at hk
            have hky : k < ys.length := by rw [← hR.1]; exact hk
            obtain ⟨yk, eyk⟩ : ∃ yk, ys[k]? = some yk := ⟨_, List.getElem?_eq_getElem hky⟩
            obtain ⟨tk, etk⟩ : ∃ tk, ts[k]? = some tk := ⟨_, List.getElem?_eq_getElem hk⟩
            rw [List.getElem?_map, etk] at hyk
            cases hyk
            have eT : (ys.take (k + 1)).foldl addN xs = addN ((ys.take k).foldl addN xs) yk := by
              rw [List.take_add_one, eyk, List.foldl_append]; rfl
            have tl := fold_len (ys.take k) xs
            have tkl : (ys.take k).length ≤ 2000 := by rw [List.length_take]; omega
            have hk2 : SpotAt (hide (hide H7 d) e) tk yk := (hR2.2 k tk yk etk eyk).mono g6
            have b7 : Same (hide (hide H7 d) e) H7 := hide_le.trans hide_le
            obtain ⟨zs, ezs⟩ : ∃ zs, zs = (ys.take k).foldl addN xs := ⟨_, rfl⟩
            rw [← ezs] at eT tl he6 hS6
            have zl : (zs.zip qs2).length ≤ 3000 := by rw [List.length_zip]; omega
            refine ⟨_, rfl, _, rfl, e, tk, yk, zs.zip qs2, rfl, rfl, he6, hk2.mono b7, zip_all (hS6.mono b7), ?_⟩
            rw [zip_fst hS6.1]
            refine ⟨_, rfl, if_intro (fun c => ?_) fun c => ?_⟩
            · have nc : zs.contains yk = false := by simpa using c
              have eA : addN zs yk = zs ++ [yk] := by unfold addN; rw [if_neg (by rw [nc]; simp)]
              rw [eA] at eT
              have neD : d ≠ e := Ne.symm ned
              have hd7 : (upd H7 e (dn P w e (zs.zip qs2 ++ [(yk, tk)]))) d = some (.lst (qs2.map V.ref)) := by rw [upd_ne neD]; exact hd6
              have ql : qs2.length ≤ 3000 := by rw [hS6.1]; omega
              refine ⟨_, rfl, _, rfl, rfl, e, tk, yk, zs.zip qs2, rfl, rfl, he6, hk2.mono b7, zip_all (hS6.mono b7), by rw [zip_fst hS6.1]; exact nc, line_lt (by omega), _, rfl, .inl ⟨rfl, _, SqL.of hd7⟩, _, rfl, d, qs2.map V.ref, .ref tk, rfl, rfl, hd7, by rw [List.length_map]; exact line_lt (by omega), some (.ref tk), qs2 ++ [tk], rfl, ?_, ?_, ?_, ?_⟩
              · rw [upd_same, List.map_append]; rfl
              · rw [upd_ne (Ne.symm neD), upd_same, eT]
                have : (zs ++ [yk]).zip (qs2 ++ [tk]) = zs.zip qs2 ++ [(yk, tk)] := by rw [List.zip_append hS6.1.symm]; rfl
                rw [this]; rfl
              · rw [hide2_d, hide2_e]; exact g6
              · rw [hide2_d, hide2_e, eT]; exact hS6.snoc hk2
            · have nc : zs.contains yk = true := by simpa using c
              have eA : addN zs yk = zs := by unfold addN; rw [if_pos nc]
              rw [eA] at eT
              exact ⟨_, qs2, rfl, hd6, by rw [eT]; exact he6, g6, by rw [eT]; exact hS6⟩
          · rintro σ H6 ⟨v7', qs2, rfl, hd6, he6, g6, hS6⟩
            have full : ys.take (ts.map V.ref).length = ys := List.take_of_length_le (by rw [List.length_map, hR.1]; exact Nat.le_refl _)
            rw [full, ← stepE] at he6 hS6
            exact ⟨v7', qs2, rfl, hd6, he6, (s7.trans (hide_same (hide_same s8))).trans g6, hS6⟩
        · rintro σ' H' ⟨v7', qs2, rfl, g1, g2, g3, g4⟩
          exact ⟨_, rfl, _, _, rfl, rfl, v7', qs2, rfl, g1, g2, g3, g4⟩
      · have c2' : ¬ (j < xs.length ∧ xs.length ≤ 600) := fun z => c2 (decide_eq_true (by rw [lq]; omega))
        exact ⟨_, rfl, leave c2'⟩
    · have c1' : ¬ (j < xs.length ∧ xs.length ≤ 600) := fun z => c1 (decide_eq_true (by rw [lq]; omega))
      exact iteF ⟨_, rfl, leave c1'⟩
end
end Bw
end

section
set_option Elab.async false
set_option linter.all false
set_option maxRecDepth 100000
set_option maxHeartbeats 4000000
/-! Whether a recipe is right. -/
namespace Bw
open PySem PySem.Spec PyProof.Rows L2 TL
theorem eqv1 (l : List Int) : (PyData.tuple (l.map PyData.int)).eqv (PyData.tuple [PyData.int 1]) = decide (l = [1]) := by
  cases l with
  | nil => rfl
  | cons a r =>
    cases r with
    | nil =>
      simp [PyData.eqv, PyData.eqvAll]
      by_cases h : a = 1
      · subst h; rfl
      · rw [decide_eq_false h]; simpa using h
    | cons b r => simp [PyData.eqv, PyData.eqvAll]
theorem shp (l : List Int) : SeqAt.shaped (PyData.tuple (l.map PyData.int)) = true := by
  have h1 := PySem.W.depthAll_ints l
  have h2 : (PyData.tuple (l.map PyData.int)).depth ≤ 64 := by
    show PyData.depthAll _ + 1 ≤ 64
    omega
  unfold SeqAt.shaped
  rw [Bool.and_eq_true]
  exact ⟨PySem.W.canLayAll0_ints l, decide_eq_true h2⟩
theorem dpa {K : PySem.W.Frag} {H : Hp} : ∀ l : List Int, DpAll K H (l.map V.int) (l.map PyData.int)
  | [] => .nil
  | x :: r => .cons (.int x) (dpa r)
def okPair (x : Int × Int) : Bool := !(decide (x.1 < 0) || decide (x.2 < x.1))
def rightS (s : Spt) (c : List Int) : Bool := (s.h.zip c).all okPair && (decide (s.m ≠ [1]) || (decide (0 < s.b.length) || decide (s.h.sum = 0)))
section
variable {P : Program} {w : World} {K : PySem.W.Frag} {mg : Str → Option Value} {base : Heap}
def sp_is_spot_right (K : PySem.W.Frag) : Sp := sp2 fun v v1 H Q _ => ∃ (q t : Addr) (s : Spt) (c : List Int), v = .ref q ∧ v1 = .ref t ∧ SpotAt H q s ∧ TupI H t c ∧ ∀ H', Same H H' → Q (.bl (rightS s c)) H'
theorem ok_is_spot_right (Z : Tx w K mg) : Cal P w K mg base CX0 1 (He.fAd K ("is_spot_right", none)) ["spot", "claimed"] (sp_is_spot_right K) := by
  obtain ⟨fd, F⟩ := Z.fd_is_spot_right
  refine ⟨⟨fd, F.ok sc_is_spot_right (fun vs H Q E h => ?_) (fun cdv A outer s H vs Q E hr h => ?_), F.bindsN fun _ _ _ _ _ _ us hl => match us, hl with | [_, _], _ => rfl⟩, F.kp⟩
  · exact sp2_len h
  have sc := sc_is_spot_right
  have nd : N_is_spot_right.Nodup := sc.nd
  replace h := sp2_get h
  obtain ⟨v_spot, v_claimed, rfl, h⟩ := h
  refine ⟨_, PSs.nox (by exact ((pss_cons (ps_for PassesOwn.never rfl (pi_zipX true true (K := K) rfl (by rfl) Z.b_zip (pa_cons (pe_ix ix_tup (pv 0) pe_int (fun _ _ => rfl)) (pa_cons (pv 1) pa_nil))) (pg_tup rfl (pgs_cons (pg_name (i := 2) nd rfl (by first | exact Or.inl rfl | exact Or.inr rfl)) (pgs_cons (pg_name (i := 3) nd rfl (by first | exact Or.inl rfl | exact Or.inr rfl)) pgs_nil))) (pss_one (ps_if (PW.pt (pw_or (pt_cmpR op_lt (pv 2) pe_int (nomark _)) (pw_or1 (pt_cmpR op_gt (pv 2) (pv 3) (nomark _))))) (pss_one (ps_ret pe_bl)) pss_nil)))
 (pss_one (ps_ret (pe_or (pe_cmpR (op_neD hr.units) (pe_ix ix_tup (pv 0) pe_int (fun _ _ => rfl)) (pe_tup (pa_cons pe_int pa_nil)) (nomark _)) (pe_or (pe_cmpR op_gt (pe_callB call_len_seq (by rfl) Z.b_len (by decide +kernel) (pa_cons (pe_ix ix_tup (pv 0) pe_int (fun _ _ => rfl)) pa_nil)) pe_int (nomark _)) (pe_one (pe_cmpR op_eq (pe_callB (cr_sumT (K := K) rfl rfl) (by rfl) Z.b_sum (by decide +kernel) (pa_cons (pe_ix ix_tup (pv 0) pe_int (fun _ _ => rfl)) pa_nil)) pe_int (nomark _)))))))))), ?_⟩
  obtain ⟨q, t, s', c, rfl, rfl, ⟨ta, tb, th, k0, k1, k2, k3⟩, ht, h⟩ := h
  have hN : ∀ i, (∀ z ∈ (s'.h.zip c).take i, okPair z = true) → ∀ z, (s'.h.zip c)[i]? = some z → okPair z = false → rightS s' c = false := fun i _ z hz ho => by
    unfold rightS
    rw [Bool.and_eq_false_iff]
    refine .inl (Bool.eq_false_iff.mpr fun all => ?_)
    have := List.all_eq_true.mp all z (List.mem_of_getElem? hz)
    rw [ho] at this; cases this
  refine ⟨_, rfl, q, _, (2 : Nat), .ref th, rfl, rfl, .inl (.inl k0), atI_nat rfl, _, rfl, th, t, _, _, rfl, .inl (.inl k3), .inl (.inl ht), for_walk (walk_zipX (K := K) (t := true) (u := true) (n := (s'.h.zip c).length) (by simp)) (fun i σ H' => ∃ (v2 v3 : Option V), σ = [some (.ref q), some (.ref t), v2, v3] ∧ Same H H' ∧ ∀ z ∈ (s'.h.zip c).take i, okPair z = true) ⟨none, none, rfl, Same.refl H, by simp⟩ (fun i σ H' _ ⟨_, _, _, s5, _⟩ => ⟨.inl (.inl (s5 _ _ k3)), .inl (.inl (s5 _ _ ht))⟩) ?_ ?_⟩
  · rintro i x σ H1 H2 hi ⟨v2, v3, rfl, s5, hA⟩ ⟨T, e1, e2, rfl, nT, rfl, he1, he2⟩
    obtain ⟨a, b, hz⟩ : ∃ a b, (s'.h.zip c)[i]? = some (a, b) := ⟨((s'.h.zip c)[i]).1, ((s'.h.zip c)[i]).2, List.getElem?_eq_getElem hi⟩
    obtain ⟨g1, g2⟩ := List.getElem?_zip_eq_some.mp hz
    replace he1 : (s'.h.map V.int)[i]? = some e1 := he1
    replace he2 : (c.map V.int)[i]? = some e2 := he2
    rw [List.getElem?_map, g1] at he1
    rw [List.getElem?_map, g2] at he2
    cases he1
    cases he2
    have s6 := s5.trans (same_new (o := .tup [.int a, .int b]) nT)
    have tk : (s'.h.zip c).take (i + 1) = (s'.h.zip c).take i ++ [(a, b)] := by rw [List.take_add_one, hz]; rfl
    have bad : okPair (a, b) = false → Q (.bl false) (upd H1 T (.tup [.int a, .int b])) := fun ho => by
      have := h _ s6
      rw [hN i hA (a, b) hz ho] at this
      exact this
    refine ⟨T, _, rfl, .inl (.inl upd_same), rfl, _, _, rfl, _, _, rfl, rfl, ?_⟩
    refine ⟨_, rfl, _, _, rfl, rfl, _, rfl, if_intro (fun c1 => ?_) fun c1 => ?_⟩
    · refine iteT (bad ?_)
      unfold okPair
      have : a < 0 := of_decide_eq_true c1
      rw [decide_eq_true this]; rfl
    · have n1 : ¬ a < 0 := fun z => c1 (decide_eq_true z)
      refine ⟨_, rfl, _, rfl, _, _, rfl, rfl, _, rfl, if_intro (fun c2 => ?_) fun c2 => ?_⟩
      · refine bad ?_
        unfold okPair
        have : b < a := of_decide_eq_true c2
        rw [decide_eq_true this]; simp
      · have n2 : ¬ b < a := fun z => c2 (decide_eq_true z)
        refine ⟨_, _, rfl, s6, ?_⟩
        rw [tk]
        intro z hz2
        rcases List.mem_append.mp hz2 with h | h
        · exact hA z h
        · rw [List.mem_singleton] at h; subst h
          unfold okPair
          rw [decide_eq_false n1, decide_eq_false n2]; rfl
  · rintro σ H1 ⟨v2, v3, rfl, s5, hA⟩
    rw [List.take_length] at hA
    have all : (s'.h.zip c).all okPair = true := List.all_eq_true.mpr hA
    have fin : ∀ (b : Bool) (H2 : Hp), Same H1 H2 → b = (decide (s'.m ≠ [1]) || (decide (0 < s'.b.length) || decide (s'.h.sum = 0))) → Q (.bl b) H2 := fun b H2 s2 e => by
      have := h H2 (s5.trans s2)
      unfold rightS at this
      rw [all, Bool.true_and] at this
      rw [e]; exact this
    refine ⟨_, rfl, q, _, (0 : Nat), .ref ta, rfl, rfl, .inl (.inl (s5 _ _ k0)), atI_nat rfl, (by show 1 ≤ sizeLine; decide), fun t1 ht1 => ?_⟩
    have s6 := same_new (o := .tup [.int 1]) ht1
    refine ⟨PyData.tuple (s'.m.map .int), PyData.tuple [.int 1], .tup (.inl (.inl (s6 _ _ (s5 _ _ k1)))) (dpa _), .tup (.inl (.inl upd_same)) (dpa [1]), shp _, shp [1], ?_⟩
    rw [eqv1]
    refine ⟨_, rfl, if_intro (fun c1 => ?_) fun c1 => ?_⟩
    · refine fin true _ s6 ?_
      have : s'.m ≠ [1] := fun z => by rw [z] at c1; simp at c1
      rw [decide_eq_true this]; rfl
    · have n1 : ¬ s'.m ≠ [1] := fun z => c1 (by simpa using z)
      have s7 := s5.trans s6
      refine ⟨_, rfl, q, _, (1 : Nat), .ref tb, rfl, rfl, .inl (.inl (s7 _ _ k0)), atI_nat rfl, tb, _, rfl, .inr (.inl (.inl (s7 _ _ k2))), _, _, rfl, rfl, _, rfl, if_intro (fun c2 => ?_) fun c2 => ?_⟩
      · refine fin true _ s6 ?_
        have : 0 < s'.b.length := by
          have := of_decide_eq_true c2
          rw [List.length_map] at this; omega
        rw [decide_eq_false n1, decide_eq_true this]; rfl
      · have n2 : ¬ 0 < s'.b.length := fun z => c2 (decide_eq_true (by rw [List.length_map]; omega))
        refine ⟨_, rfl, q, _, (2 : Nat), .ref th, rfl, rfl, .inl (.inl (s7 _ _ k0)), atI_nat rfl, th, s'.h, rfl, .inl (.inl (s7 _ _ k3)), rfl, fin _ _ s6 ?_⟩
        rw [decide_eq_false n1, decide_eq_false n2, Bool.false_or, Bool.false_or]
        exact decide_eq_decide.mpr ⟨fun z => V.int.inj z, fun z => by rw [z]⟩
def rightR (p : PS) (net : List Mv) (r : Nat) : Bool := ((intL (vec p .claim r)).zip (intL (p.units.map (·.2)))).all (fun x => decide (x.1 ≤ x.2)) && (decide ((spotsL p net).length ≤ 600) && (spotsL p net).all fun s => rightS s (intL (vec p .claim r)))
def sp_is_recipe_right (K : PySem.W.Frag) (r : Nat) : Sp := sp2 fun v v1 H Q _ => ∃ (pl : Addr) (A : PA) (bA : BA) (p : PS) (i : Nat) (nm : List Nat) (u : T) (b : List T) (x : Bl), v = .ref pl ∧ v1 = .int i ∧ PlantF K H pl A bA p ∧ p.units.length ≤ 1000 ∧ p.bk.recs[i]? = some (nm, u) ∧ u.bodies[0]? = some b ∧ (lays p.bk r).body b x ∧
  (Vbwbab.compiled x).moves.length ≤ 1000 ∧ (∀ mv ∈ (Vbwbab.compiled x).moves, mv.pre.length ≤ 2 ∧ mv.post.length ≤ 2) ∧
  ∀ (H' : Hp), Same H H' → Q (.bl (rightR p (Vbwbab.compiled x).moves i)) H'
theorem loopS_len (p : PS) (net : List Mv) : ∀ n i f, f.length ≤ 600 + 2 * net.length → (loopS p net n i f).length ≤ 600 + 2 * net.length
  | 0, i, f, h => h
  | n + 1, i, f, h => by
    unfold loopS
    split
    · rename_i hc
      refine loopS_len p net n (i + 1) _ ?_
      unfold stepS
      split
      · exact h
      · rename_i s hs
        have h1 := fold_len (behindN p s net net.length) f
        have h2 := behindN_len p s net net.length
        omega
    · exact h
theorem ok_is_recipe_right (Z : Tx w K mg) (r : Nat) (c_spots_of : Cal P w K mg base CX0 (r+6) (He.fAd K ("spots_of", none)) ["plant", "recipe"] (sp_spots_of K r)) : Cal P w K mg base CX0 (r+7) (He.fAd K ("is_recipe_right", none)) ["plant", "recipe"] (sp_is_recipe_right K r) := by
  obtain ⟨fd, F⟩ := Z.fd_is_recipe_right
  have c_Plant_amounts := ok_Plant_amounts (P := P) (w := w) (base := base) Z
  have c_is_spot_right := ok_is_spot_right (P := P) (w := w) (base := base) Z
  refine ⟨⟨fd, F.ok sc_is_recipe_right (fun vs H Q E h => ?_) (fun cdv A outer s H vs Q E hr h => ?_), F.bindsN fun _ _ _ _ _ _ us hl => match us, hl with | [_, _], _ => rfl⟩, F.kp⟩
  · exact sp2_len h
  have sc := sc_is_recipe_right
  have nd : N_is_recipe_right.Nodup := sc.nd
  replace h := sp2_get h
  obtain ⟨v_plant, v_recipe, rfl, h⟩ := h
  refine ⟨_, PSs.nox (by exact ((pss_cons (ps_set (i := 2) nd rfl (by first | exact Or.inl rfl | exact Or.inr rfl) (pe_metC (E := E0) (pv 0) Z.cl_Plant Z.m_Plant_amounts c_Plant_amounts (hr.mono (by omega)) pass0 (pa_cons pe_str (pa_cons (pv 1) pa_nil))))
 (pss_cons (ps_for PassesOwn.never rfl (pi_zipX true false (K := K) rfl (by rfl) Z.b_zip (pa_cons (pv 2) (pa_cons (pe_dget (hu_of hr) (pe_fld (pv 0) rfl) pe_str (fun _ _ => rfl)) pa_nil))) (pg_tup rfl (pgs_cons (pg_name (i := 3) nd rfl (by first | exact Or.inl rfl | exact Or.inr rfl)) (pgs_cons (pg_name (i := 4) nd rfl (by first | exact Or.inl rfl | exact Or.inr rfl)) pgs_nil))) (pss_one (ps_if (pt_cmpR op_gt (pv 3) (pv 4) (nomark _)) (pss_one (ps_ret pe_bl)) pss_nil)))
 (pss_cons (ps_set (i := 5) nd rfl (by first | exact Or.inl rfl | exact Or.inr rfl) (pe_calC (E := E0) c_spots_of (hr.mono (by omega)) rfl Z.g_spots_of pass0 (pa_cons (pv 0) (pa_cons (pv 1) pa_nil))))
 (pss_one (ps_ret (pe_and (pe_cmpR op_le (pe_callB call_len_seq (by rfl) Z.b_len (by decide +kernel) (pa_cons (pv 5) pa_nil)) (pe_gi rfl Z.g_MOST_SPOTS) (nomark _)) (pe_one (pe_callB (cr_all rfl) (by rfl) Z.b_all (by decide +kernel) (pa_cons (pe_lc (own := [("spot", 6)]) (g := (gName 6)) rfl nd (pi_list (pv 5)) (blkOk_by (own := [("spot", 6)]) (N := N_is_recipe_right) (sc := defScope s_is_recipe_right) (by decide +kernel)) (fun _ _ _ _ _ => (pg_name (i := 6) nd rfl (by first | exact Or.inl rfl | exact Or.inr rfl))) (fun _ _ _ _ _ => pts_nil) (fun _ _ _ _ _ => (pe_calC (E := E0) c_is_spot_right (hr.mono (by omega)) rfl Z.g_is_spot_right pass0 (pa_cons (pv 6) (pa_cons (pv 2) pa_nil))))) pa_nil))))))))))), ?_⟩
  obtain ⟨pl, A', bA, p, i, nm, u, b, x, rfl, rfl, B, hu, hr', hb, hx, hn, hp, h⟩ := h
  have cl := Z.cl_Plant
  have hz : H A'.z3 = some (.lst (p.units.map fun x => natV x.2)) := B.ent (A'.z3, _) (by simp [plms])
  have ez : (p.units.map fun x => natV x.2) = (intL (p.units.map (·.2))).map V.int := by unfold intL; rw [List.map_map, List.map_map]; rfl
  rw [ez] at hz
  refine ⟨_, rfl, pl, _, _, rfl, B.obj, lm_Plant_amounts _ _ _ _ _ _, _, rfl, _, _, _, rfl, pl, A', bA, p, .claim, i, rfl, rfl, rfl, B, hu, fun H1 t s1 ht => ?_⟩
  unfold TupAt at ht
  rw [natV_ints] at ht
  have B1 := B.mono s1
  have hz1 := s1 _ _ hz
  have hd1 : DGet H1 A'.sd (.str "unit") (some (.ref A'.z3)) := by
    have := DGet.k (k := skey "unit") B1.sizes
    exact this
  obtain ⟨cs, ecs⟩ : ∃ cs, cs = intL (vec p .claim i) := ⟨_, rfl⟩
  obtain ⟨us, eus⟩ : ∃ us, us = intL (p.units.map (·.2)) := ⟨_, rfl⟩
  have eR : ∀ net, rightR p net i = ((cs.zip us).all (fun x => decide (x.1 ≤ x.2)) && (decide ((spotsL p net).length ≤ 600) && (spotsL p net).all fun s => rightS s cs)) := fun net => by rw [ecs, eus]; rfl
  rw [eR] at h
  rw [← ecs] at ht
  rw [← eus] at hz hz1
  refine ⟨_, rfl, _, rfl, pl, _, _, _, _, rfl, B1.obj, cl, Z.n_Plant_sizes, lk_Plant_sizes _ _ _ _ _ _, A'.sd, .ref A'.z3, rfl, hd1, t, A'.z3, _, _, rfl, .inl (.inl ht), SqL.of hz1, for_walk (walk_zipX (K := K) (t := true) (u := false) (n := (cs.zip us).length) (by simp)) (fun k σ H' => ∃ (v3 v4 v5 : Option V), σ = [some (.ref pl), some (.int i), some (.ref t), v3, v4, v5, none] ∧ Same H1 H' ∧ ∀ z ∈ (cs.zip us).take k, z.1 ≤ z.2) ⟨none, none, none, rfl, Same.refl H1, by simp⟩ (fun k σ H' _ ⟨_, _, _, _, s5, _⟩ => ⟨.inl (.inl (s5 _ _ ht)), SqL.of (s5 _ _ hz1)⟩) ?_ ?_⟩
  · rintro k x σ H2 H3 hi ⟨v3, v4, v5, rfl, s5, hA⟩ ⟨T, e1, e2, rfl, nT, rfl, he1, he2⟩
    obtain ⟨a, b', hz'⟩ : ∃ a b, (cs.zip us)[k]? = some (a, b) := ⟨((cs.zip us)[k]).1, ((cs.zip us)[k]).2, List.getElem?_eq_getElem hi⟩
    obtain ⟨g1, g2⟩ := List.getElem?_zip_eq_some.mp hz'
    replace he1 : (cs.map V.int)[k]? = some e1 := he1
    replace he2 : (us.map V.int)[k]? = some e2 := he2
    rw [List.getElem?_map, g1] at he1
    rw [List.getElem?_map, g2] at he2
    cases he1
    cases he2
    have s6 := s5.trans (same_new (o := .tup [.int a, .int b']) nT)
    have tk : (cs.zip us).take (k + 1) = (cs.zip us).take k ++ [(a, b')] := by rw [List.take_add_one, hz']; rfl
    refine ⟨T, _, rfl, .inl (.inl upd_same), rfl, _, _, rfl, _, _, rfl, rfl, ?_⟩
    refine ⟨_, rfl, _, rfl, _, _, rfl, rfl, _, rfl, if_intro (fun c1 => ?_) fun c1 => ?_⟩
    · have h2 := h _ (s1.trans s6)
      have : (cs.zip us).all (fun x => decide (x.1 ≤ x.2)) = false := by
        refine Bool.eq_false_iff.mpr fun all => ?_
        have h3 := List.all_eq_true.mp all (a, b') (List.mem_of_getElem? hz')
        have h4 : a ≤ b' := of_decide_eq_true h3
        have h5 : b' < a := of_decide_eq_true c1
        omega
      rw [this, Bool.false_and] at h2
      exact h2
    · refine ⟨_, _, _, rfl, s6, ?_⟩
      rw [tk]
      intro z hz2
      rcases List.mem_append.mp hz2 with h' | h'
      · exact hA z h'
      · rw [List.mem_singleton] at h'; subst h'
        have : ¬ b' < a := fun z => c1 (decide_eq_true z)
        show a ≤ b'
        omega
  · rintro σ H2 ⟨v3, v4, v5, rfl, s5, hA⟩
    rw [List.take_length] at hA
    have all : (cs.zip us).all (fun x => decide (x.1 ≤ x.2)) = true := List.all_eq_true.mpr fun z hz => decide_eq_true (hA z hz)
    rw [all, Bool.true_and] at h
    have B2 := B1.mono s5
    refine ⟨_, rfl, _, rfl, _, _, rfl, pl, A', bA, p, i, nm, u, b, x, rfl, rfl, B2, hu, hr', hb, hx, hn, hp, fun H3 d qs s6 hd hS => ?_⟩
    have s7 := (s1.trans s5).trans s6
    have hll := loopS_len p (Vbwbab.compiled x).moves 601 0 [firstS p] (by simp; omega)
    have hll' : (spotsL p (Vbwbab.compiled x).moves).length ≤ 600 + 2 * (Vbwbab.compiled x).moves.length := hll
    generalize spotsL p (Vbwbab.compiled x).moves = fs at h hS hll'
    have lq : (qs.map V.ref).length = fs.length := by rw [List.length_map]; exact hS.1
    refine ⟨_, rfl, d, _, rfl, .inl (SqL.of hd), _, _, rfl, rfl, _, rfl, if_intro (fun c1 => ?_) fun c1 => ?_⟩
    · have n1 : fs.length ≤ 600 := by
        have := of_decide_eq_true c1
        rw [lq] at this; omega
      rw [decide_eq_true n1, Bool.true_and] at h
      have ht3 := s6 _ _ (s5 _ _ ht)
      refine ⟨_, rfl, d, rfl, ⟨_, SqL.of hd⟩, fun D hD => lc_fn walk_list (fun k => .bl ((fs[k]?.map fun s => rightS s cs).getD false)) hD (fun H4 s8 => s8.seq (SqL.of hd)) (by rw [lq]; exact line_lt (by omega)) ?_ ?_⟩
      · rintro k y H4 H5 R hk s8 ⟨rfl, hy⟩ kk
        rw [lq] at hk
        have e1 : fs[k]? = some fs[k] := List.getElem?_eq_getElem hk
        have e2 : qs[k]? = some (qs[k]'(by rw [hS.1]; exact hk)) := List.getElem?_eq_getElem _
        generalize fs[k] = sk at e1
        generalize qs[k]'(by rw [hS.1]; exact hk) = tk at e2
        rw [List.getElem?_map, e2] at hy
        cases hy
        refine ⟨rfl, _, rfl, _, rfl, _, _, rfl, tk, t, sk, cs, rfl, rfl, (hS.2 k tk sk e2 e1).mono s8, s8 _ _ ht3, fun H6 s9 => ?_⟩
        have k1 := kk H6 s9
        rw [e1] at k1
        exact k1
      intro H4 s8 hD4
      have ea : fs.all (fun s => rightS s cs) = (fs.map fun s => rightS s cs).all id := by rw [List.all_map]; rfl
      have h2 := h H4 (s7.trans s8)
      rw [ea] at h2
      refine ⟨D, _, rfl, SqL.of ?_, h2⟩
      rw [hD4, List.map_map, lq]
      congr 2
      exact range_list fs _ _ fun i x hx => by rw [hx]; rfl
    · have n1 : ¬ fs.length ≤ 600 := fun z => c1 (decide_eq_true (by rw [lq]; omega))
      have h2 := h H3 s7
      rw [decide_eq_false n1, Bool.false_and] at h2
      exact h2
end
end Bw
end

section
set_option Elab.async false
set_option linter.all false
set_option maxRecDepth 100000
set_option maxHeartbeats 4000000
/-! The works read. -/
namespace Bw
open PySem PySem.Spec PyProof.Rows L2 TL
def linesRun (p : PS) : List (Nat × List (List Nat)) → Except Int PS
  | [] => .ok p
  | l :: r => if kindL p l.2 = 0 then linesRun (takeL p l.2) r else .error (-1000 - (100 * (l.1 : Int) + (kindL p l.2 : Int)))
def blockOf (k : Bk) (i : Nat) : Bl → Prop := fun x => ∃ nm u b, k.recs[i]? = some (nm, u) ∧ u.bodies[0]? = some b ∧ (lays k 120).body b x
structure BookOk (k : Bk) (bl : Nat → Bl) : Prop where
  at_ : ∀ i, i < k.recs.length → blockOf k i (bl i) ∧ (Vbwbab.compiled (bl i)).moves.length ≤ 1000 ∧ ∀ mv ∈ (Vbwbab.compiled (bl i)).moves, mv.pre.length ≤ 2 ∧ mv.post.length ≤ 2
def recsRun (p : PS) (bl : Nat → Bl) : Except Int PS := if p.bk.ei = true then .error (-1006) else if (List.range p.bk.recs.length).all (fun i => rightR p (Vbwbab.compiled (bl i)).moves i) = true then .ok p else .error (-1007)
def readPlant (r w : List Nat) (bl : Nat → Bl) : Except Int PS := match readBook r with
  | none => .error (-1008)
  | some k => match linesRun (PS.bare k) ((linesL w).map fun l => (l.1, l.2.map (List.map sg))) with
    | .error n => .error n
    | .ok p => recsRun p bl
theorem numbered_mem : ∀ (ls : List (List Nat)) (n : Nat) (l : Nat × List (List Nat)), l ∈ numbered n ls → n ≤ l.1 ∧ l.1 < n + ls.length ∧ ∃ x ∈ ls, l.2 = lwords x ∧ lwords x ≠ []
  | [], n, l, h => by cases h
  | x :: r, n, l, h => by
    unfold numbered at h
    split at h
    · obtain ⟨h1, h2, y, hy, h3⟩ := numbered_mem r (n + 1) l h
      exact ⟨by omega, by rw [List.length_cons]; omega, y, List.mem_cons_of_mem _ hy, h3⟩
    · rename_i hx
      rcases List.mem_cons.mp h with e | h
      · subst e
        exact ⟨Nat.le_refl _, by rw [List.length_cons]; show n < _; omega, x, List.mem_cons_self .., rfl, hx⟩
      · obtain ⟨h1, h2, y, hy, h3⟩ := numbered_mem r (n + 1) l h
        exact ⟨by omega, by rw [List.length_cons]; omega, y, List.mem_cons_of_mem _ hy, h3⟩
theorem line_facts {b : List Nat} (hb : b.length ≤ 6000) {l : Nat × List (List Nat)} (h : l ∈ linesL b) : l.1 ≤ 6001 ∧ l.2 ≠ [] ∧ l.2.length ≤ 100000 ∧ ∀ x ∈ l.2, x ≠ [] ∧ x.length ≤ 100000 := by
  obtain ⟨h1, h2, x, hx, e, hne⟩ := numbered_mem _ _ _ h
  obtain ⟨s1, s2⟩ := split_len b
  have s3 := s2 x hx
  have t1 := toks_len isB x []
  rw [e]
  refine ⟨by omega, hne, ?_, fun y hy => ⟨runs_ne _ _ _ hy, ?_⟩⟩
  · have := t1.1; unfold lwords; omega
  · have := t1.2 y hy
    simp at this; omega
section
variable {P : Program} {w : World} {K : PySem.W.Frag} {mg : Str → Option Value} {base : Heap}
theorem takeL_bk (p : PS) (ws : List (List Nat)) : (takeL p ws).bk = p.bk := by
  unfold takeL
  split
  · rfl
  · split
    · rfl
    · unfold takeF
      split
      · unfold PS.addNew; split <;> rfl
      · unfold PS.addPair; split <;> rfl
      · rfl
theorem kind_fits {p : PS} {ws : List (List Nat)} (F1 : Fits p) (h : kindL p ws = 0) : Fits (takeL p ws) := by
  have hf : formed ws = true := by
    unfold kindL at h
    by_cases e : formed ws = true
    · exact e
    · rw [if_neg e] at h; cases h
  obtain ⟨f, r, rfl, e1, e2, e3⟩ := formed_some hf
  rw [kindL_of hf] at h
  have eT : takeL p (kw f.s :: r) = takeF (p.addLn f.lg (Vbwbzz.joined (kw f.s :: r))) f (r.take f.names.length) ((r.drop f.names.length).map val) := by
    unfold takeL; simp only [fmOf_kw]
  rw [eT]
  rw [← kindF_addLn p f.lg (Vbwbzz.joined (kw f.s :: r))] at h
  replace F1 : Fits (p.addLn f.lg (Vbwbzz.joined (kw f.s :: r))) := ⟨F1.s, F1.v, F1.u, F1.c, F1.t, F1.g, F1.d⟩
  generalize p.addLn f.lg (Vbwbzz.joined (kw f.s :: r)) = p at h F1 ⊢
  unfold kindF at h
  unfold takeF
  cases hg : grp f with
  | new x =>
    rw [hg] at h
    simp only at h ⊢
    unfold kindNew at h
    split at h
    · cases h
    · split at h
      · cases h
      · rename_i hl
        have := F1.s
        have := F1.v
        have := F1.u
        cases x
        · have hl' : ¬ p.stuffs.length = 12 := hl
          exact ⟨by show (p.stuffs ++ [_]).length ≤ 12; rw [List.length_append, List.length_singleton]; omega, F1.v, F1.u, F1.c, F1.t, F1.g, F1.d⟩
        · have hl' : ¬ (p.vessels.map (·.1)).length = 12 := hl
          rw [List.length_map] at hl'
          exact ⟨F1.s, by show (p.vessels ++ [_]).length ≤ 12; rw [List.length_append, List.length_singleton]; omega, F1.u, F1.c, F1.t, F1.g, F1.d⟩
        · have hl' : ¬ (p.units.map (·.1)).length = 6 := hl
          rw [List.length_map] at hl'
          exact ⟨F1.s, F1.v, by show (p.units ++ [_]).length ≤ 6; rw [List.length_append, List.length_singleton]; omega, F1.c, F1.t, F1.g, F1.d⟩
  | pair x =>
    rw [hg] at h
    simp only at h ⊢
    unfold kindPair at h
    split at h
    · split at h
      · cases h
      · split at h
        · cases h
        · rename_i hl
          have := F1.c
          have := F1.t
          have := F1.g
          cases x
          · have hl' : ¬ p.claims.length = 60 := hl
            exact ⟨F1.s, F1.v, F1.u, by show (p.claims ++ [_]).length ≤ 60; rw [List.length_append, List.length_singleton]; omega, F1.t, F1.g, F1.d⟩
          · have hl' : ¬ p.takes.length = 60 := hl
            exact ⟨F1.s, F1.v, F1.u, F1.c, by show (p.takes ++ [_]).length ≤ 60; rw [List.length_append, List.length_singleton]; omega, F1.g, F1.d⟩
          · have hl' : ¬ p.gives.length = 60 := hl
            exact ⟨F1.s, F1.v, F1.u, F1.c, F1.t, by show (p.gives ++ [_]).length ≤ 60; rw [List.length_append, List.length_singleton]; omega, F1.d⟩
    · cases h
  | doing =>
    rw [hg] at h
    simp only at h ⊢
    unfold kindDoing at h
    split at h
    · split at h
      · cases h
      · split at h
        · cases h
        · rename_i hl
          have := F1.d
          exact ⟨F1.s, F1.v, F1.u, F1.c, F1.t, F1.g, by show (p.doings ++ [_]).length ≤ 60; rw [List.length_append, List.length_singleton]; omega⟩
    · cases h
theorem kind_ln {p : PS} {ws : List (List Nat)} (FL : LnOk p) (h : kindL p ws = 0) : LnOk (takeL p ws) := by
  have hf : formed ws = true := by
    unfold kindL at h
    by_cases e : formed ws = true
    · exact e
    · rw [if_neg e] at h; cases h
  obtain ⟨f, r, rfl, e1, e2, e3⟩ := formed_some hf
  have eT : takeL p (kw f.s :: r) = takeF (p.addLn f.lg (Vbwbzz.joined (kw f.s :: r))) f (r.take f.names.length) ((r.drop f.names.length).map val) := by
    unfold takeL; simp only [fmOf_kw]
  rw [eT]
  generalize Vbwbzz.joined (kw f.s :: r) = t
  generalize (r.take f.names.length) = ns
  generalize ((r.drop f.names.length).map val) = xs
  intro x
  have hx := FL x
  have el : ∀ q : PS, q.ln = (p.addLn f.lg t).ln → (q.ln x).length = (p.ln x).length + (if x = f.lg then 1 else 0) := fun q e => by
    rw [e]
    show (if x = f.lg then p.ln x ++ [t] else p.ln x).length = _
    split <;> simp
  cases f <;> (refine (el _ rfl).trans ?_; rw [hx]; cases x <;> simp [Fm.lg, takeF, grp, PS.addNew, PS.addPair, PS.addLn, PS.lnLen])
/-- all but some objects -/
def hideL (H : Hp) (ms : List (Addr × HO)) : Hp := fun x => if x ∈ ms.map (·.1) then none else H x
theorem lay_hideL {H G : Hp} {ms : List (Addr × HO)} (L : Lay H G ms) : Lay H (hideL H ms) ms ∧ Same G (hideL H ms) := by
  refine ⟨⟨fun b o e => ?_, L.at_, fun p hp => if_pos (List.mem_map.mpr ⟨p, hp, rfl⟩), L.nd⟩, fun b o e => ?_⟩
  · unfold hideL at e
    split at e
    · cases e
    · exact e
  · unfold hideL
    rw [if_neg]
    · exact L.same _ _ e
    · intro hb
      obtain ⟨q, hq, rfl⟩ := List.mem_map.mp hb
      rw [L.off q hq] at e; cases e
theorem hideL_new {H H0 : Hp} {ms : List (Addr × HO)} {x : Addr} {o : HO} (h : H x = some o) (h0 : H0 x = none) (hm : ∀ p ∈ ms, H0 p.1 = some p.2) : hideL H ms x = some o := by
  unfold hideL
  rw [if_neg]
  · exact h
  · intro hb
    obtain ⟨q, hq, rfl⟩ := List.mem_map.mp hb
    rw [hm q hq] at h0; cases h0
def sp_read_plant (K : PySem.W.Frag) : Sp := sp2 fun v v1 H Q E => ∃ (rb wb : List Nat) (bl : Nat → Bl), v = .str (S (rb.map sg)) ∧ v1 = .str (S (wb.map sg)) ∧ rb.length ≤ 6000 ∧ wb.length ≤ 6000 ∧ (∀ k, readBook rb = some k → k.ei = false → BookOk k bl) ∧ (∀ k, readBook rb = some k → k.recs.length ≤ 10) ∧
  (∀ n, readPlant rb wb bl = .error n → Rz K n E) ∧ ∀ p, readPlant rb wb bl = .ok p → ∀ (H' : Hp) (a : Addr) (A : PA) (bA : BA), Same H H' → PlantF K H' a A bA p → Q (.ref a) H'
theorem ok_read_plant (Z : Tx w K mg) (c_is_recipe_right : Cal P w K mg base CX0 127 (He.fAd K ("is_recipe_right", none)) ["plant", "recipe"] (sp_is_recipe_right K 120)) : Cal P w K mg base (L2.CX P w) 128 (He.fAd K ("read_plant", none)) ["recipes_text", "works_text"] (sp_read_plant K) := by
  obtain ⟨fd, F⟩ := Z.fd_read_plant
  have c_read_book := ok_read_book (P := P) (w := w) (base := base) Z
  have c_Plant_init := ok_Plant_init (P := P) (w := w) (base := base) Z
  have c_lines_of := ok_lines_of (P := P) (w := w) (base := base) Z
  have c_kind_of_line := ok_kind_of_line (P := P) (w := w) (base := base) Z
  have c_WrongWorks_init := ok_WrongWorks_init (P := P) (w := w) (base := base) Z
  have c_take_line := ok_take_line (P := P) (w := w) (base := base) Z
  refine ⟨⟨fd, F.ok sc_read_plant (fun vs H Q E h => ?_) (fun cdv A outer s H vs Q E hr h => ?_), F.bindsN fun _ _ _ _ _ _ us hl => match us, hl with | [_, _], _ => rfl⟩, F.kp⟩
  · exact sp2_len h
  have sc := sc_read_plant
  have nd : N_read_plant.Nodup := sc.nd
  replace h := sp2_get h
  obtain ⟨v_recipes_text, v_works_text, rfl, h⟩ := h
  refine ⟨_, by exact ((pss_cons (ps_set (i := 2) nd rfl (by first | exact Or.inl rfl | exact Or.inr rfl) (pe_calC (E := E) c_read_book (hr.mono (by omega)) rfl Z.g_read_book (passes_call (takes_of rfl rfl rfl rfl) (fun _ _ _ _ z => z)) (pa_cons (pv 0) pa_nil)))
 (pss_cons (ps_set (i := 3) nd rfl (by first | exact Or.inl rfl | exact Or.inr rfl) (pe_makC (E := E0) Z.mk_Plant c_Plant_init (hr.mono (by omega)) rfl Z.g_Plant pass0 (pa_cons (pv 2) pa_nil)))
 (pss_cons (ps_for (passes_of rfl) rfl (pi_list (pe_calC (E := E0) c_lines_of (hr.mono (by omega)) rfl Z.g_lines_of pass0 (pa_cons (pv 1) pa_nil))) (pg_tup rfl (pgs_cons (pg_name (i := 4) nd rfl (by first | exact Or.inl rfl | exact Or.inr rfl)) (pgs_cons (pg_name (i := 5) nd rfl (by first | exact Or.inl rfl | exact Or.inr rfl)) pgs_nil))) (pss_cons (ps_set (i := 6) nd rfl (by first | exact Or.inl rfl | exact Or.inr rfl) (pe_calC (E := E0) c_kind_of_line (hr.mono (by omega)) rfl Z.g_kind_of_line pass0 (pa_cons (pv 3) (pa_cons (pv 5) pa_nil))))
 (pss_cons (ps_if (pt_cmpR op_gt (pv 6) pe_int (nomark _)) (pss_one (ps_raise rfl (takes_of rfl rfl rfl rfl) (pmk_ecC Z.x_WrongWorks Z.in_WrongWorks Z.fn_WrongWorks c_WrongWorks_init (hr.mono (by omega)) pass0 rfl Z.g_WrongWorks (pa_cons (pv 4) (pa_cons (pv 6) pa_nil))))) pss_nil)
 (pss_one (ps_expr (pe_calC (E := E0) c_take_line (hr.mono (by omega)) rfl Z.g_take_line pass0 (pa_cons (pv 3) (pa_cons (pv 5) pa_nil))))))))
 (pss_cons (ps_if (pt_val (pe_fld (pv 2) rfl)) (pss_one (ps_raise rfl (takes_of rfl rfl rfl rfl) (pmk_ecC Z.x_WrongWorks Z.in_WrongWorks Z.fn_WrongWorks c_WrongWorks_init (hr.mono (by omega)) pass0 rfl Z.g_WrongWorks (pa_cons pe_int (pa_cons pe_int pa_nil))))) pss_nil)
 (pss_cons (ps_for (passes_of rfl) rfl (pi_range1 (by rfl) Z.b_range (pa_cons (pe_callB call_lenD (by rfl) Z.b_len (by decide +kernel) (pa_cons (pe_fld (pv 2) rfl) pa_nil)) pa_nil)) (pg_name (i := 7) nd rfl (by first | exact Or.inl rfl | exact Or.inr rfl)) (pss_one (ps_if (pt_not (pt_val (pe_calC (E := E0) c_is_recipe_right (hr.mono (by omega)) rfl Z.g_is_recipe_right pass0 (pa_cons (pv 3) (pa_cons (pv 7) pa_nil))))) (pss_one (ps_raise rfl (takes_of rfl rfl rfl rfl) (pmk_ecC Z.x_WrongWorks Z.in_WrongWorks Z.fn_WrongWorks c_WrongWorks_init (hr.mono (by omega)) pass0 rfl Z.g_WrongWorks (pa_cons pe_int (pa_cons pe_int pa_nil))))) pss_nil)))
 (pss_one (ps_ret (pv 3))))))))), ?_⟩
  obtain ⟨rb, wb, bl, rfl, rfl, hrb, hwb, hok, hten, hE, hQ⟩ := h
  refine ⟨_, rfl, _, rfl, rb, rfl, hrb, fun e => hE _ (by unfold readPlant; rw [e]), fun k ek H1 bk bA s1 BF => ?_⟩
  have eP : readPlant rb wb bl = (match linesRun (PS.bare k) ((linesL wb).map fun l => (l.1, l.2.map (List.map sg))) with
    | .error n => .error n
    | .ok p => recsRun p bl) := by unfold readPlant; rw [ek]
  refine ⟨_, rfl, fun p dx np ndx ne => ?_⟩
  have L0 : Lay H1 H1 [] := ⟨Same.refl _, (fun _ h => by cases h), (fun _ h => by cases h), List.nodup_nil⟩
  have L1 := (L0.later (same_new (o := .own p) ndx)).new (k := p) (o := .ins (cPl K) dx []) (by rw [upd_ne (Ne.symm ne)]; exact np)
  refine ⟨_, _, rfl, p, dx, bk, H1, bA, k, rfl, rfl, L1, BF, fun H2 G2 A g2 PA2 => ⟨rfl, ?_⟩⟩
  have PF2 := PA2.f
  have BF2 : BookF K H2 bk bA k := BF.mono (g2.trans PA2.lay.same)
  refine ⟨_, rfl, _, rfl, wb, rfl, hwb, fun H3 la ts nla s3 hla hLs => ⟨la, rfl, ⟨_, SqL.of hla⟩, ?_⟩⟩
  have PA3 := PA2.later s3
  obtain ⟨L3, g3⟩ := lay_hideL PA3.lay
  have PA3' := PA3.ghost L3 g3
  have hm : ∀ q ∈ plms A (PS.bare k), H2 q.1 = some q.2 := PA2.lay.at_
  have gla : hideL H3 (plms A (PS.bare k)) la = some (.lst (ts.map V.ref)) := hideL_new hla nla hm
  have gLs : LinesAt H2 (hideL H3 (plms A (PS.bare k))) ts (linesL wb) := ⟨hLs.1, fun i t l h1 h2 => by
    obtain ⟨wl, ⟨n1, n2⟩, e1, e2⟩ := (hLs.2 i t l h1 h2).ex
    exact ⟨wl, ⟨n1, n2⟩, hideL_new e1 n1 hm, hideL_new e2 n2 hm⟩⟩
  have BF3 : BookF K (hideL H3 (plms A (PS.bare k))) bk bA k := (BF.mono g2).mono g3
  generalize hideL H3 (plms A (PS.bare k)) = G3 at L3 g3 PA3' gla gLs BF3
  have S3 : Same H G3 := (s1.trans g2).trans g3
  obtain ⟨mls, emls⟩ : ∃ mls, mls = (linesL wb).map fun l => (l.1, l.2.map (List.map sg)) := ⟨_, rfl⟩
  rw [← emls] at eP
  have lm : mls.length = (linesL wb).length := by rw [emls, List.length_map]
  have lm2 : mls.length = (ts.map V.ref).length := by rw [lm, List.length_map, gLs.1]
  refine for_walk (walk_list (K := K) (a := la) (xs := ts.map V.ref)) (fun i σ H' => ∃ (v4 v5 v6 v7 : Option V) (G' : Hp) (A' : PA) (ps : PS), σ = [some (.str (S (rb.map sg))), some (.str (S (wb.map sg))), some (.ref bk), some (.ref p), v4, v5, v6, v7] ∧ PlantAt K H' G' p A' bA ps ∧ Same G3 G' ∧ Fits ps ∧ LnOk ps ∧ ps.bk = k ∧ linesRun (PS.bare k) mls = linesRun ps (mls.drop i))
    ⟨none, none, none, none, G3, A, PS.bare k, rfl, PA3', Same.refl _, ⟨by show 0 ≤ 12; decide, by show 0 ≤ 12; decide, by show 0 ≤ 6; decide, by show 0 ≤ 60; decide, by show 0 ≤ 60; decide, by show 0 ≤ 60; decide, by show 0 ≤ 60; decide⟩, (fun x => by cases x <;> rfl), rfl, rfl⟩ (fun i σ H' _ ⟨_, _, _, _, _, _, _, _, PA', g', _⟩ => SqL.of (PA'.lay.same _ _ (g' _ _ gla))) ?_ ?_
  · rintro i x σ H4 H5 hi ⟨v4, v5, v6, v7, G4, A4, ps, rfl, PA4, g4, F4, FL4, ek4, er⟩ ⟨rfl, hx⟩
    rw [List.length_map] at hi
    have hl : (linesL wb)[i]? = some ((linesL wb)[i]'(by rw [← gLs.1]; exact hi)) := List.getElem?_eq_getElem _
    obtain ⟨l, el⟩ : ∃ l, l = (linesL wb)[i]'(by rw [← gLs.1]; exact hi) := ⟨_, rfl⟩
    rw [← el] at hl
    obtain ⟨t, et⟩ : ∃ t, ts[i]? = some t := ⟨_, List.getElem?_eq_getElem hi⟩
    rw [List.getElem?_map, et] at hx
    cases hx
    obtain ⟨wl, _, e1, e2⟩ := (gLs.2 i t l et hl).ex
    obtain ⟨f1, f2, f3, f4⟩ := line_facts hwb (List.mem_of_getElem? hl)
    have e2' : G3 wl = some (.lst ((l.2.map (List.map sg)).map wv)) := by rw [e2, List.map_map]; rfl
    have hmi : mls[i]? = some (l.1, l.2.map (List.map sg)) := by rw [emls, List.getElem?_map, hl]; rfl
    have hdrop : mls.drop i = (l.1, l.2.map (List.map sg)) :: mls.drop (i + 1) := by
      obtain ⟨hlt, hge⟩ := List.getElem?_eq_some_iff.mp hmi
      rw [List.drop_eq_getElem_cons hlt, hge]
    rw [hdrop] at er
    obtain ⟨ws, ews⟩ : ∃ ws, ws = l.2.map (List.map sg) := ⟨_, rfl⟩
    rw [← ews] at e2' er
    have w1 : ws ≠ [] := by rw [ews]; simpa using f2
    have w2 : ws.length ≤ 100000 := by rw [ews, List.length_map]; exact f3
    have w3 : ∀ x ∈ ws, x ≠ [] ∧ x.length ≤ 100000 := by
      rw [ews]
      intro x hx
      obtain ⟨y, hy, rfl⟩ := List.mem_map.mp hx
      exact ⟨by simpa using (f4 y hy).1, by rw [List.length_map]; exact (f4 y hy).2⟩
    have hH := PA4.lay.same
    refine ⟨t, _, rfl, .inl (.inl (hH _ _ (g4 _ _ e1))), rfl, _, _, rfl, _, _, rfl, rfl, ?_⟩
    refine ⟨_, rfl, _, rfl, _, _, rfl, p, A4, bA, ps, wl, ws, rfl, rfl, PA4.f, PA4.das.1, hH _ _ (g4 _ _ e2'), w1, w2, w3, fun H6 s6 => ?_⟩
    have PA6 := PA4.later s6
    refine ⟨_, rfl, _, _, rfl, rfl, _, rfl, if_intro (fun c => ?_) fun c => ?_⟩
    · have hk : kindL ps ws ≠ 0 := by
        have := of_decide_eq_true c
        omega
      have er2 : linesRun (PS.bare k) mls = .error (-1000 - (100 * (l.1 : Int) + (kindL ps ws : Int))) := by
        rw [er]; unfold linesRun; rw [if_neg hk]
      have hR := hE _ (by rw [eP, er2])
      exact ⟨_, rfl, _, rfl, (by show 2 ≤ 1000; decide), fun a ha => ⟨_, _, _, rfl, a, (l.1 : Nat), (kindL ps ws : Nat), rfl, rfl, rfl, by omega, rz_made hR Z.x_WrongWorks Z.em_WrongWorks ha⟩⟩
    · have hk : kindL ps ws = 0 := by
        have := mt decide_eq_true c
        omega
      have er2 : linesRun (PS.bare k) mls = linesRun (takeL ps ws) (mls.drop (i + 1)) := by
        rw [er]
        conv => lhs; unfold linesRun
        rw [if_pos hk]
      refine ⟨_, rfl, _, rfl, _, _, rfl, p, A4, bA, ps, G4, wl, ws, rfl, rfl, PA6, F4, FL4, g4 _ _ e2', hk, fun H7 G7 A7 g7 PA7 => ?_⟩
      exact ⟨_, _, _, _, G7, A7, _, rfl, PA7, g4.trans g7, kind_fits F4 hk, kind_ln FL4 hk, (takeL_bk ps ws).trans ek4, er2⟩
  · rintro σ H4 ⟨v4, v5, v6, v7, G4, A4, ps, rfl, PA4, g4, F4, FL4, ek4, er⟩
    rw [← lm2] at er
    rw [List.drop_length] at er
    have eP4 : readPlant rb wb bl = recsRun ps bl := by rw [eP, er]; rfl
    have hB := PA4.lay.same _ _ (g4 _ _ (BF3.obj (bk, _) (List.mem_cons_self ..)))
    have hDr := PA4.lay.same _ _ (g4 _ _ (BF3.obj (bA.dr, .dK (dix k.names)) (by simp [bms])))
    refine ⟨_, rfl, bk, _, _, _, _, rfl, hB, Z.cl_Book, Z.n_Book_has_either, lk_Book_has_either _ _ _ _ _ _, _, rfl, if_intro (fun c => ?_) fun c => ?_⟩
    · have hR := hE (-1006) (by rw [eP4]; unfold recsRun; rw [ek4, if_pos c])
      exact ⟨by decide, fun a ha => ⟨_, _, _, rfl, a, 0, 6, rfl, rfl, rfl, by decide, rz_made hR Z.x_WrongWorks Z.em_WrongWorks ha⟩⟩
    have eP5 : readPlant rb wb bl = (if (List.range k.recs.length).all (fun i => rightR ps (Vbwbab.compiled (bl i)).moves i) = true then .ok ps else .error (-1007)) := by rw [eP4]; unfold recsRun; rw [ek4, if_neg c]
    have bok := hok k ek (by simpa using c)
    have ten := hten k ek
    have ldr : (dix k.names).length = k.recs.length := by rw [dix_len]; unfold Bk.names; rw [List.length_map]
    have PF4 := PA4.f
    have uu : ps.units.length ≤ 1000 := by have := F4.u; omega
    refine ⟨_, rfl, bk, _, _, _, _, rfl, hB, Z.cl_Book, Z.n_Book_recipes, lk_Book_recipes _ _ _ _ _ _, bA.dr, _, rfl, hDr, (k.recs.length : Nat), by rw [ldr], by omega, by omega, ?_⟩
    rw [Int.toNat_natCast]
    refine for_walk (walk_range (lo := 0) (n := k.recs.length)) (fun i σ H' => ∃ v7, σ = [some (.str (S (rb.map sg))), some (.str (S (wb.map sg))), some (.ref bk), some (.ref p), v4, v5, v6, v7] ∧ Same H4 H' ∧ ∀ j, j < i → rightR ps (Vbwbab.compiled (bl j)).moves j = true) ⟨v7, rfl, Same.refl _, fun j hj => absurd hj (Nat.not_lt_zero j)⟩ (fun _ _ _ _ _ => trivial) ?_ ?_
    · rintro i x σ H5 H6 hi ⟨v7', rfl, s5, hA⟩ ⟨rfl, hx⟩
      obtain rfl : x = V.int i := by rw [hx]; simp
      obtain ⟨⟨nm, u, b, h1, h2, h3⟩, h4, h5⟩ := bok.at_ i hi
      refine ⟨_, rfl, _, rfl, _, _, rfl, p, A4, bA, ps, i, nm, u, b, bl i, rfl, rfl, PF4.mono s5, uu, by rw [ek4]; exact h1, h2, by rw [ek4]; exact h3, h4, h5, fun H7 s7 => ⟨_, rfl, if_intro (fun c2 => ?_) fun c2 => ?_⟩⟩
      · have c2' : rightR ps (Vbwbab.compiled (bl i)).moves i = false := by simpa using c2
        have hR := hE (-1007) (by
          rw [eP5, if_neg]
          intro all
          have := List.all_eq_true.mp all i (List.mem_range.mpr hi)
          rw [c2'] at this; cases this)
        exact ⟨by decide, fun a ha => ⟨_, _, _, rfl, a, 0, 7, rfl, rfl, rfl, by decide, rz_made hR Z.x_WrongWorks Z.em_WrongWorks ha⟩⟩
      · have c2' : rightR ps (Vbwbab.compiled (bl i)).moves i = true := by simpa using c2
        refine ⟨_, rfl, s5.trans s7, fun j hj => ?_⟩
        by_cases e : j = i
        · rw [e]; exact c2'
        · exact hA j (by omega)
    · rintro σ H5 ⟨v7', rfl, s5, hA⟩
      have ok : readPlant rb wb bl = .ok ps := by
        rw [eP5, if_pos]
        exact List.all_eq_true.mpr fun j hj => hA j (List.mem_range.mp hj)
      exact ⟨_, rfl, hQ ps ok H5 p A4 bA ((S3.trans g4).trans (PA4.lay.same.trans s5)) (PF4.mono s5)⟩
theorem EC.xf {C : Addr} (h : EC K C) : XfC K C := ⟨h.ga, h.gg, h.exC, h.dic⟩
def tXfV (K : PySem.W.Frag) (a : Addr) (cls : Value) (d : Option Addr) (n : Str) (i : Nat) : TE := fun σ H Q => ∃ v, σ[i]? = some (some v) ∧ v = V.ref a ∧ ∃ C, cls = .ref C ∧ XfC K C ∧ PySem.W.findIn K (.ref C) n = some none ∧ ∃ dd fs u, d = some dd ∧ H dd = some (.xd fs) ∧ List.lookup n fs = some u ∧ Q u H
theorem pe_xfV {X : Cx} {a : Addr} {oe : Obj} {cls : Value} {d : Option Addr} {pn : List (Addr × Obj)} {e : Expr} {i : Nat} {pos : Pos} {n : Str} (hz : Zc cls d oe) (hoe : ∃ vs, oe.data = Data.fields vs) (he : PE (X.suite a ((a, oe) :: pn)) e (tVar i)) (hb : attributeBase e n X.env (eval e X.env) = eval e X.env) :
    PE (X.suite a ((a, oe) :: pn)) (.Attribute e n pos) (tXfV X.K a cls d n i) where
  run pins s σ H Q I h := by
    obtain ⟨v, hv, rfl, C, hc, hx, hf, dd, fs, u, h1, h2, h3, q⟩ := h
    exact (pe_xf hx hf hz hoe he hb).run pins s σ H Q I ⟨_, hv, rfl, hc, dd, fs, u, h1, h2, h3, q⟩
def EW (W : WX) (n : Nat) : XK := fun cls d H => ∀ σ : L2.St, σ.length = n → W cls d σ H
theorem passes_len {X : Cx} {W : WX} {n : Nat} (tk : Takes X W) (hn : X.N.length = n := by rfl) : Passes (L2.CX X.prog X.w) X (EW W n) := by
  intro pins σ H s e s' I c
  refine passAt tk σ pins H s e s' I ?_
  obtain ⟨a, B, H', cls, d, h1, h2, h3, h4, h5, h6, h7, h8⟩ := c
  exact ⟨a, B, H', cls, d, h1, h2, h3, h4, h5, h6, h7, h8 σ (I.len.trans hn)⟩
def plantR (rs ws : List Int) (bl : Nat → Bl) : Except Int PS := if Vbwbzz.bytesOk rs 6000 = true ∧ Vbwbzz.bytesOk ws 6000 = true then readPlant (Vbwbzz.nats rs) (Vbwbzz.nats ws) bl else .error (-1)
theorem nats_len {l : List Int} {m : Nat} (h : Vbwbzz.bytesOk l m = true) : (Vbwbzz.nats l).length ≤ m := by
  unfold Vbwbzz.bytesOk at h
  rw [Bool.and_eq_true] at h
  unfold Vbwbzz.nats
  rw [List.length_map]; exact of_decide_eq_true h.1
/-- what is known of the recipes' nets -/
def NetsOk (rs : List Int) (bl : Nat → Bl) : Prop := (∀ k, readBook (Vbwbzz.nats rs) = some k → k.ei = false → BookOk k bl) ∧ (∀ k, readBook (Vbwbzz.nats rs) = some k → k.recs.length ≤ 10)
def sp_plant_of (K : PySem.W.Frag) : Sp := sp2 fun v v1 H Q E => ∃ (a b : Addr) (rs ws : List Int) (bl : Nat → Bl), v = .ref a ∧ v1 = .ref b ∧ SqL K H a (rs.map V.int) ∧ SqL K H b (ws.map V.int) ∧ rs.length ≤ 60000 ∧ ws.length ≤ 60000 ∧ NetsOk rs bl ∧
  (∀ n, plantR rs ws bl = .error n → Rz K n E) ∧ ∀ p, plantR rs ws bl = .ok p → ∀ (H' : Hp) (pl : Addr) (A : PA) (bA : BA), Same H H' → PlantF K H' pl A bA p → Q (.ref pl) H'
theorem ok_plant_of (Z : Tx w K mg) (c_is_recipe_right : Cal P w K mg base CX0 127 (He.fAd K ("is_recipe_right", none)) ["plant", "recipe"] (sp_is_recipe_right K 120)) (c_read_plant : Cal P w K mg base (L2.CX P w) 128 (He.fAd K ("read_plant", none)) ["recipes_text", "works_text"] (sp_read_plant K)) : Cal P w K mg base (L2.CX P w) 129 (He.fAd K ("plant_of", none)) ["r", "w"] (sp_plant_of K) := by
  obtain ⟨fd, F⟩ := Z.fd_plant_of
  have c_text_of := ok_text_of (P := P) (w := w) (base := base) Z
  refine ⟨⟨fd, F.ok sc_plant_of (fun vs H Q E h => ?_) (fun cdv A outer s H vs Q E hr h => ?_), F.bindsN fun _ _ _ _ _ _ us hl => match us, hl with | [_, _], _ => rfl⟩, F.kp⟩
  · exact sp2_len h
  have sc := sc_plant_of
  have nd : N_plant_of.Nodup := sc.nd
  replace h := sp2_get h
  obtain ⟨v_r, v_w, rfl, h⟩ := h
  refine ⟨_, by exact ((pss_cons (ps_set (i := 2) nd rfl (by first | exact Or.inl rfl | exact Or.inr rfl) (pe_calC (E := E) c_text_of (hr.mono (by omega)) rfl Z.g_text_of (passes_call (takes_of rfl rfl rfl rfl) (fun _ _ _ _ z => z)) (pa_cons (pv 0) (pa_cons (pe_gi rfl Z.g_MOST_BYTES) pa_nil))))
 (pss_cons (ps_set (i := 3) nd rfl (by first | exact Or.inl rfl | exact Or.inr rfl) (pe_calC (E := E) c_text_of (hr.mono (by omega)) rfl Z.g_text_of (passes_call (takes_of rfl rfl rfl rfl) (fun _ _ _ _ z => z)) (pa_cons (pv 1) (pa_cons (pe_gi rfl Z.g_MOST_BYTES) pa_nil))))
 (pss_one (ps_ret (pe_calC (E := E) c_read_plant (hr.mono (by omega)) rfl Z.g_read_plant (passes_call (takes_of rfl rfl rfl rfl) (fun _ _ _ _ z => z)) (pa_cons (pv 2) (pa_cons (pv 3) pa_nil)))))))), ?_⟩
  obtain ⟨a, b, rs, ws, bl, rfl, rfl, ha, hb, la, lb, hok, hE, hQ⟩ := h
  refine ⟨_, rfl, _, _, rfl, a, rs, 6000, rfl, rfl, ha, la, fun e => hE _ (by unfold plantR; rw [if_neg (fun z => by rw [e] at z; cases z.1)]), fun e1 H1 s1 => ⟨_, rfl, _, _, rfl, b, ws, 6000, rfl, rfl, s1.seq hb, lb, fun e => hE _ (by unfold plantR; rw [if_neg (fun z => by rw [e] at z; cases z.2)]), fun e2 H2 s2 => ?_⟩⟩
  have hW : plantR rs ws bl = readPlant (Vbwbzz.nats rs) (Vbwbzz.nats ws) bl := by unfold plantR; rw [if_pos ⟨e1, e2⟩]
  rw [hW] at hE hQ
  exact ⟨_, rfl, _, rfl, _, _, rfl, Vbwbzz.nats rs, Vbwbzz.nats ws, bl, rfl, rfl, nats_len e1, nats_len e2, hok.1, hok.2, hE, fun p ep H3 pl A' bA s3 PF => hQ p ep H3 pl A' bA ((s1.trans s2).trans s3) PF⟩
/-- the except suite: a refusal's number is answered -/
theorem refusal_suite {K : PySem.W.Frag} {n : Int} {C d e : Addr} {H5 : Hp} {σ : L2.St} {i : Nat} {Q : VK} (hC : EC K C) (hd : H5 d = some (.xd (exnum n))) (hi : i < σ.length) (hQ : ∀ (l : Addr), H5 l = none → Q (.ref l) (upd H5 l (.lst [.int n]))) :
    tLst (tCons (tXfV K e (.ref C) (some d) "number" i) tNil) (List.set σ i (some (.ref e))) H5 Q :=
  ⟨.ref e, by rw [List.getElem?_set_self hi], rfl, C, rfl, hC.xf, hC.num, d, exnum n, .int n, rfl, hd, rfl, (by show 1 ≤ sizeLine; decide), fun l hl => hQ l hl⟩
def worksAns (rs ws : List Int) (bl : Nat → Bl) : List Int := match plantR rs ws bl with
  | .error n => [n]
  | .ok p => [(p.bk.recs.length : Int), (p.stuffs.length : Int), (p.vessels.length : Int), (p.units.length : Int), (p.doings.length : Int)]
def sp_works (K : PySem.W.Frag) : Sp := sp2 fun v v1 H Q _ => ∃ (a b : Addr) (rs ws : List Int) (bl : Nat → Bl), v = .ref a ∧ v1 = .ref b ∧ SqL K H a (rs.map V.int) ∧ SqL K H b (ws.map V.int) ∧ rs.length ≤ 60000 ∧ ws.length ≤ 60000 ∧ NetsOk rs bl ∧
  ∀ (H' : Hp) (l : Addr), H' l = some (.lst ((worksAns rs ws bl).map V.int)) → Q (.ref l) H'
theorem ok_works (Z : Tx w K mg) {fd : FuncData} (F : FnP K "works" "works" s_works (He.fAd K ("works", none)) fd) (c_is_recipe_right : Cal P w K mg base CX0 127 (He.fAd K ("is_recipe_right", none)) ["plant", "recipe"] (sp_is_recipe_right K 120)) (c_read_plant : Cal P w K mg base (L2.CX P w) 128 (He.fAd K ("read_plant", none)) ["recipes_text", "works_text"] (sp_read_plant K)) (c_plant_of : Cal P w K mg base (L2.CX P w) 129 (He.fAd K ("plant_of", none)) ["r", "w"] (sp_plant_of K)) : FnOk P w K mg base (L2.CX P w) 130 (He.fAd K ("works", none)) fd ["r", "w"] (sp_works K) := by
  refine F.ok sc_works (fun vs H Q E h => ?_) (fun cdv A outer s H vs Q E hr h => ?_)
  · exact sp2_len h
  have sc := sc_works
  have nd : N_works.Nodup := sc.nd
  replace h := sp2_get h
  obtain ⟨v_r, v_w, rfl, h⟩ := h
  refine ⟨_, by exact ((pss_cons (ps_try_as (i := 3) rfl rfl nd rfl rfl ⟨rfl, by decide, .inl Z.g_Refusal⟩ (takes_of rfl rfl rfl rfl) (fun W pn xe tk ow => (pss_one (ps_set (i := 2) nd rfl (by first | exact Or.inl rfl | exact Or.inr rfl) (pe_calC (E := EW W 5) c_plant_of (hr.mono (by omega)) rfl Z.g_plant_of (passes_len tk) (pa_cons (pv 0) (pa_cons (pv 1) pa_nil)))))) (fun a oe cls d pn hz hoe => (pss_one (ps_ret (pe_lst (pa_cons (pe_xfV hz hoe (pv 3) rfl) pa_nil))))))
 (pss_cons (ps_set (i := 4) nd rfl (by first | exact Or.inl rfl | exact Or.inr rfl) (pe_fld (pv 2) rfl))
 (pss_one (ps_ret (pe_lst (pa_cons (pe_callB call_lenD (by rfl) Z.b_len (by decide +kernel) (pa_cons (pe_dget (hu_of hr) (pv 4) pe_str (fun _ _ => rfl)) pa_nil)) (pa_cons (pe_callB call_lenD (by rfl) Z.b_len (by decide +kernel) (pa_cons (pe_dget (hu_of hr) (pv 4) pe_str (fun _ _ => rfl)) pa_nil)) (pa_cons (pe_callB call_lenD (by rfl) Z.b_len (by decide +kernel) (pa_cons (pe_dget (hu_of hr) (pv 4) pe_str (fun _ _ => rfl)) pa_nil)) (pa_cons (pe_callB call_lenD (by rfl) Z.b_len (by decide +kernel) (pa_cons (pe_dget (hu_of hr) (pv 4) pe_str (fun _ _ => rfl)) pa_nil)) (pa_cons (pe_callB call_len_seq (by rfl) Z.b_len (by decide +kernel) (pa_cons (pe_fld (pv 2) rfl) pa_nil)) pa_nil))))))))))), ?_⟩
  obtain ⟨a, b, rs, ws, bl, rfl, rfl, ha, hb, la, lb, hok, hQ⟩ := h
  refine ⟨_, rfl, _, rfl, _, _, rfl, a, b, rs, ws, bl, rfl, rfl, ha, hb, la, lb, hok, fun n en => ?_, fun p ep H3 pl A' bA s3 PF => ?_⟩
  · have hW : worksAns rs ws bl = [n] := by unfold worksAns; rw [en]
    exact fun C d H5 hC hem hd σ hσ => ⟨true, hem, fun _ e he => refusal_suite hC hd (by omega) fun l hl => hQ _ l (by rw [upd_same, hW]; rfl), fun z => by cases z⟩
  · have hW : worksAns rs ws bl = [(p.bk.recs.length : Int), (p.stuffs.length : Int), (p.vessels.length : Int), (p.units.length : Int), (p.doings.length : Int)] := by unfold worksAns; rw [ep]
    have cl := Z.cl_Plant
    obtain ⟨r1, r2⟩ := PF.at_told .recipe
    obtain ⟨p1, p2⟩ := PF.at_told .stuff
    obtain ⟨q1, q2⟩ := PF.at_told .vessel
    obtain ⟨u1, u2⟩ := PF.at_told .unit
    have hdl : H3 A'.dl = some (.lst (A'.das.map V.ref)) := PF.ent (A'.dl, _) (by simp [plms])
    refine ⟨_, rfl, pl, _, _, _, _, rfl, PF.obj, cl, Z.n_Plant_told, lk_Plant_told _ _ _ _ _ _, ?_⟩
    refine ⟨_, rfl, A'.td, _, rfl, r2, _, _, rfl, r1, _, rfl, A'.td, _, rfl, p2, _, _, rfl, p1, _, rfl, A'.td, _, rfl, q2, _, _, rfl, q1, _, rfl, A'.td, _, rfl, u2, _, _, rfl, u1, _, rfl, pl, _, _, _, _, rfl, PF.obj, cl, Z.n_Plant_doings, lk_Plant_doings _ _ _ _ _ _, A'.dl, _, rfl, .inl (SqL.of hdl), (by show 5 ≤ sizeLine; decide), fun l hl => hQ _ l ?_⟩
    rw [upd_same, hW, dix_len, dix_len, dix_len, dix_len, List.length_map, PF.das.1]
    have n1 : (p.told .recipe).length = p.bk.recs.length := by show (p.bk.names).length = _; unfold Bk.names; rw [List.length_map]
    have n3 : (p.told .vessel).length = p.vessels.length := List.length_map _
    have n4 : (p.told .unit).length = p.units.length := List.length_map _
    rw [n1, n3, n4]; rfl
end
end Bw
end

section
set_option Elab.async false
set_option linter.all false
set_option maxRecDepth 100000
set_option maxHeartbeats 4000000
namespace Bw
open PySem PySem.Spec PyProof.Rows L2
def faL : List He.Fa := [.free "len",
  .free "range",
  .free "zip",
  .free "enumerate",
  .free "sum",
  .free "sorted",
  .free "list",
  .free "tuple",
  .free "int",
  .free "all",
  .free "str",
  .int "MOST_SPOTS" 600,
  .int "MOST_BYTES" 6000,
  .int "MOST_SIGNS" 12,
  .int "MOST_DIGITS" 7,
  .str "LETTERS" "abcdefghijklmnopqrstuvwxyz",
  .str "DIGITS" "0123456789",
  .str "OTHER" "?",
  .glo "KEPT",
  .int "MOST_RECIPES" 10,
  .int "MOST_STEPS" 30,
  .int "MOST_CONDITIONS" 12,
  .int "MOST_TIME" 1000000,
  .int "MOST_THINGS" 30,
  .glo "BETWEEN",
  .glo "NAMES",
  .glo "NUMBERS",
  .glo "MOST_TOLD",
  .int "MOST_PAIRS" 60,
  .int "MOST_DOINGS" 60,
  .glo "_wall",
  .glo "net_of",
  .glo "can_be",
  .glo "added",
  .glo "lessened",
  .glo "moved",
  .glo "ended",
  .glo "spots_behind",
  .glo "spots_of",
  .glo "is_spot_right",
  .glo "is_recipe_right",
  .glo "sign_of",
  .glo "text_of",
  .glo "line_of",
  .glo "lines_of",
  .glo "is_name",
  .glo "is_number",
  .glo "things_in",
  .glo "read_book",
  .glo "names_in",
  .glo "numbers_in",
  .glo "is_formed",
  .glo "kind_of_new",
  .glo "kind_of_pair",
  .glo "kind_of_doing",
  .glo "kind_of_line",
  .glo "take_line",
  .glo "read_plant",
  .glo "plant_of",
  .glo "works",
  .glo "Move",
  .cls "Move",
  .mkr "Move",
  .noat "Move" "kind",
  .noat "Move" "number",
  .noat "Move" "before",
  .noat "Move" "behind",
  .glo "Layer",
  .cls "Layer",
  .mkr "Layer",
  .noat "Layer" "book",
  .noat "Layer" "moves",
  .noat "Layer" "places",
  .meth "Layer" "new_places",
  .meth "Layer" "add_move",
  .meth "Layer" "lay_body",
  .meth "Layer" "lay_part",
  .meth "Layer" "lay_if",
  .meth "Layer" "lay_both",
  .meth "Layer" "lay_again",
  .glo "Refusal",
  .glo "NoText",
  .glo "WrongWorks",
  .glo "WrongRecipes",
  .glo "Part",
  .cls "Part",
  .mkr "Part",
  .noat "Part" "word",
  .noat "Part" "number",
  .noat "Part" "bodies",
  .noat "Part" "things",
  .meth "Part" "count_things",
  .glo "Book",
  .cls "Book",
  .mkr "Book",
  .noat "Book" "recipes",
  .noat "Book" "parts",
  .noat "Book" "steps",
  .noat "Book" "times",
  .noat "Book" "conditions",
  .noat "Book" "has_either",
  .meth "Book" "condition_of",
  .meth "Book" "step_of",
  .meth "Book" "add_recipe",
  .glo "Reader",
  .cls "Reader",
  .mkr "Reader",
  .noat "Reader" "words",
  .noat "Reader" "place",
  .noat "Reader" "stack",
  .noat "Reader" "recipe_name",
  .noat "Reader" "book",
  .meth "Reader" "next_is",
  .meth "Reader" "next_word",
  .meth "Reader" "next_name",
  .meth "Reader" "next_time",
  .meth "Reader" "expect",
  .meth "Reader" "read_all",
  .meth "Reader" "go_on",
  .meth "Reader" "begin_recipe",
  .meth "Reader" "read_step",
  .meth "Reader" "read_use",
  .meth "Reader" "begin_part",
  .meth "Reader" "begin_body",
  .meth "Reader" "end_again",
  .meth "Reader" "end_part",
  .meth "Reader" "push",
  .meth "Reader" "put_away",
  .meth "Reader" "add_part",
  .glo "Plant",
  .cls "Plant",
  .mkr "Plant",
  .noat "Plant" "book",
  .noat "Plant" "told",
  .noat "Plant" "sizes",
  .noat "Plant" "pairs",
  .noat "Plant" "doings",
  .noat "Plant" "lines",
  .meth "Plant" "amounts",
  .meth "Plant" "nothing",
  .meth "Plant" "numbers_of",
  .meth "Plant" "name_of",
  .meth "Plant" "are_told"]
def fnL : List He.DefD := [⟨("_wall", none), "_wall", "_wall", defArgs s__wall, defBody s__wall, defScope s__wall, [], []⟩,
  ⟨("net_of", none), "net_of", "net_of", defArgs s_net_of, defBody s_net_of, defScope s_net_of, [], []⟩,
  ⟨("can_be", none), "can_be", "can_be", defArgs s_can_be, defBody s_can_be, defScope s_can_be, [], []⟩,
  ⟨("added", none), "added", "added", defArgs s_added, defBody s_added, defScope s_added, [], []⟩,
  ⟨("lessened", none), "lessened", "lessened", defArgs s_lessened, defBody s_lessened, defScope s_lessened, [], []⟩,
  ⟨("moved", none), "moved", "moved", defArgs s_moved, defBody s_moved, defScope s_moved, [], []⟩,
  ⟨("ended", none), "ended", "ended", defArgs s_ended, defBody s_ended, defScope s_ended, [], []⟩,
  ⟨("spots_behind", none), "spots_behind", "spots_behind", defArgs s_spots_behind, defBody s_spots_behind, defScope s_spots_behind, [], []⟩,
  ⟨("spots_of", none), "spots_of", "spots_of", defArgs s_spots_of, defBody s_spots_of, defScope s_spots_of, [], []⟩,
  ⟨("is_spot_right", none), "is_spot_right", "is_spot_right", defArgs s_is_spot_right, defBody s_is_spot_right, defScope s_is_spot_right, [], []⟩,
  ⟨("is_recipe_right", none), "is_recipe_right", "is_recipe_right", defArgs s_is_recipe_right, defBody s_is_recipe_right, defScope s_is_recipe_right, [], []⟩,
  ⟨("sign_of", none), "sign_of", "sign_of", defArgs s_sign_of, defBody s_sign_of, defScope s_sign_of, [], []⟩,
  ⟨("text_of", none), "text_of", "text_of", defArgs s_text_of, defBody s_text_of, defScope s_text_of, [], []⟩,
  ⟨("line_of", none), "line_of", "line_of", defArgs s_line_of, defBody s_line_of, defScope s_line_of, [], []⟩,
  ⟨("lines_of", none), "lines_of", "lines_of", defArgs s_lines_of, defBody s_lines_of, defScope s_lines_of, [], []⟩,
  ⟨("is_name", none), "is_name", "is_name", defArgs s_is_name, defBody s_is_name, defScope s_is_name, [], []⟩,
  ⟨("is_number", none), "is_number", "is_number", defArgs s_is_number, defBody s_is_number, defScope s_is_number, [], []⟩,
  ⟨("things_in", none), "things_in", "things_in", defArgs s_things_in, defBody s_things_in, defScope s_things_in, [], []⟩,
  ⟨("read_book", none), "read_book", "read_book", defArgs s_read_book, defBody s_read_book, defScope s_read_book, [], []⟩,
  ⟨("names_in", none), "names_in", "names_in", defArgs s_names_in, defBody s_names_in, defScope s_names_in, [], []⟩,
  ⟨("numbers_in", none), "numbers_in", "numbers_in", defArgs s_numbers_in, defBody s_numbers_in, defScope s_numbers_in, [], []⟩,
  ⟨("is_formed", none), "is_formed", "is_formed", defArgs s_is_formed, defBody s_is_formed, defScope s_is_formed, [], []⟩,
  ⟨("kind_of_new", none), "kind_of_new", "kind_of_new", defArgs s_kind_of_new, defBody s_kind_of_new, defScope s_kind_of_new, [], []⟩,
  ⟨("kind_of_pair", none), "kind_of_pair", "kind_of_pair", defArgs s_kind_of_pair, defBody s_kind_of_pair, defScope s_kind_of_pair, [], []⟩,
  ⟨("kind_of_doing", none), "kind_of_doing", "kind_of_doing", defArgs s_kind_of_doing, defBody s_kind_of_doing, defScope s_kind_of_doing, [], []⟩,
  ⟨("kind_of_line", none), "kind_of_line", "kind_of_line", defArgs s_kind_of_line, defBody s_kind_of_line, defScope s_kind_of_line, [], []⟩,
  ⟨("take_line", none), "take_line", "take_line", defArgs s_take_line, defBody s_take_line, defScope s_take_line, [], []⟩,
  ⟨("read_plant", none), "read_plant", "read_plant", defArgs s_read_plant, defBody s_read_plant, defScope s_read_plant, [], []⟩,
  ⟨("plant_of", none), "plant_of", "plant_of", defArgs s_plant_of, defBody s_plant_of, defScope s_plant_of, [], []⟩,
  ⟨("works", none), "works", "works", defArgs s_works, defBody s_works, defScope s_works, [], []⟩,
  ⟨("Move", some "__init__"), "__init__", "Move.__init__", defArgs s_Move_init, defBody s_Move_init, defScope s_Move_init, [], []⟩,
  ⟨("Layer", some "__init__"), "__init__", "Layer.__init__", defArgs s_Layer_init, defBody s_Layer_init, defScope s_Layer_init, [], []⟩,
  ⟨("Layer", some "new_places"), "new_places", "Layer.new_places", defArgs s_Layer_new_places, defBody s_Layer_new_places, defScope s_Layer_new_places, [], []⟩,
  ⟨("Layer", some "add_move"), "add_move", "Layer.add_move", defArgs s_Layer_add_move, defBody s_Layer_add_move, defScope s_Layer_add_move, [], []⟩,
  ⟨("Layer", some "lay_body"), "lay_body", "Layer.lay_body", defArgs s_Layer_lay_body, defBody s_Layer_lay_body, defScope s_Layer_lay_body, [], []⟩,
  ⟨("Layer", some "lay_part"), "lay_part", "Layer.lay_part", defArgs s_Layer_lay_part, defBody s_Layer_lay_part, defScope s_Layer_lay_part, [], []⟩,
  ⟨("Layer", some "lay_if"), "lay_if", "Layer.lay_if", defArgs s_Layer_lay_if, defBody s_Layer_lay_if, defScope s_Layer_lay_if, [], []⟩,
  ⟨("Layer", some "lay_both"), "lay_both", "Layer.lay_both", defArgs s_Layer_lay_both, defBody s_Layer_lay_both, defScope s_Layer_lay_both, [], []⟩,
  ⟨("Layer", some "lay_again"), "lay_again", "Layer.lay_again", defArgs s_Layer_lay_again, defBody s_Layer_lay_again, defScope s_Layer_lay_again, [], []⟩,
  ⟨("Refusal", some "__init__"), "__init__", "Refusal.__init__", defArgs s_Refusal_init, defBody s_Refusal_init, defScope s_Refusal_init, [], []⟩,
  ⟨("NoText", some "__init__"), "__init__", "NoText.__init__", defArgs s_NoText_init, defBody s_NoText_init, defScope s_NoText_init, [], []⟩,
  ⟨("WrongWorks", some "__init__"), "__init__", "WrongWorks.__init__", defArgs s_WrongWorks_init, defBody s_WrongWorks_init, defScope s_WrongWorks_init, [], []⟩,
  ⟨("WrongRecipes", some "__init__"), "__init__", "WrongRecipes.__init__", defArgs s_WrongRecipes_init, defBody s_WrongRecipes_init, defScope s_WrongRecipes_init, [], []⟩,
  ⟨("Part", some "__init__"), "__init__", "Part.__init__", defArgs s_Part_init, defBody s_Part_init, defScope s_Part_init, [], []⟩,
  ⟨("Part", some "count_things"), "count_things", "Part.count_things", defArgs s_Part_count_things, defBody s_Part_count_things, defScope s_Part_count_things, [], []⟩,
  ⟨("Book", some "__init__"), "__init__", "Book.__init__", defArgs s_Book_init, defBody s_Book_init, defScope s_Book_init, [], []⟩,
  ⟨("Book", some "condition_of"), "condition_of", "Book.condition_of", defArgs s_Book_condition_of, defBody s_Book_condition_of, defScope s_Book_condition_of, [], []⟩,
  ⟨("Book", some "step_of"), "step_of", "Book.step_of", defArgs s_Book_step_of, defBody s_Book_step_of, defScope s_Book_step_of, [], []⟩,
  ⟨("Book", some "add_recipe"), "add_recipe", "Book.add_recipe", defArgs s_Book_add_recipe, defBody s_Book_add_recipe, defScope s_Book_add_recipe, [], []⟩,
  ⟨("Reader", some "__init__"), "__init__", "Reader.__init__", defArgs s_Reader_init, defBody s_Reader_init, defScope s_Reader_init, [], []⟩,
  ⟨("Reader", some "next_is"), "next_is", "Reader.next_is", defArgs s_Reader_next_is, defBody s_Reader_next_is, defScope s_Reader_next_is, [], []⟩,
  ⟨("Reader", some "next_word"), "next_word", "Reader.next_word", defArgs s_Reader_next_word, defBody s_Reader_next_word, defScope s_Reader_next_word, [], []⟩,
  ⟨("Reader", some "next_name"), "next_name", "Reader.next_name", defArgs s_Reader_next_name, defBody s_Reader_next_name, defScope s_Reader_next_name, [], []⟩,
  ⟨("Reader", some "next_time"), "next_time", "Reader.next_time", defArgs s_Reader_next_time, defBody s_Reader_next_time, defScope s_Reader_next_time, [], []⟩,
  ⟨("Reader", some "expect"), "expect", "Reader.expect", defArgs s_Reader_expect, defBody s_Reader_expect, defScope s_Reader_expect, [], []⟩,
  ⟨("Reader", some "read_all"), "read_all", "Reader.read_all", defArgs s_Reader_read_all, defBody s_Reader_read_all, defScope s_Reader_read_all, [], []⟩,
  ⟨("Reader", some "go_on"), "go_on", "Reader.go_on", defArgs s_Reader_go_on, defBody s_Reader_go_on, defScope s_Reader_go_on, [], []⟩,
  ⟨("Reader", some "begin_recipe"), "begin_recipe", "Reader.begin_recipe", defArgs s_Reader_begin_recipe, defBody s_Reader_begin_recipe, defScope s_Reader_begin_recipe, [], []⟩,
  ⟨("Reader", some "read_step"), "read_step", "Reader.read_step", defArgs s_Reader_read_step, defBody s_Reader_read_step, defScope s_Reader_read_step, [], []⟩,
  ⟨("Reader", some "read_use"), "read_use", "Reader.read_use", defArgs s_Reader_read_use, defBody s_Reader_read_use, defScope s_Reader_read_use, [], []⟩,
  ⟨("Reader", some "begin_part"), "begin_part", "Reader.begin_part", defArgs s_Reader_begin_part, defBody s_Reader_begin_part, defScope s_Reader_begin_part, [], []⟩,
  ⟨("Reader", some "begin_body"), "begin_body", "Reader.begin_body", defArgs s_Reader_begin_body, defBody s_Reader_begin_body, defScope s_Reader_begin_body, [], []⟩,
  ⟨("Reader", some "end_again"), "end_again", "Reader.end_again", defArgs s_Reader_end_again, defBody s_Reader_end_again, defScope s_Reader_end_again, [], []⟩,
  ⟨("Reader", some "end_part"), "end_part", "Reader.end_part", defArgs s_Reader_end_part, defBody s_Reader_end_part, defScope s_Reader_end_part, [], []⟩,
  ⟨("Reader", some "push"), "push", "Reader.push", defArgs s_Reader_push, defBody s_Reader_push, defScope s_Reader_push, [], []⟩,
  ⟨("Reader", some "put_away"), "put_away", "Reader.put_away", defArgs s_Reader_put_away, defBody s_Reader_put_away, defScope s_Reader_put_away, [], []⟩,
  ⟨("Reader", some "add_part"), "add_part", "Reader.add_part", defArgs s_Reader_add_part, defBody s_Reader_add_part, defScope s_Reader_add_part, [], []⟩,
  ⟨("Plant", some "__init__"), "__init__", "Plant.__init__", defArgs s_Plant_init, defBody s_Plant_init, defScope s_Plant_init, [], []⟩,
  ⟨("Plant", some "amounts"), "amounts", "Plant.amounts", defArgs s_Plant_amounts, defBody s_Plant_amounts, defScope s_Plant_amounts, [], []⟩,
  ⟨("Plant", some "nothing"), "nothing", "Plant.nothing", defArgs s_Plant_nothing, defBody s_Plant_nothing, defScope s_Plant_nothing, [], []⟩,
  ⟨("Plant", some "numbers_of"), "numbers_of", "Plant.numbers_of", defArgs s_Plant_numbers_of, defBody s_Plant_numbers_of, defScope s_Plant_numbers_of, [], []⟩,
  ⟨("Plant", some "name_of"), "name_of", "Plant.name_of", defArgs s_Plant_name_of, defBody s_Plant_name_of, defScope s_Plant_name_of, [], []⟩,
  ⟨("Plant", some "are_told"), "are_told", "Plant.are_told", defArgs s_Plant_are_told, defBody s_Plant_are_told, defScope s_Plant_are_told, [], []⟩]
def tsL : List He.Tab := [(fun K => He.ga K "BETWEEN", ["if", "either", "both"]), (fun K => He.ga K "NAMES", ["stuff", "vessel", "unit", "claim", "take", "give", "charge", "pour", "empty", "turn", "ship"]), (fun K => He.ga K "NUMBERS", ["stuff", "vessel", "unit", "claim", "take", "give", "charge", "pour", "empty", "turn", "ship"]), (fun K => He.ga K "MOST_TOLD", ["stuff", "vessel", "unit"])]
def exL (K : PySem.W.Frag) : List Bool := [ecB K (He.ga K "Refusal"),
  ciB K (He.ga K "Refusal") (He.fAd K ("Refusal", some "__init__")),
  He.eqO (PySem.W.findIn K (.ref (He.ga K "Refusal")) "__init__") (some (some (.ref (He.fAd K ("Refusal", some "__init__"))))),
  PySem.W.isFn K (.ref (He.fAd K ("Refusal", some "__init__"))),
  decide (PySem.W.exmOne K (.ref (He.ga K "Refusal")) (.ref (He.ga K "Refusal")) = some true),
  ecB K (He.ga K "NoText"),
  ciB K (He.ga K "NoText") (He.fAd K ("NoText", some "__init__")),
  He.eqO (PySem.W.findIn K (.ref (He.ga K "NoText")) "__init__") (some (some (.ref (He.fAd K ("NoText", some "__init__"))))),
  PySem.W.isFn K (.ref (He.fAd K ("NoText", some "__init__"))),
  decide (PySem.W.exmOne K (.ref (He.ga K "NoText")) (.ref (He.ga K "Refusal")) = some true),
  ecB K (He.ga K "WrongWorks"),
  ciB K (He.ga K "WrongWorks") (He.fAd K ("WrongWorks", some "__init__")),
  He.eqO (PySem.W.findIn K (.ref (He.ga K "WrongWorks")) "__init__") (some (some (.ref (He.fAd K ("WrongWorks", some "__init__"))))),
  PySem.W.isFn K (.ref (He.fAd K ("WrongWorks", some "__init__"))),
  decide (PySem.W.exmOne K (.ref (He.ga K "WrongWorks")) (.ref (He.ga K "Refusal")) = some true),
  ecB K (He.ga K "WrongRecipes"),
  ciB K (He.ga K "WrongRecipes") (He.fAd K ("WrongRecipes", some "__init__")),
  He.eqO (PySem.W.findIn K (.ref (He.ga K "WrongRecipes")) "__init__") (some (some (.ref (He.fAd K ("WrongRecipes", some "__init__"))))),
  PySem.W.isFn K (.ref (He.fAd K ("WrongRecipes", some "__init__"))),
  decide (PySem.W.exmOne K (.ref (He.ga K "WrongRecipes")) (.ref (He.ga K "Refusal")) = some true),
  He.valsB K (He.ga K "BETWEEN") [("if", .str "else"), ("either", .str "or"), ("both", .str "and")],
  He.valsB K (He.ga K "NAMES") [("stuff", .adr fun K => kdv K "NAMES" "stuff"), ("vessel", .adr fun K => kdv K "NAMES" "vessel"), ("unit", .adr fun K => kdv K "NAMES" "unit"), ("claim", .adr fun K => kdv K "NAMES" "claim"), ("take", .adr fun K => kdv K "NAMES" "take"), ("give", .adr fun K => kdv K "NAMES" "give"), ("charge", .adr fun K => kdv K "NAMES" "charge"), ("pour", .adr fun K => kdv K "NAMES" "pour"), ("empty", .adr fun K => kdv K "NAMES" "empty"), ("turn", .adr fun K => kdv K "NAMES" "turn"), ("ship", .adr fun K => kdv K "NAMES" "ship")],
  tupAt K (kdv K "NAMES" "stuff") [.str "stuff"],
  tupAt K (kdv K "NAMES" "vessel") [.str "vessel"],
  tupAt K (kdv K "NAMES" "unit") [.str "unit"],
  tupAt K (kdv K "NAMES" "claim") [.str "recipe", .str "unit"],
  tupAt K (kdv K "NAMES" "take") [.str "step", .str "unit"],
  tupAt K (kdv K "NAMES" "give") [.str "step", .str "unit"],
  tupAt K (kdv K "NAMES" "charge") [.str "step", .str "vessel", .str "stuff"],
  tupAt K (kdv K "NAMES" "pour") [.str "step", .str "vessel", .str "vessel"],
  tupAt K (kdv K "NAMES" "empty") [.str "step", .str "vessel", .str "vessel"],
  tupAt K (kdv K "NAMES" "turn") [.str "step", .str "vessel", .str "stuff", .str "stuff"],
  tupAt K (kdv K "NAMES" "ship") [.str "step", .str "vessel"],
  He.valsB K (He.ga K "NUMBERS") [("stuff", .adr fun K => kdv K "NUMBERS" "stuff"), ("vessel", .adr fun K => kdv K "NUMBERS" "vessel"), ("unit", .adr fun K => kdv K "NUMBERS" "unit"), ("claim", .adr fun K => kdv K "NUMBERS" "claim"), ("take", .adr fun K => kdv K "NUMBERS" "take"), ("give", .adr fun K => kdv K "NUMBERS" "give"), ("charge", .adr fun K => kdv K "NUMBERS" "charge"), ("pour", .adr fun K => kdv K "NUMBERS" "pour"), ("empty", .adr fun K => kdv K "NUMBERS" "empty"), ("turn", .adr fun K => kdv K "NUMBERS" "turn"), ("ship", .adr fun K => kdv K "NUMBERS" "ship")],
  tupAt K (kdv K "NUMBERS" "stuff") [],
  tupAt K (kdv K "NUMBERS" "vessel") [.int 1000000],
  tupAt K (kdv K "NUMBERS" "unit") [.int 99],
  tupAt K (kdv K "NUMBERS" "claim") [.int 99],
  tupAt K (kdv K "NUMBERS" "take") [.int 99],
  tupAt K (kdv K "NUMBERS" "give") [.int 99],
  tupAt K (kdv K "NUMBERS" "charge") [.int 1000000],
  tupAt K (kdv K "NUMBERS" "pour") [.int 1000000],
  tupAt K (kdv K "NUMBERS" "empty") [],
  tupAt K (kdv K "NUMBERS" "turn") [.int 1000, .int 1000],
  tupAt K (kdv K "NUMBERS" "ship") [],
  He.valsB K (He.ga K "MOST_TOLD") [("stuff", .int 12), ("vessel", .int 12), ("unit", .int 6)],
  tupAt K (He.ga K "KEPT") [.str "recipe", .str "end", .str "do", .str "takes", .str "to", .str "if", .str "then", .str "else", .str "either", .str "or", .str "both", .str "and", .str "again", .str "until", .str "use"]]
def exAll (K : PySem.W.Frag) : Bool := (exL K).all id
abbrev hk : PySem.W.Hook := hookS 4 faL fnL tsL exAll
def ob (s : PySem.W.SharedT) : AlS := obsS 4 faL fnL tsL exAll (HandSHeadRun.getT s)
theorem ob_eq (s : PySem.W.SharedT) : ob s = hk.obs s.abs := obsS_eq (HandSHeadRun.getT_eq s)
theorem tx_of {w : World} {K : PySem.W.Frag} {h : Heap} {mg : Str → Option Value} (X : K.In h) (G : h.Ns mainGlobals mg) (c : SaysS faL fnL tsL exAll w K) : Tx w K mg := by
  have d := c.t.d
  have m : ∀ (i : Nat) (b : Bool), (exL K)[i]? = some b → b = true := fun i b e => List.all_eq_true.mp c.more b (List.mem_of_getElem? e)
  refine Tx.mk
    (He.free_ok X G (d.fact 0 (f := .free "len") rfl))
    (He.free_ok X G (d.fact 1 (f := .free "range") rfl))
    (He.free_ok X G (d.fact 2 (f := .free "zip") rfl))
    (He.free_ok X G (d.fact 3 (f := .free "enumerate") rfl))
    (He.free_ok X G (d.fact 4 (f := .free "sum") rfl))
    (He.free_ok X G (d.fact 5 (f := .free "sorted") rfl))
    (He.free_ok X G (d.fact 6 (f := .free "list") rfl))
    (He.free_ok X G (d.fact 7 (f := .free "tuple") rfl))
    (He.free_ok X G (d.fact 8 (f := .free "int") rfl))
    (He.free_ok X G (d.fact 9 (f := .free "all") rfl))
    (He.free_ok X G (d.fact 10 (f := .free "str") rfl))
    (He.int_ok X G (d.fact 11 (f := .int "MOST_SPOTS" 600) rfl))
    (He.int_ok X G (d.fact 12 (f := .int "MOST_BYTES" 6000) rfl))
    (He.int_ok X G (d.fact 13 (f := .int "MOST_SIGNS" 12) rfl))
    (He.int_ok X G (d.fact 14 (f := .int "MOST_DIGITS" 7) rfl))
    (He.str_ok X G (d.fact 15 (f := .str "LETTERS" "abcdefghijklmnopqrstuvwxyz") rfl))
    (He.str_ok X G (d.fact 16 (f := .str "DIGITS" "0123456789") rfl))
    (He.str_ok X G (d.fact 17 (f := .str "OTHER" "?") rfl))
    (He.glo_ok X G (d.fact 18 (f := .glo "KEPT") rfl))
    (He.int_ok X G (d.fact 19 (f := .int "MOST_RECIPES" 10) rfl))
    (He.int_ok X G (d.fact 20 (f := .int "MOST_STEPS" 30) rfl))
    (He.int_ok X G (d.fact 21 (f := .int "MOST_CONDITIONS" 12) rfl))
    (He.int_ok X G (d.fact 22 (f := .int "MOST_TIME" 1000000) rfl))
    (He.int_ok X G (d.fact 23 (f := .int "MOST_THINGS" 30) rfl))
    (He.glo_ok X G (d.fact 24 (f := .glo "BETWEEN") rfl))
    (He.glo_ok X G (d.fact 25 (f := .glo "NAMES") rfl))
    (He.glo_ok X G (d.fact 26 (f := .glo "NUMBERS") rfl))
    (He.glo_ok X G (d.fact 27 (f := .glo "MOST_TOLD") rfl))
    (He.int_ok X G (d.fact 28 (f := .int "MOST_PAIRS" 60) rfl))
    (He.int_ok X G (d.fact 29 (f := .int "MOST_DOINGS" 60) rfl))
    (He.glo_ok X G (d.fact 30 (f := .glo "_wall") rfl))
    (d.def_ 0 rfl)
    (He.glo_ok X G (d.fact 31 (f := .glo "net_of") rfl))
    (d.def_ 1 rfl)
    (He.glo_ok X G (d.fact 32 (f := .glo "can_be") rfl))
    (d.def_ 2 rfl)
    (He.glo_ok X G (d.fact 33 (f := .glo "added") rfl))
    (d.def_ 3 rfl)
    (He.glo_ok X G (d.fact 34 (f := .glo "lessened") rfl))
    (d.def_ 4 rfl)
    (He.glo_ok X G (d.fact 35 (f := .glo "moved") rfl))
    (d.def_ 5 rfl)
    (He.glo_ok X G (d.fact 36 (f := .glo "ended") rfl))
    (d.def_ 6 rfl)
    (He.glo_ok X G (d.fact 37 (f := .glo "spots_behind") rfl))
    (d.def_ 7 rfl)
    (He.glo_ok X G (d.fact 38 (f := .glo "spots_of") rfl))
    (d.def_ 8 rfl)
    (He.glo_ok X G (d.fact 39 (f := .glo "is_spot_right") rfl))
    (d.def_ 9 rfl)
    (He.glo_ok X G (d.fact 40 (f := .glo "is_recipe_right") rfl))
    (d.def_ 10 rfl)
    (He.glo_ok X G (d.fact 41 (f := .glo "sign_of") rfl))
    (d.def_ 11 rfl)
    (He.glo_ok X G (d.fact 42 (f := .glo "text_of") rfl))
    (d.def_ 12 rfl)
    (He.glo_ok X G (d.fact 43 (f := .glo "line_of") rfl))
    (d.def_ 13 rfl)
    (He.glo_ok X G (d.fact 44 (f := .glo "lines_of") rfl))
    (d.def_ 14 rfl)
    (He.glo_ok X G (d.fact 45 (f := .glo "is_name") rfl))
    (d.def_ 15 rfl)
    (He.glo_ok X G (d.fact 46 (f := .glo "is_number") rfl))
    (d.def_ 16 rfl)
    (He.glo_ok X G (d.fact 47 (f := .glo "things_in") rfl))
    (d.def_ 17 rfl)
    (He.glo_ok X G (d.fact 48 (f := .glo "read_book") rfl))
    (d.def_ 18 rfl)
    (He.glo_ok X G (d.fact 49 (f := .glo "names_in") rfl))
    (d.def_ 19 rfl)
    (He.glo_ok X G (d.fact 50 (f := .glo "numbers_in") rfl))
    (d.def_ 20 rfl)
    (He.glo_ok X G (d.fact 51 (f := .glo "is_formed") rfl))
    (d.def_ 21 rfl)
    (He.glo_ok X G (d.fact 52 (f := .glo "kind_of_new") rfl))
    (d.def_ 22 rfl)
    (He.glo_ok X G (d.fact 53 (f := .glo "kind_of_pair") rfl))
    (d.def_ 23 rfl)
    (He.glo_ok X G (d.fact 54 (f := .glo "kind_of_doing") rfl))
    (d.def_ 24 rfl)
    (He.glo_ok X G (d.fact 55 (f := .glo "kind_of_line") rfl))
    (d.def_ 25 rfl)
    (He.glo_ok X G (d.fact 56 (f := .glo "take_line") rfl))
    (d.def_ 26 rfl)
    (He.glo_ok X G (d.fact 57 (f := .glo "read_plant") rfl))
    (d.def_ 27 rfl)
    (He.glo_ok X G (d.fact 58 (f := .glo "plant_of") rfl))
    (d.def_ 28 rfl)
    (He.glo_ok X G (d.fact 59 (f := .glo "works") rfl))
    (d.def_ 29 rfl)
    (d.def_ 30 rfl)
    (d.def_ 31 rfl)
    (d.def_ 32 rfl)
    (d.def_ 33 rfl)
    (d.def_ 34 rfl)
    (d.def_ 35 rfl)
    (d.def_ 36 rfl)
    (d.def_ 37 rfl)
    (d.def_ 38 rfl)
    (d.def_ 39 rfl)
    (d.def_ 40 rfl)
    (d.def_ 41 rfl)
    (d.def_ 42 rfl)
    (d.def_ 43 rfl)
    (d.def_ 44 rfl)
    (d.def_ 45 rfl)
    (d.def_ 46 rfl)
    (d.def_ 47 rfl)
    (d.def_ 48 rfl)
    (d.def_ 49 rfl)
    (d.def_ 50 rfl)
    (d.def_ 51 rfl)
    (d.def_ 52 rfl)
    (d.def_ 53 rfl)
    (d.def_ 54 rfl)
    (d.def_ 55 rfl)
    (d.def_ 56 rfl)
    (d.def_ 57 rfl)
    (d.def_ 58 rfl)
    (d.def_ 59 rfl)
    (d.def_ 60 rfl)
    (d.def_ 61 rfl)
    (d.def_ 62 rfl)
    (d.def_ 63 rfl)
    (d.def_ 64 rfl)
    (d.def_ 65 rfl)
    (d.def_ 66 rfl)
    (d.def_ 67 rfl)
    (d.def_ 68 rfl)
    (d.def_ 69 rfl)
    (d.def_ 70 rfl)
    (d.def_ 71 rfl)
    (d.def_ 72 rfl)
    (He.glo_ok X G (d.fact 60 (f := .glo "Move") rfl))
    (He.cls_ok (d.fact 61 (f := .cls "Move") rfl))
    (He.mkr_ok (d.fact 62 (f := .mkr "Move") rfl))
    (He.noat_ok (d.fact 63 (f := .noat "Move" "kind") rfl))
    (He.noat_ok (d.fact 64 (f := .noat "Move" "number") rfl))
    (He.noat_ok (d.fact 65 (f := .noat "Move" "before") rfl))
    (He.noat_ok (d.fact 66 (f := .noat "Move" "behind") rfl))
    (He.glo_ok X G (d.fact 67 (f := .glo "Layer") rfl))
    (He.cls_ok (d.fact 68 (f := .cls "Layer") rfl))
    (He.mkr_ok (d.fact 69 (f := .mkr "Layer") rfl))
    (He.noat_ok (d.fact 70 (f := .noat "Layer" "book") rfl))
    (He.noat_ok (d.fact 71 (f := .noat "Layer" "moves") rfl))
    (He.noat_ok (d.fact 72 (f := .noat "Layer" "places") rfl))
    (He.meth_ok (d.fact 73 (f := .meth "Layer" "new_places") rfl))
    (He.meth_ok (d.fact 74 (f := .meth "Layer" "add_move") rfl))
    (He.meth_ok (d.fact 75 (f := .meth "Layer" "lay_body") rfl))
    (He.meth_ok (d.fact 76 (f := .meth "Layer" "lay_part") rfl))
    (He.meth_ok (d.fact 77 (f := .meth "Layer" "lay_if") rfl))
    (He.meth_ok (d.fact 78 (f := .meth "Layer" "lay_both") rfl))
    (He.meth_ok (d.fact 79 (f := .meth "Layer" "lay_again") rfl))
    (He.glo_ok X G (d.fact 80 (f := .glo "Refusal") rfl))
    (ec_ok (m 0 _ rfl))
    (ci_ok (m 1 _ rfl))
    (He.eqO_ok (m 2 _ rfl))
    (m 3 _ rfl)
    (of_decide_eq_true (m 4 _ rfl))
    (He.glo_ok X G (d.fact 81 (f := .glo "NoText") rfl))
    (ec_ok (m 5 _ rfl))
    (ci_ok (m 6 _ rfl))
    (He.eqO_ok (m 7 _ rfl))
    (m 8 _ rfl)
    (of_decide_eq_true (m 9 _ rfl))
    (He.glo_ok X G (d.fact 82 (f := .glo "WrongWorks") rfl))
    (ec_ok (m 10 _ rfl))
    (ci_ok (m 11 _ rfl))
    (He.eqO_ok (m 12 _ rfl))
    (m 13 _ rfl)
    (of_decide_eq_true (m 14 _ rfl))
    (He.glo_ok X G (d.fact 83 (f := .glo "WrongRecipes") rfl))
    (ec_ok (m 15 _ rfl))
    (ci_ok (m 16 _ rfl))
    (He.eqO_ok (m 17 _ rfl))
    (m 18 _ rfl)
    (of_decide_eq_true (m 19 _ rfl))
    (He.glo_ok X G (d.fact 84 (f := .glo "Part") rfl))
    (He.cls_ok (d.fact 85 (f := .cls "Part") rfl))
    (He.mkr_ok (d.fact 86 (f := .mkr "Part") rfl))
    (He.noat_ok (d.fact 87 (f := .noat "Part" "word") rfl))
    (He.noat_ok (d.fact 88 (f := .noat "Part" "number") rfl))
    (He.noat_ok (d.fact 89 (f := .noat "Part" "bodies") rfl))
    (He.noat_ok (d.fact 90 (f := .noat "Part" "things") rfl))
    (He.meth_ok (d.fact 91 (f := .meth "Part" "count_things") rfl))
    (He.glo_ok X G (d.fact 92 (f := .glo "Book") rfl))
    (He.cls_ok (d.fact 93 (f := .cls "Book") rfl))
    (He.mkr_ok (d.fact 94 (f := .mkr "Book") rfl))
    (He.noat_ok (d.fact 95 (f := .noat "Book" "recipes") rfl))
    (He.noat_ok (d.fact 96 (f := .noat "Book" "parts") rfl))
    (He.noat_ok (d.fact 97 (f := .noat "Book" "steps") rfl))
    (He.noat_ok (d.fact 98 (f := .noat "Book" "times") rfl))
    (He.noat_ok (d.fact 99 (f := .noat "Book" "conditions") rfl))
    (He.noat_ok (d.fact 100 (f := .noat "Book" "has_either") rfl))
    (He.meth_ok (d.fact 101 (f := .meth "Book" "condition_of") rfl))
    (He.meth_ok (d.fact 102 (f := .meth "Book" "step_of") rfl))
    (He.meth_ok (d.fact 103 (f := .meth "Book" "add_recipe") rfl))
    (He.glo_ok X G (d.fact 104 (f := .glo "Reader") rfl))
    (He.cls_ok (d.fact 105 (f := .cls "Reader") rfl))
    (He.mkr_ok (d.fact 106 (f := .mkr "Reader") rfl))
    (He.noat_ok (d.fact 107 (f := .noat "Reader" "words") rfl))
    (He.noat_ok (d.fact 108 (f := .noat "Reader" "place") rfl))
    (He.noat_ok (d.fact 109 (f := .noat "Reader" "stack") rfl))
    (He.noat_ok (d.fact 110 (f := .noat "Reader" "recipe_name") rfl))
    (He.noat_ok (d.fact 111 (f := .noat "Reader" "book") rfl))
    (He.meth_ok (d.fact 112 (f := .meth "Reader" "next_is") rfl))
    (He.meth_ok (d.fact 113 (f := .meth "Reader" "next_word") rfl))
    (He.meth_ok (d.fact 114 (f := .meth "Reader" "next_name") rfl))
    (He.meth_ok (d.fact 115 (f := .meth "Reader" "next_time") rfl))
    (He.meth_ok (d.fact 116 (f := .meth "Reader" "expect") rfl))
    (He.meth_ok (d.fact 117 (f := .meth "Reader" "read_all") rfl))
    (He.meth_ok (d.fact 118 (f := .meth "Reader" "go_on") rfl))
    (He.meth_ok (d.fact 119 (f := .meth "Reader" "begin_recipe") rfl))
    (He.meth_ok (d.fact 120 (f := .meth "Reader" "read_step") rfl))
    (He.meth_ok (d.fact 121 (f := .meth "Reader" "read_use") rfl))
    (He.meth_ok (d.fact 122 (f := .meth "Reader" "begin_part") rfl))
    (He.meth_ok (d.fact 123 (f := .meth "Reader" "begin_body") rfl))
    (He.meth_ok (d.fact 124 (f := .meth "Reader" "end_again") rfl))
    (He.meth_ok (d.fact 125 (f := .meth "Reader" "end_part") rfl))
    (He.meth_ok (d.fact 126 (f := .meth "Reader" "push") rfl))
    (He.meth_ok (d.fact 127 (f := .meth "Reader" "put_away") rfl))
    (He.meth_ok (d.fact 128 (f := .meth "Reader" "add_part") rfl))
    (He.glo_ok X G (d.fact 129 (f := .glo "Plant") rfl))
    (He.cls_ok (d.fact 130 (f := .cls "Plant") rfl))
    (He.mkr_ok (d.fact 131 (f := .mkr "Plant") rfl))
    (He.noat_ok (d.fact 132 (f := .noat "Plant" "book") rfl))
    (He.noat_ok (d.fact 133 (f := .noat "Plant" "told") rfl))
    (He.noat_ok (d.fact 134 (f := .noat "Plant" "sizes") rfl))
    (He.noat_ok (d.fact 135 (f := .noat "Plant" "pairs") rfl))
    (He.noat_ok (d.fact 136 (f := .noat "Plant" "doings") rfl))
    (He.noat_ok (d.fact 137 (f := .noat "Plant" "lines") rfl))
    (He.meth_ok (d.fact 138 (f := .meth "Plant" "amounts") rfl))
    (He.meth_ok (d.fact 139 (f := .meth "Plant" "nothing") rfl))
    (He.meth_ok (d.fact 140 (f := .meth "Plant" "numbers_of") rfl))
    (He.meth_ok (d.fact 141 (f := .meth "Plant" "name_of") rfl))
    (He.meth_ok (d.fact 142 (f := .meth "Plant" "are_told") rfl))
    (tupAt_ok (m 46 _ rfl))
    (wd_of (c.t.tab 0 rfl) (tab_at c.t 0 rfl) (m 20 _ rfl) rfl rfl)
    (wd_of (c.t.tab 1 rfl) (tab_at c.t 1 rfl) (m 21 _ rfl) rfl rfl)
    (tupAt_ok (m 22 _ rfl))
    (tupAt_ok (m 23 _ rfl))
    (tupAt_ok (m 24 _ rfl))
    (tupAt_ok (m 25 _ rfl))
    (tupAt_ok (m 26 _ rfl))
    (tupAt_ok (m 27 _ rfl))
    (tupAt_ok (m 28 _ rfl))
    (tupAt_ok (m 29 _ rfl))
    (tupAt_ok (m 30 _ rfl))
    (tupAt_ok (m 31 _ rfl))
    (tupAt_ok (m 32 _ rfl))
    (wd_of (c.t.tab 2 rfl) (tab_at c.t 2 rfl) (m 33 _ rfl) rfl rfl)
    (tupAt_ok (m 34 _ rfl))
    (tupAt_ok (m 35 _ rfl))
    (tupAt_ok (m 36 _ rfl))
    (tupAt_ok (m 37 _ rfl))
    (tupAt_ok (m 38 _ rfl))
    (tupAt_ok (m 39 _ rfl))
    (tupAt_ok (m 40 _ rfl))
    (tupAt_ok (m 41 _ rfl))
    (tupAt_ok (m 42 _ rfl))
    (tupAt_ok (m 43 _ rfl))
    (tupAt_ok (m 44 _ rfl))
    (wd_of (c.t.tab 3 rfl) (tab_at c.t 3 rfl) (m 45 _ rfl) rfl rfl)
def nm0 : List PySem.Str := ["_wall", "__name__", "Move", "Layer", "net_of", "MOST_SPOTS", "can_be", "added", "lessened", "moved", "ended", "spots_behind", "spots_of", "is_spot_right", "is_recipe_right", "Refusal", "NoText", "WrongWorks", "WrongRecipes", "MOST_BYTES", "MOST_SIGNS", "MOST_DIGITS", "LETTERS", "DIGITS", "OTHER", "KEPT", "sign_of", "text_of", "line_of", "lines_of"]
def nm1 : List PySem.Str := ["is_name", "is_number", "MOST_RECIPES", "MOST_STEPS", "MOST_CONDITIONS", "MOST_TIME", "MOST_THINGS", "BETWEEN", "Part", "things_in", "Book", "Reader", "read_book", "NAMES", "NUMBERS", "MOST_TOLD", "MOST_PAIRS", "MOST_DOINGS", "Plant", "names_in", "numbers_in", "is_formed", "kind_of_new", "kind_of_pair", "kind_of_doing", "kind_of_line", "take_line", "read_plant", "plant_of"]
def names : List PySem.Str := nm0 ++ nm1
abbrev R : PySem.W.OpenSpec := PySem.Challenge.rw_batchworks_s01_works
abbrev qv : Program := PySem.W.view R.prog [65]
end Bw
end

section
set_option Elab.async false
set_option linter.all false
set_option maxRecDepth 100000
set_option maxHeartbeats 0
namespace Bw
open PySem PySem.W PyProof.Rows
theorem topRunF (w : World) : HandSHeadRun.RunEqS R qv hk ob 20000 names (w.withFollow "special-get-raises" false) := by
  intro os
  kernel_rfl
theorem topRunT (w : World) : HandSHeadRun.RunEqS R qv hk ob 20000 names (w.withFollow "special-get-raises" true) := by
  intro os
  kernel_rfl
theorem topRun (w : World) : HandSHeadRun.RunEqS R qv hk ob 20000 names w := byRow2 "special-get-raises" topRunF topRunT w
end Bw
end

section
set_option Elab.async false
set_option linter.all false
set_option maxRecDepth 100000
set_option maxHeartbeats 8000000
namespace Bw
open PySem PySem.Spec PyProof.Rows L2
/-- what is left: the numbers that the code's own reading gives are those of the specification -/
def Due : Prop := ∀ rs ws : List Int, rs.length ≤ 16000 → ws.length ≤ 16000 → ∃ bl, NetsOk rs bl ∧ worksAns rs ws bl = PyVbwbzz.works rs ws
theorem claim_of (due : Due) : PySem.Challenge.rw_batchworks_s01_works.Holds := by
  refine HandSHeadRun.head_spec (r := PySem.Challenge.rw_batchworks_s01_works) (q := qv) (H := hk) (ob := ob) (M := 20000) (loose := names) (d := HandSHeadRun.topDef PySem.Challenge.rw_batchworks_s01_works.prog 65) (kwd := []) ob_eq
    (by kernel_rfl) (fun s => by kernel_rfl) topRun (by kernel_rfl) (by kernel_rfl) (by kernel_rfl) PySem.W.os_shapes (by decide +kernel) (by decide +kernel) ⟨rfl, rfl, rfl, rfl, rfl, by decide +kernel⟩ ⟨[.list [], .list []], by decide +kernel, by decide +kernel⟩ ?hc
  refine walk_specE (k := 130) (ps := ["r", "w"]) (fun w => L2.CX PySem.Challenge.rw_batchworks_s01_works.prog w) (by decide +kernel) (by kernel_rfl) rfl ⟨rfl, by decide, by decide⟩ ?F ?C
  case F =>
    intro w mg fa h Y G hmg
    obtain ⟨K, KX, c⟩ := Y
    have Z := tx_of KX G c
    have e : fa = He.fAd K ("works", none) := by
      have en : (HandSHeadRun.topDef PySem.Challenge.rw_batchworks_s01_works.prog 65).name = ("works" : PySem.Str) := by kernel_rfl
      rw [en] at hmg
      have e1 := hmg.symm.trans Z.g_works
      exact Value.ref.inj (Option.some.inj e1)
    subst e
    obtain ⟨fd, F⟩ := Z.fd_works
    refine ⟨K, fd, sp_works K, KX, F.bindsA fun _ _ _ _ _ _ us hl => match us, hl with | [_, _], _ => rfl, fun H xs a hO hwi hask hx => ?_, fun base _ _ => ?_⟩
    · cases hx with
      | cons h1 h2 =>
        cases h2 with
        | cons h2 h3 =>
          cases h3
          cases h1 with
          | lst hs1 ha1 =>
            cases h2 with
            | lst hs2 ha2 =>
              have e1 := L2.ints_dw a.1 _ ha1
              have e2 := L2.ints_dw a.2.1 _ ha2
              subst e1 e2
              have q : ((PySem.W.Codec.inLen 0 16000 a.1 && a.1.all _) && ((PySem.W.Codec.inLen 0 16000 a.2.1 && a.2.1.all _) && true)) = true := hwi
              rw [Bool.and_eq_true, Bool.and_eq_true, Bool.and_eq_true, Bool.and_eq_true] at q
              have l1 := (PySem.W.Codec.inNat_iff.mp q.1.1).2
              have l2 := (PySem.W.Codec.inNat_iff.mp q.2.1.1).2
              obtain ⟨bl, hN, hE⟩ := due a.1 a.2.1 l1 l2
              refine ⟨_, _, rfl, _, _, a.1, a.2.1, bl, rfl, rfl, hs1, hs2, by omega, by omega, hN, fun H' l hl => ?_⟩
              rw [hE] at hl
              exact .lst (SqL.of hl) (dw_ints _)
    · have cN := ok_net_of (P := PySem.Challenge.rw_batchworks_s01_works.prog) (w := w) (base := base) Z 120 (lay_all Z 120).1
      have cR := ok_is_recipe_right Z 120 (ok_spots_of Z 120 cN)
      exact ok_works Z F cR (ok_read_plant Z cR) (ok_plant_of Z cR (ok_read_plant Z cR))
  case C =>
    intro w H s e s' hc
    obtain ⟨_, _, _, _, _, _, _, _, _, _, _, _, z⟩ := hc
    exact z
end Bw
end

section
set_option autoImplicit false
/-! The specification's reader against the machine over words: what they share. -/
namespace Bm
open Bw
open Vbwbzz (Bytes)
open Vbwbab (Toks Book Block andThen)

/-! ### the machine's turns -/
theorem nextWord_t {r r' : RS} {x : Bytes} (h : nextWord r = some (x, r')) : r'.t.length < r.t.length := by
  unfold nextWord at h
  cases e : r.t with
  | nil => rw [e] at h; cases h
  | cons w t => rw [e] at h; cases h; exact Nat.lt_succ_self _
theorem nextName_t {r r' : RS} {x : Bytes} (h : nextName r = some (x, r')) : r'.t.length < r.t.length := by
  unfold nextName at h
  cases e : nextWord r with
  | none => rw [e] at h; cases h
  | some y =>
    rw [e] at h
    obtain ⟨a, b⟩ := y
    replace h : (if Vbwbab.isName a = true then some (a, b) else none) = some (x, r') := h
    split at h
    · cases h; exact nextWord_t e
    · cases h
theorem nextTime_t {lo n : Nat} {r r' : RS} (h : nextTime lo r = some (n, r')) : r'.t.length < r.t.length := by
  unfold nextTime at h
  cases e : nextWord r with
  | none => rw [e] at h; cases h
  | some y =>
    rw [e] at h
    obtain ⟨a, b⟩ := y
    replace h : (match Vbwbab.numOf a with | none => none | some n => if lo ≤ n ∧ n ≤ 1000000 then some (n, b) else none) = some (n, r') := h
    cases e2 : Vbwbab.numOf a with
    | none => rw [e2] at h; cases h
    | some m =>
      rw [e2] at h
      replace h : (if lo ≤ m ∧ m ≤ 1000000 then some (m, b) else none) = some (n, r') := h
      split at h
      · cases h; exact nextWord_t e
      · cases h
theorem expect_t {w : Bytes} {r r' : RS} (h : expect w r = some r') : r'.t.length < r.t.length := by
  unfold expect at h
  cases e : nextWord r with
  | none => rw [e] at h; cases h
  | some y =>
    rw [e] at h
    obtain ⟨a, b⟩ := y
    replace h : (if a = w then some b else none) = some r' := h
    split at h
    · cases h; exact nextWord_t e
    · cases h
theorem addPart_t {x : T} {r r' : RS} (h : addPart x r = some r') : r'.t = r.t := by
  unfold addPart at h
  cases e : r.st with
  | nil => rw [e] at h; cases h
  | cons p s => rw [e] at h; obtain ⟨w, n, hh, bs⟩ := p; cases h; rfl
theorem putAway_t {r r' : RS} (h : putAway r = some r') : r'.t = r.t := by
  unfold putAway at h
  cases e : r.st with
  | nil => rw [e] at h; cases h
  | cons p s =>
    rw [e] at h
    replace h : (if p.w = .recipe then (addRec r.bk r.nm p.counted).map fun k => { r with st := s, bk := k } else addPart p.counted { r with st := s }) = some r' := h
    split at h
    · cases e2 : addRec r.bk r.nm p.counted with
      | none => rw [e2] at h; cases h
      | some k => rw [e2] at h; cases h; rfl
    · have := addPart_t h; exact this
theorem readStep_t {r r' : RS} (h : readStep r = some r') : r'.t.length ≤ r.t.length := by
  unfold readStep at h
  cases e : nextName r with
  | none => rw [e] at h; cases h
  | some y =>
    obtain ⟨x, r1⟩ := y
    rw [e] at h
    have l1 := nextName_t e
    dsimp only at h
    split at h
    · cases e2 : expect (kw "takes") r1 with
      | none => rw [e2] at h; cases h
      | some r2 =>
        rw [e2] at h; have l2 := expect_t e2; dsimp only at h
        cases e3 : nextTime 0 r2 with
        | none => rw [e3] at h; cases h
        | some y =>
          obtain ⟨lo, r3⟩ := y
          rw [e3] at h; have l3 := nextTime_t e3; dsimp only at h
          cases e4 : expect (kw "to") r3 with
          | none => rw [e4] at h; cases h
          | some r4 =>
            rw [e4] at h; have l4 := expect_t e4; dsimp only at h
            cases e5 : nextTime lo r4 with
            | none => rw [e5] at h; cases h
            | some y =>
              obtain ⟨hi, r5⟩ := y
              rw [e5] at h; have l5 := nextTime_t e5; dsimp only at h
              cases e6 : stepOf r5.bk x (some (lo, hi)) with
              | none => rw [e6] at h; cases h
              | some y =>
                obtain ⟨i, k⟩ := y
                rw [e6] at h; dsimp only at h
                have := addPart_t h
                rw [this]; show r5.t.length ≤ _; omega
    · cases e6 : stepOf r1.bk x none with
      | none => rw [e6] at h; cases h
      | some y =>
        obtain ⟨i, k⟩ := y
        rw [e6] at h; dsimp only at h
        have := addPart_t h
        rw [this]; show r1.t.length ≤ _; omega
theorem readUse_t {r r' : RS} (h : readUse r = some r') : r'.t.length ≤ r.t.length := by
  unfold readUse at h
  cases e : nextName r with
  | none => rw [e] at h; cases h
  | some y =>
    obtain ⟨x, r1⟩ := y
    rw [e] at h
    have l1 := nextName_t e
    dsimp only at h
    cases e2 : idx r1.bk.names x with
    | none => rw [e2] at h; cases h
    | some i => rw [e2] at h; dsimp only at h; have := addPart_t h; rw [this]; omega
theorem beginPart_t {w : Wd} {r r' : RS} (h : beginPart w r = some r') : r'.t.length ≤ r.t.length := by
  unfold beginPart at h
  cases w with
  | if_ =>
    dsimp only at h
    cases e : nextName r with
    | none => rw [e] at h; cases h
    | some y =>
      obtain ⟨x, r1⟩ := y
      rw [e] at h
      have l1 := nextName_t e
      dsimp only at h
      cases e2 : condOf r1.bk x with
      | none => rw [e2] at h; cases h
      | some y =>
        obtain ⟨i, k⟩ := y
        rw [e2] at h; dsimp only at h
        cases e3 : expect (kw "then") { r1 with bk := k } with
        | none => rw [e3] at h; cases h
        | some r2 =>
          rw [e3] at h; have l3 := expect_t e3; cases h
          show r2.t.length ≤ _
          have : ({ r1 with bk := k } : RS).t.length = r1.t.length := rfl
          omega
  | _ => cases h; exact Nat.le_refl _
theorem endAgain_t {r r' : RS} (h : endAgain r = some r') : r'.t.length ≤ r.t.length := by
  unfold endAgain at h
  cases e0 : r.st with
  | nil => rw [e0] at h; cases h
  | cons p s =>
    obtain ⟨v, n, hh, bs⟩ := p
    rw [e0] at h; dsimp only at h
    split at h
    · cases h
    · cases e : nextName r with
      | none => rw [e] at h; cases h
      | some y =>
        obtain ⟨x, r1⟩ := y
        rw [e] at h
        have l1 := nextName_t e
        dsimp only at h
        cases e2 : condOf r1.bk x with
        | none => rw [e2] at h; cases h
        | some y =>
          obtain ⟨i, k⟩ := y
          rw [e2] at h; dsimp only at h
          cases e3 : expect (kw "end") { r1 with bk := k, st := .mk v i hh bs :: s } with
          | none => rw [e3] at h; cases h
          | some r2 =>
            rw [e3] at h; have l3 := expect_t e3; dsimp only at h
            have := putAway_t h
            rw [this]
            have : ({ r1 with bk := k, st := .mk v i hh bs :: s } : RS).t.length = r1.t.length := rfl
            omega
theorem endPart_t {r r' : RS} (h : endPart r = some r') : r'.t.length ≤ r.t.length := by
  unfold endPart at h
  cases e0 : r.st with
  | nil => rw [e0] at h; cases h
  | cons p s =>
    obtain ⟨v, n, hh, bs⟩ := p
    rw [e0] at h; dsimp only at h
    split at h
    · cases h
    · rw [putAway_t h]; exact Nat.le_refl _
theorem beginBody_t {w : Bytes} {r r' : RS} (h : beginBody w r = some r') : r'.t.length ≤ r.t.length := by
  unfold beginBody at h
  cases e0 : r.st with
  | nil => rw [e0] at h; cases h
  | cons p s =>
    obtain ⟨v, n, hh, bs⟩ := p
    rw [e0] at h; dsimp only at h
    split at h
    · cases h
    · split at h
      · cases h
      · cases h; exact Nat.le_refl _
theorem goOn_t {w : Bytes} {r r' : RS} (h : goOn w r = some r') : r'.t.length ≤ r.t.length := by
  unfold goOn at h
  split at h
  · exact readStep_t h
  split at h
  · exact readUse_t h
  split at h
  · exact beginPart_t h
  split at h
  · exact beginPart_t h
  split at h
  · exact beginPart_t h
  split at h
  · exact beginPart_t h
  split at h
  · exact endAgain_t h
  split at h
  · exact endPart_t h
  · exact beginBody_t h
theorem beginRecipe_t {r r' : RS} (h : beginRecipe r = some r') : r'.t.length < r.t.length := by
  unfold beginRecipe at h
  cases e : expect (kw "recipe") r with
  | none => rw [e] at h; cases h
  | some r1 =>
    rw [e] at h; have l1 := expect_t e; dsimp only at h
    cases e2 : nextName r1 with
    | none => rw [e2] at h; cases h
    | some y =>
      obtain ⟨x, r2⟩ := y
      rw [e2] at h; have l2 := nextName_t e2; dsimp only at h
      split at h
      · cases h
      · cases h; show r2.t.length < _; omega
theorem turnR_t {r r' : RS} (h : turnR r = some r') : r'.t.length < r.t.length := by
  unfold turnR at h
  cases e : r.st with
  | nil => rw [e] at h; exact beginRecipe_t h
  | cons p s =>
    rw [e] at h
    replace h : (match nextWord r with | none => none | some x => goOn x.1 x.2) = some r' := h
    cases e2 : nextWord r with
    | none => rw [e2] at h; cases h
    | some y =>
      obtain ⟨x, r1⟩ := y
      rw [e2] at h
      replace h : goOn x r1 = some r' := h
      have := nextWord_t e2
      have := goOn_t h
      omega
theorem loopR_more : ∀ (n m : Nat) (r : RS), r.t.length ≤ n → r.t.length ≤ m → loopR n r = loopR m r
  | 0, 0, r, _, _ => rfl
  | 0, m + 1, r, h, _ => by
    have e : r.t = [] := List.length_eq_zero_iff.mp (by omega)
    simp [loopR, e]
  | n + 1, 0, r, _, h => by
    have e : r.t = [] := List.length_eq_zero_iff.mp (by omega)
    simp [loopR, e]
  | n + 1, m + 1, r, h1, h2 => by
    unfold loopR
    split
    · rfl
    · cases e : turnR r with
      | none => rfl
      | some r2 =>
        have := turnR_t e
        exact loopR_more n m r2 (by omega) (by omega)
/-- how the reading ends from here -/
def fin (r : RS) : Option Bk := (readAll r).map (·.bk)
theorem fin_nil {r : RS} (h : r.t = []) : fin r = if r.st.length = 0 ∧ r.bk.recs.length ≠ 0 then some r.bk else none := by
  unfold fin readAll
  rw [h]
  show Option.map _ (match loopR 0 r with | none => none | some r2 => _) = _
  have : loopR 0 r = some r := by unfold loopR; rw [if_pos h]
  rw [this]
  dsimp only
  split <;> rfl
theorem fin_turn {r : RS} (h : r.t ≠ []) : fin r = (turnR r).bind fin := by
  unfold fin readAll
  cases e : r.t with
  | nil => exact absurd e h
  | cons w t =>
    show Option.map _ (match loopR (t.length + 1) r with | none => none | some r2 => _) = _
    have : loopR (t.length + 1) r = (match turnR r with | none => none | some r2 => loopR t.length r2) := by
      conv => lhs; unfold loopR
      rw [if_neg h] <;> rfl
    rw [this]
    cases e2 : turnR r with
    | none => rfl
    | some r2 =>
      have l := turnR_t e2
      rw [e] at l
      dsimp only
      rw [loopR_more t.length r2.t.length r2 (by simp at l; omega) (Nat.le_refl _)]
      rfl
/-- with a word ahead and a part not ended -/
theorem fin_word {w : Bytes} {t : List Bytes} {p : T} {s : List T} {nm : Bytes} {k : Bk} : fin ⟨w :: t, p :: s, nm, k⟩ = (goOn w ⟨t, p :: s, nm, k⟩).bind fin := by
  rw [fin_turn (by simp)]
  rfl
theorem fin_none {r : RS} (h : turnR r = none) (ht : r.t ≠ []) : fin r = none := by rw [fin_turn ht, h]; rfl

/-! ### tokens -/
def Tk (t : Toks) (ws : List Bytes) : Prop := t.map (·.1) = ws ++ [[]] ∧ ∀ w ∈ ws, w ≠ []
theorem Tk.nil {t : Toks} (h : Tk t []) : ∃ p, t = [([], p)] := by
  obtain ⟨h, _⟩ := h
  match t, h with
  | [(a, p)], h => simp at h; subst h; exact ⟨p, rfl⟩
theorem Tk.cons {t : Toks} {w : Bytes} {ws : List Bytes} (h : Tk t (w :: ws)) : ∃ p t', t = (w, p) :: t' ∧ Tk t' ws ∧ w ≠ [] := by
  obtain ⟨h, hn⟩ := h
  match t, h with
  | (a, p) :: t', h =>
    have h1 : a :: t'.map (·.1) = w :: (ws ++ [[]]) := h
    obtain ⟨rfl, h2⟩ := List.cons.inj h1
    exact ⟨p, t', rfl, ⟨h2, fun x hx => hn x (List.mem_cons_of_mem _ hx)⟩, hn a (List.mem_cons_self ..)⟩
theorem Tk.len {t : Toks} {ws : List Bytes} (h : Tk t ws) : t.length = ws.length + 1 := by
  have := congrArg List.length h.1
  simpa using this
theorem isKey_nil {t : Toks} (h : Tk t []) {s : String} (hs : kw s ≠ []) : Vbwbab.isKey t s = false := by
  obtain ⟨p, rfl⟩ := h.nil
  show (([] : Bytes) == kw s) = false
  exact beq_false_of_ne (Ne.symm hs)
theorem isKey_cons {w : Bytes} {p : Nat} {t : Toks} {s : String} : Vbwbab.isKey ((w, p) :: t) s = (w == kw s) := rfl
theorem key_cases {t : Toks} {ws : List Bytes} (h : Tk t ws) {s : String} (hs : kw s ≠ []) :
    ((∃ p, Vbwbab.key s t = .error p) ∧ ws.head? ≠ some (kw s)) ∨ ∃ t' ws', Vbwbab.key s t = .ok ((), t') ∧ ws = kw s :: ws' ∧ Tk t' ws' := by
  cases ws with
  | nil =>
    refine .inl ⟨⟨Vbwbab.place t, ?_⟩, by simp⟩
    unfold Vbwbab.key
    rw [isKey_nil h hs]; rfl
  | cons w ws =>
    obtain ⟨p, t', rfl, h', hw⟩ := h.cons
    by_cases e : w = kw s
    · subst e
      refine .inr ⟨t', ws, ?_, rfl, h'⟩
      unfold Vbwbab.key
      rw [isKey_cons, if_pos (by simp)]; rfl
    · refine .inl ⟨⟨p, ?_⟩, by simpa using e⟩
      unfold Vbwbab.key
      rw [isKey_cons, if_neg (by simpa using e)]; rfl
theorem isName_nil : Vbwbab.isName [] = false := rfl
theorem name_cases {t : Toks} {ws : List Bytes} (h : Tk t ws) :
    ((∃ p, Vbwbab.aName t = .error p) ∧ ∀ st nm bk, nextName ⟨ws, st, nm, bk⟩ = none) ∨
    ∃ x t' ws', Vbwbab.aName t = .ok (x, t') ∧ ws = x :: ws' ∧ Tk t' ws' ∧ ∀ st nm bk, nextName ⟨ws, st, nm, bk⟩ = some (x, ⟨ws', st, nm, bk⟩) := by
  cases ws with
  | nil =>
    obtain ⟨p, rfl⟩ := h.nil
    exact .inl ⟨⟨p, rfl⟩, fun _ _ _ => rfl⟩
  | cons w ws =>
    obtain ⟨p, t', rfl, h', hw⟩ := h.cons
    by_cases e : Vbwbab.isName w = true
    · refine .inr ⟨w, t', ws, ?_, rfl, h', fun st nm bk => ?_⟩
      · show (if Vbwbab.isName w = true then _ else _) = _
        rw [if_pos e]; rfl
      · show (if Vbwbab.isName w = true then _ else _) = _
        rw [if_pos e]
    · refine .inl ⟨⟨p, ?_⟩, fun st nm bk => ?_⟩
      · show (if Vbwbab.isName w = true then _ else _) = _
        rw [if_neg e]; rfl
      · show (if Vbwbab.isName w = true then _ else _) = _
        rw [if_neg e]
theorem num_cases {t : Toks} {ws : List Bytes} (h : Tk t ws) (lo : Nat) :
    ((∃ p, Vbwbab.aNumber lo t = .error p) ∧ ∀ st nm bk, nextTime lo ⟨ws, st, nm, bk⟩ = none) ∨
    ∃ n t' w ws', Vbwbab.aNumber lo t = .ok (n, t') ∧ ws = w :: ws' ∧ Tk t' ws' ∧ ∀ st nm bk, nextTime lo ⟨ws, st, nm, bk⟩ = some (n, ⟨ws', st, nm, bk⟩) := by
  cases ws with
  | nil =>
    obtain ⟨p, rfl⟩ := h.nil
    exact .inl ⟨⟨p, rfl⟩, fun _ _ _ => rfl⟩
  | cons w ws =>
    obtain ⟨p, t', rfl, h', hw⟩ := h.cons
    cases e : Vbwbab.numOf w with
    | none =>
      refine .inl ⟨⟨p, ?_⟩, fun st nm bk => ?_⟩
      · show (match Vbwbab.numOf w with | some n => _ | none => _) = _
        rw [e]; rfl
      · show (match Vbwbab.numOf w with | none => none | some n => _) = _
        rw [e]
    | some n =>
      by_cases c : lo ≤ n ∧ n ≤ 1000000
      · refine .inr ⟨n, t', w, ws, ?_, rfl, h', fun st nm bk => ?_⟩
        · show (match Vbwbab.numOf w with | some n => _ | none => _) = _
          rw [e]
          show (if lo ≤ n ∧ n ≤ 1000000 then _ else _) = _
          rw [if_pos c]; rfl
        · show (match Vbwbab.numOf w with | none => none | some n => _) = _
          rw [e]
          show (if lo ≤ n ∧ n ≤ 1000000 then _ else _) = _
          rw [if_pos c]
      · refine .inl ⟨⟨p, ?_⟩, fun st nm bk => ?_⟩
        · show (match Vbwbab.numOf w with | some n => _ | none => _) = _
          rw [e]
          show (if lo ≤ n ∧ n ≤ 1000000 then _ else _) = _
          rw [if_neg c]; rfl
        · show (match Vbwbab.numOf w with | none => none | some n => _) = _
          rw [e]
          show (if lo ≤ n ∧ n ≤ 1000000 then _ else _) = _
          rw [if_neg c]
theorem expect_cons {k : Bytes} {ws : List Bytes} {st : List T} {nm : Bytes} {bk : Bk} : expect k ⟨k :: ws, st, nm, bk⟩ = some ⟨ws, st, nm, bk⟩ := by
  show (if k = k then _ else _) = _
  rw [if_pos rfl]
theorem expect_no {k : Bytes} {ws : List Bytes} {st : List T} {nm : Bytes} {bk : Bk} (h : ws.head? ≠ some k) : expect k ⟨ws, st, nm, bk⟩ = none := by
  cases ws with
  | nil => rfl
  | cons w ws =>
    show (if w = k then _ else _) = _
    rw [if_neg (by simpa using h)]
end Bm
end

section
set_option autoImplicit false
/-! Parts as blocks. -/
namespace Bm
open Bw
open Vbwbzz (Bytes)
open Vbwbab (Toks Book Block andThen seqOf)
mutual
def blkT : T → Block
  | .mk w n _ bs => match w, blkBs bs with
    | .do_, _ => .step n
    | .use, _ => .call n
    | .if_, [x, y] => .cond n x y
    | .either, [x, y] => .either x y
    | .both, x :: l => l.foldl .both x
    | .again, [x] => .loop x n
    | _, _ => .skip
def blkBs : List (List T) → List Block
  | [] => []
  | b :: r => chain (blkL b) :: blkBs r
def blkL : List T → List Block
  | [] => []
  | t :: r => blkT t :: blkL r
end
mutual
/-- a part of the form that is read: used recipes have numbers below n -/
def wfT (n : Nat) : T → Prop
  | .mk w i _ bs => wfBs n bs ∧ (match w with
    | .do_ => True
    | .use => i < n
    | .if_ => bs.length = 2
    | .either => bs.length = 2
    | .both => 2 ≤ bs.length
    | .again => bs.length = 1
    | .recipe => False)
def wfBs (n : Nat) : List (List T) → Prop
  | [] => True
  | b :: r => wfL n b ∧ wfBs n r
def wfL (n : Nat) : List T → Prop
  | [] => True
  | t :: r => wfT n t ∧ wfL n r
end
theorem blkL_map : ∀ l : List T, blkL l = l.map blkT
  | [] => by simp [blkL]
  | t :: r => by simp [blkL, blkL_map r]
theorem blkBs_map : ∀ l : List (List T), blkBs l = l.map fun b => chain (b.map blkT)
  | [] => by simp [blkBs]
  | b :: r => by simp [blkBs, blkBs_map r, blkL_map]
theorem wfL_all (n : Nat) : ∀ l : List T, wfL n l ↔ ∀ t ∈ l, wfT n t
  | [] => by simp [wfL]
  | t :: r => by simp [wfL, wfL_all n r]
theorem wfBs_all (n : Nat) : ∀ l : List (List T), wfBs n l ↔ ∀ b ∈ l, ∀ t ∈ b, wfT n t
  | [] => by simp [wfBs]
  | b :: r => by simp [wfBs, wfBs_all n r, wfL_all]
/-- a body as a block -/
def blkB (b : List T) : Block := chain (b.map blkT)
theorem both_ne (x : Block) : ∀ l : List Block, l ≠ [] → l.foldl Block.both x ≠ .skip
  | [], h => absurd rfl h
  | [y], _ => by intro z; cases z
  | y :: z :: r, _ => by
    rw [List.foldl_cons]
    exact both_ne _ (z :: r) (by simp)
theorem seq_ne (x : Block) : ∀ l : List Block, l ≠ [] → l.foldl Block.seq x ≠ .skip
  | [], h => absurd rfl h
  | [y], _ => by intro z; cases z
  | y :: z :: r, _ => by
    rw [List.foldl_cons]
    exact seq_ne _ (z :: r) (by simp)
theorem blkT_ne {n : Nat} {t : T} (h : wfT n t) : blkT t ≠ .skip := by
  obtain ⟨w, i, th, bs⟩ := t
  unfold wfT at h
  unfold blkT
  rw [blkBs_map]
  have hw := h.2
  cases w with
  | do_ => intro z; cases z
  | use => intro z; cases z
  | recipe => exact absurd hw id
  | if_ =>
    match bs, hw with
    | [a, b], _ => intro z; cases z
  | either =>
    match bs, hw with
    | [a, b], _ => intro z; cases z
  | again =>
    match bs, hw with
    | [a], _ => intro z; cases z
  | both =>
    match bs, hw with
    | a :: b :: r, _ => exact both_ne _ _ (by simp)
theorem chain_ne {l : List Block} (h : ∀ x ∈ l, x ≠ .skip) (hl : l ≠ []) : chain l ≠ .skip := by
  cases l with
  | nil => exact absurd rfl hl
  | cons x r =>
    cases r with
    | nil => exact h x (List.mem_cons_self ..)
    | cons y r => exact seq_ne _ _ (by simp)
theorem seqOf_chain {l : List Block} {y : Block} (h : ∀ x ∈ l, x ≠ .skip) (hy : y ≠ .skip) : seqOf (chain l) y = chain (l ++ [y]) := by
  cases l with
  | nil => unfold chain seqOf; rfl
  | cons x r =>
    have hne := chain_ne h (by simp)
    have e : seqOf (chain (x :: r)) y = .seq (chain (x :: r)) y := by
      unfold seqOf
      split
      · rename_i e; exact absurd e hne
      · split
        · exact absurd rfl hy
        · rfl
    rw [e, List.cons_append, ← List.cons_append, chain_snoc]
theorem blkB_snoc {n : Nat} {b : List T} {y : T} (h : ∀ t ∈ b, wfT n t) (hy : wfT n y) : seqOf (blkB b) (blkT y) = blkB (b ++ [y]) := by
  unfold blkB
  rw [seqOf_chain (fun x hx => ?_) (blkT_ne hy), List.map_append]
  · rfl
  · obtain ⟨t, ht, rfl⟩ := List.mem_map.mp hx
    exact blkT_ne (h t ht)
/-! ### things -/
def szF (done : List Block) (x : Block) : Nat := Vbwbab.size (Vbwbab.flat done x)
theorem flat_seqs (done : List Block) : ∀ (l : List Block) (x : Block), Vbwbab.flat done (l.foldl .seq x) = (l.map (Vbwbab.flat done)).foldl .seq (Vbwbab.flat done x)
  | [], x => rfl
  | y :: r, x => by
    rw [List.foldl_cons, flat_seqs done r]
    rfl
theorem flat_chain (done : List Block) (l : List Block) (h : l ≠ []) : Vbwbab.flat done (chain l) = chain (l.map (Vbwbab.flat done)) := by
  cases l with
  | nil => exact absurd rfl h
  | cons x r => exact flat_seqs done r x
theorem flat_chain' (done : List Block) (l : List Block) : Vbwbab.flat done (chain l) = chain (l.map (Vbwbab.flat done)) := by
  cases l with
  | nil => rfl
  | cons x r => exact flat_seqs done r x
theorem size_seqs : ∀ (l : List Block) (x : Block), Vbwbab.size (l.foldl .seq x) = Vbwbab.size x + (l.map Vbwbab.size).sum
  | [], x => by simp
  | y :: r, x => by
    rw [List.foldl_cons, size_seqs r, List.map_cons, List.sum_cons]
    simp only [Vbwbab.size]; omega
theorem size_chain (l : List Block) : Vbwbab.size (chain l) = if l = [] then 1 else (l.map Vbwbab.size).sum := by
  cases l with
  | nil => rfl
  | cons x r =>
    rw [if_neg (by simp)]
    exact size_seqs r x
theorem flat_boths (done : List Block) : ∀ (l : List Block) (x : Block), Vbwbab.flat done (l.foldl .both x) = (l.map (Vbwbab.flat done)).foldl .both (Vbwbab.flat done x)
  | [], x => rfl
  | y :: r, x => by
    rw [List.foldl_cons, flat_boths done r]
    rfl
theorem size_boths : ∀ (l : List Block) (x : Block), Vbwbab.size (l.foldl .both x) = Vbwbab.size x + (l.map Vbwbab.size).sum + l.length
  | [], x => by simp
  | y :: r, x => by
    rw [List.foldl_cons, size_boths r, List.map_cons, List.sum_cons, List.length_cons]
    simp only [Vbwbab.size]; omega
structure OkT (done : List Block) (y : T) : Prop where
  wf : wfT done.length y
  th : y.things = szF done (blkT y)
theorem thBody_ok {done : List Block} {b : List T} (h : ∀ y ∈ b, OkT done y) : thBody b = szF done (blkB b) := by
  unfold szF blkB
  rw [flat_chain', size_chain]
  unfold thBody
  by_cases e : b = []
  · subst e; rfl
  · rw [if_neg e, if_neg (by simpa using e), List.map_map, List.map_map]
    congr 1
    refine List.map_congr_left fun y hy => ?_
    exact (h y hy).th
theorem counted_sum (bs : List (List T)) : ((bs.map fun b => match b with | [] => 1 | x :: r => ((x :: r).map T.things).sum).sum) = (bs.map thBody).sum := by
  congr 1
  refine List.map_congr_left fun b _ => ?_
  cases b <;> rfl
theorem bodies_ok {done : List Block} {bs : List (List T)} (h : ∀ b ∈ bs, ∀ y ∈ b, OkT done y) : (bs.map thBody).sum = (bs.map fun b => szF done (blkB b)).sum := by
  congr 1
  exact List.map_congr_left fun b hb => thBody_ok (h b hb)
theorem blkT_mk (w : Wd) (n h : Nat) (bs : List (List T)) : blkT (.mk w n h bs) = (match w, bs.map blkB with
    | .do_, _ => .step n
    | .use, _ => .call n
    | .if_, [x, y] => .cond n x y
    | .either, [x, y] => .either x y
    | .both, x :: l => l.foldl .both x
    | .again, [x] => .loop x n
    | _, _ => .skip) := by
  unfold blkT
  rw [blkBs_map]
  rfl
def addTh (w : Wd) (n : Nat) : Nat := match w with | .both => n - 1 | .recipe => 0 | _ => 1
theorem counted_eq (w : Wd) (n h : Nat) (bs : List (List T)) : (T.mk w n h bs).counted = .mk w n ((bs.map thBody).sum + addTh w bs.length) bs :=
  congrArg (fun z => T.mk w n (z + addTh w bs.length) bs) (counted_sum bs)
/-- a part whose bodies are whole, counted -/
theorem counted_ok {done : List Block} {w : Wd} {n h : Nat} {bs : List (List T)} (hb : ∀ b ∈ bs, ∀ y ∈ b, OkT done y) (hw : (w = .if_ ∧ bs.length = 2) ∨ (w = .either ∧ bs.length = 2) ∨ (w = .both ∧ 2 ≤ bs.length) ∨ (w = .again ∧ bs.length = 1)) :
    OkT done (T.mk w n h bs).counted ∧ blkT (T.mk w n h bs).counted = blkT (.mk w n h bs) := by
  have hwf : wfBs done.length bs := (wfBs_all _ _).mpr fun b hb2 t ht => (hb b hb2 t ht).wf
  refine ⟨⟨?_, ?_⟩, by rw [counted_eq, blkT_mk, blkT_mk]⟩
  · rw [counted_eq]
    unfold wfT
    refine ⟨hwf, ?_⟩
    rcases hw with ⟨rfl, e⟩ | ⟨rfl, e⟩ | ⟨rfl, e⟩ | ⟨rfl, e⟩ <;> exact e
  · rw [counted_eq, bodies_ok hb, blkT_mk]
    show (bs.map fun b => szF done (blkB b)).sum + addTh w bs.length = _
    rcases hw with ⟨rfl, e⟩ | ⟨rfl, e⟩ | ⟨rfl, e⟩ | ⟨rfl, e⟩
    · match bs, e with
      | [a, b], _ => simp [szF, Vbwbab.flat, Vbwbab.size, addTh]; try omega
    · match bs, e with
      | [a, b], _ => simp [szF, Vbwbab.flat, Vbwbab.size, addTh]; try omega
    · match bs, e with
      | a :: b :: r, _ =>
        simp only [List.map_cons, List.length_cons]
        unfold szF
        rw [flat_boths, size_boths]
        simp only [List.map_cons, List.map_map, List.sum_cons, List.length_cons, List.length_map]
        simp only [Function.comp_def, addTh]
        omega
    · match bs, e with
      | [a], _ => simp [szF, Vbwbab.flat, Vbwbab.size, addTh]
/-! ### whether an either is in it -/
def eiT (y : T) : Bool := Vbwbzz.hasEither (blkT y)
theorem ei_seqs : ∀ (l : List Block) (x : Block), Vbwbzz.hasEither (l.foldl .seq x) = (Vbwbzz.hasEither x || l.any Vbwbzz.hasEither)
  | [], x => by simp
  | y :: r, x => by
    rw [List.foldl_cons, ei_seqs r, List.any_cons]
    simp only [Vbwbzz.hasEither, Bool.or_assoc]
theorem ei_boths : ∀ (l : List Block) (x : Block), Vbwbzz.hasEither (l.foldl .both x) = (Vbwbzz.hasEither x || l.any Vbwbzz.hasEither)
  | [], x => by simp
  | y :: r, x => by
    rw [List.foldl_cons, ei_boths r, List.any_cons]
    simp only [Vbwbzz.hasEither, Bool.or_assoc]
theorem ei_chain (l : List Block) : Vbwbzz.hasEither (chain l) = l.any Vbwbzz.hasEither := by
  cases l with
  | nil => rfl
  | cons x r => exact ei_seqs r x
theorem ei_body (b : List T) : Vbwbzz.hasEither (blkB b) = b.any eiT := by
  unfold blkB
  rw [ei_chain, List.any_map]; rfl
end Bm
end

section
set_option autoImplicit false
/-! The specification's book and the machine's. -/
namespace Bm
open Bw
open Vbwbzz (Bytes)
open Vbwbab (Toks Book Block andThen seqOf)
structure RelK (k : Book) (kb : Bk) : Prop where
  conds : k.conds = kb.conds
  steps : kb.steps = k.steps.map fun s => (s.name, s.least, s.most)
  names : kb.names = Vbwbab.recipeNames k
  th : ∀ i nm u, kb.recs[i]? = some (nm, u) → u.things = Vbwbab.size ((Vbwbab.flatAll k).getD i .skip)
  ls : kb.steps.length ≤ 30
  lc : kb.conds.length ≤ 12
theorem flatAll_same {k k' : Book} (h : k'.recipes = k.recipes) : Vbwbab.flatAll k' = Vbwbab.flatAll k := by unfold Vbwbab.flatAll; rw [h]
theorem flat_len : ∀ (l : List Vbwbab.Recipe) (a : List Block), (l.foldl (fun l r => l ++ [Vbwbab.flat l r.body]) a).length = a.length + l.length
  | [], a => by simp
  | r :: l, a => by rw [List.foldl_cons, flat_len l]; simp; omega
theorem flatAll_len (k : Book) : (Vbwbab.flatAll k).length = k.recipes.length := by
  unfold Vbwbab.flatAll
  rw [flat_len]; simp
theorem RelK.len {k : Book} {kb : Bk} (R : RelK k kb) : kb.recs.length = k.recipes.length := by
  have := congrArg List.length R.names
  unfold Bk.names Vbwbab.recipeNames at this
  simpa using this
theorem cond_cases {t : Toks} {ws : List Bytes} (h : Tk t ws) {k : Book} {kb : Bk} (R : RelK k kb) :
    ((∃ p, Vbwbab.aCond k t = .error p) ∧ ((∀ st nm, nextName ⟨ws, st, nm, kb⟩ = none) ∨ ∃ x ws', (∀ st nm, nextName ⟨ws, st, nm, kb⟩ = some (x, ⟨ws', st, nm, kb⟩)) ∧ condOf kb x = none)) ∨
    ∃ i k' t' x ws' kb', Vbwbab.aCond k t = .ok ((i, k'), t') ∧ ws = x :: ws' ∧ Tk t' ws' ∧ (∀ st nm, nextName ⟨ws, st, nm, kb⟩ = some (x, ⟨ws', st, nm, kb⟩)) ∧ condOf kb x = some (i, kb') ∧ RelK k' kb' ∧ k'.recipes = k.recipes ∧ kb'.recs = kb.recs ∧ kb'.ei = kb.ei := by
  rcases name_cases h with ⟨⟨p, e⟩, hn⟩ | ⟨x, t', ws', e, rfl, h', hn⟩
  · refine .inl ⟨⟨p, ?_⟩, .inl fun st nm => hn st nm kb⟩
    unfold Vbwbab.aCond
    rw [e]; rfl
  · have ea : Vbwbab.aCond k t = (match Vbwbab.indexOf k.conds x with
      | some i => .ok ((i, k), t')
      | none => if Vbwbab.CONDS ≤ k.conds.length then .error (Vbwbab.place t) else .ok ((k.conds.length, { k with conds := k.conds ++ [x] }), t')) := by
      unfold Vbwbab.aCond
      rw [e]; rfl
    have ec : condOf kb x = (match Vbwbab.indexOf k.conds x with
      | some i => some (i, kb)
      | none => if k.conds.length = 12 then none else some (k.conds.length, { kb with conds := kb.conds ++ [x] })) := by
      unfold condOf idx
      rw [← R.conds] <;> rfl
    rw [ea]
    cases e2 : Vbwbab.indexOf k.conds x with
    | some i =>
      rw [e2] at ec
      exact .inr ⟨i, k, t', x, ws', kb, rfl, rfl, h', fun st nm => hn st nm kb, ec, R, rfl, rfl, rfl⟩
    | none =>
      rw [e2] at ec
      have hl := R.lc
      rw [← R.conds] at hl
      dsimp only at ec ⊢
      by_cases c : k.conds.length = 12
      · rw [if_pos c] at ec
        rw [if_pos (by show 12 ≤ _; omega)]
        exact .inl ⟨⟨_, rfl⟩, .inr ⟨x, ws', fun st nm => hn st nm kb, ec⟩⟩
      · rw [if_neg c] at ec
        rw [if_neg (by show ¬ 12 ≤ _; omega)]
        refine .inr ⟨_, _, t', x, ws', _, rfl, rfl, h', fun st nm => hn st nm kb, ec, ⟨?_, R.steps, R.names, R.th, R.ls, ?_⟩, rfl, rfl, rfl⟩
        · show k.conds ++ [x] = kb.conds ++ [x]; rw [R.conds]
        · show (kb.conds ++ [x]).length ≤ 12
          rw [← R.conds, List.length_append, List.length_singleton]; omega
theorem snames_eq {k : Book} {kb : Bk} (R : RelK k kb) : kb.snames = Vbwbab.stepNames k := by
  unfold Bk.snames Vbwbab.stepNames
  rw [R.steps, List.map_map]; rfl
/-- what the specification reads of a step -/
def specStep (k : Book) (t : Toks) : Vbwbab.Read (Nat × Book) := andThen (Vbwbab.aName t) fun m u => Vbwbab.aStep k m (Vbwbab.place t) u
theorem specStep_then (k : Book) (t : Toks) {α : Type} (F : Nat × Book → Toks → Vbwbab.Read α) : andThen (Vbwbab.aName t) (fun m u => andThen (Vbwbab.aStep k m (Vbwbab.place t) u) F) = andThen (specStep k t) F := by
  unfold specStep
  cases Vbwbab.aName t <;> rfl
/-- the times that may follow -/
theorem times_cases {t : Toks} {ws : List Bytes} (h : Tk t ws) : (Vbwbab.isKey t "takes" = true ∧ ∃ t' ws', ws = kw "takes" :: ws' ∧ t.drop 1 = t' ∧ Tk t' ws') ∨ (Vbwbab.isKey t "takes" = false ∧ ws.head? ≠ some (kw "takes")) := by
  cases ws with
  | nil => exact .inr ⟨isKey_nil h (by decide), by simp⟩
  | cons w ws =>
    obtain ⟨p, t', rfl, h', hw⟩ := h.cons
    by_cases e : w = kw "takes"
    · subst e
      exact .inl ⟨by rw [isKey_cons]; simp, t', ws, rfl, rfl, h'⟩
    · exact .inr ⟨by rw [isKey_cons]; simpa using e, by simpa using e⟩
theorem step_cases {t : Toks} {ws : List Bytes} (h : Tk t ws) {k : Book} {kb : Bk} (R : RelK k kb) :
    ((∃ p, specStep k t = .error p) ∧ ∀ st nm, readStep ⟨ws, st, nm, kb⟩ = none) ∨
    ∃ i k' t' ws' kb', specStep k t = .ok ((i, k'), t') ∧ Tk t' ws' ∧ ws'.length < ws.length ∧ (∀ st nm, readStep ⟨ws, st, nm, kb⟩ = addPart (.mk .do_ i 1 []) ⟨ws', st, nm, kb'⟩) ∧ RelK k' kb' ∧ k'.recipes = k.recipes ∧ kb'.recs = kb.recs ∧ kb'.ei = kb.ei := by
  rcases name_cases h with ⟨⟨p, e⟩, hn⟩ | ⟨x, t1, ws1, e, rfl, h1, hn⟩
  · refine .inl ⟨⟨p, by unfold specStep; rw [e]; rfl⟩, fun st nm => ?_⟩
    unfold readStep
    rw [hn]
  have es : specStep k t = Vbwbab.aStep k x (Vbwbab.place t) t1 := by unfold specStep; rw [e]; rfl
  have hls := R.ls
  have hlen : kb.steps.length = k.steps.length := by rw [R.steps, List.length_map]
  have sS : ∀ {i} (tm : Option (Nat × Nat)), Vbwbab.indexOf (Vbwbab.stepNames k) x = some i → stepOf kb x tm = (match tm with
        | none => some (i, kb)
        | some p => if (kb.steps[i]?.map (·.2)) = some p then some (i, kb) else none) := fun tm e4 => by
    unfold stepOf idx
    rw [snames_eq R, e4] <;> rfl
  have sN : ∀ (tm : Option (Nat × Nat)), Vbwbab.indexOf (Vbwbab.stepNames k) x = none → stepOf kb x tm = if kb.steps.length = 30 then none else some (kb.steps.length, { kb with steps := kb.steps ++ [(x, tm.getD (0, 0))] }) := fun tm e4 => by
    unfold stepOf idx
    rw [snames_eq R, e4]
  have addR : ∀ lo hi, kb.steps.length ≠ 30 → RelK { k with steps := k.steps ++ [⟨x, lo, hi⟩] } { kb with steps := kb.steps ++ [(x, (lo, hi))] } := fun lo hi hne =>
    ⟨R.conds, by show kb.steps ++ _ = (k.steps ++ _).map _; rw [List.map_append, R.steps]; rfl, R.names, R.th, by show (kb.steps ++ _).length ≤ 30; rw [List.length_append, List.length_singleton]; omega, R.lc⟩
  rw [es]
  rcases times_cases h1 with ⟨k1, t2, ws2, rfl, e0, h2⟩ | ⟨k1, k2⟩
  · -- times are told
    rcases num_cases h2 0 with ⟨⟨p, e1⟩, n1⟩ | ⟨lo, t3, w3, ws3, e1, rfl, h3, n1⟩
    · refine .inl ⟨?_, fun st nm => by simp only [readStep, hn, List.head?_cons, if_true, expect_cons, n1]⟩
      cases e2 : Vbwbab.indexOf (Vbwbab.stepNames k) x with
      | some i => simp only [Vbwbab.aStep, e2, k1, if_true, e0, e1, andThen]; exact ⟨p, rfl⟩
      | none =>
        simp only [Vbwbab.aStep, e2, k1, if_true, e0, e1, andThen]
        split <;> exact ⟨_, rfl⟩
    rcases key_cases h3 (s := "to") (by decide) with ⟨⟨p, e2⟩, n2⟩ | ⟨t4, ws4, e2, rfl, h4⟩
    · refine .inl ⟨?_, fun st nm => by simp only [readStep, hn, List.head?_cons, if_true, expect_cons, n1, expect_no n2]⟩
      cases e3 : Vbwbab.indexOf (Vbwbab.stepNames k) x with
      | some i => simp only [Vbwbab.aStep, e3, k1, if_true, e0, e1, e2, andThen]; split <;> exact ⟨_, rfl⟩
      | none => simp only [Vbwbab.aStep, e3, k1, if_true, e0, e1, e2, andThen]; split <;> exact ⟨_, rfl⟩
    rcases num_cases h4 lo with ⟨⟨p, e3⟩, n3⟩ | ⟨hi, t5, w5, ws5, e3, rfl, h5, n3⟩
    · refine .inl ⟨?_, fun st nm => by simp only [readStep, hn, List.head?_cons, if_true, expect_cons, n1, n3]⟩
      cases e4 : Vbwbab.indexOf (Vbwbab.stepNames k) x with
      | some i => simp only [Vbwbab.aStep, e4, k1, if_true, e0, e1, e2, e3, andThen]; split <;> exact ⟨_, rfl⟩
      | none => simp only [Vbwbab.aStep, e4, k1, if_true, e0, e1, e2, e3, andThen]; split <;> exact ⟨_, rfl⟩
    have er3 : ∀ st nm, readStep ⟨x :: kw "takes" :: w3 :: kw "to" :: w5 :: ws5, st, nm, kb⟩ = (match stepOf kb x (some (lo, hi)) with
        | none => none
        | some (i, k) => addPart (.mk .do_ i 1 []) ⟨ws5, st, nm, k⟩) := fun st nm => by
      simp only [readStep, hn, List.head?_cons, if_true, expect_cons, n1, n3] <;> cases stepOf kb x (some (lo, hi)) <;> rfl
    have lw : ws5.length < (x :: kw "takes" :: w3 :: kw "to" :: w5 :: ws5).length := by simp only [List.length_cons]; omega
    cases e4 : Vbwbab.indexOf (Vbwbab.stepNames k) x with
    | some i =>
      have hs := sS (some (lo, hi)) e4
      have hi2 : i < k.steps.length := by
        unfold Vbwbab.indexOf at e4
        split at e4
        · rename_i hc
          cases e4
          have := List.findIdx_lt_length_of_exists (p := fun z => z == x) (xs := Vbwbab.stepNames k) ⟨x, List.contains_iff_mem.mp hc, by simp⟩
          unfold Vbwbab.stepNames at this ⊢
          rw [List.length_map] at this
          exact this
        · cases e4
      have gk : k.steps[i]? = some k.steps[i] := List.getElem?_eq_getElem hi2
      have gkb : kb.steps[i]?.map (·.2) = some ((k.steps[i]).least, (k.steps[i]).most) := by
        rw [R.steps, List.getElem?_map, gk]; rfl
      simp only [gkb] at hs
      simp only [Vbwbab.aStep, e4, k1, if_true, e0, e1, e2, e3, andThen, gk, Option.getD_some]
      by_cases c1 : lo = (k.steps[i]).least
      · rw [if_neg (by simpa using c1)]
        by_cases c2 : hi = (k.steps[i]).most
        · rw [if_neg (by simpa using c2)]
          refine .inr ⟨i, k, t5, ws5, kb, rfl, h5, lw, fun st nm => ?_, R, rfl, rfl, rfl⟩
          rw [er3, hs, if_pos (by rw [c1, c2])]
        · rw [if_pos (by simpa using c2)]
          refine .inl ⟨⟨_, rfl⟩, fun st nm => ?_⟩
          rw [er3, hs, if_neg]
          intro z
          exact c2 (Prod.mk.inj (Option.some.inj z)).2.symm
      · rw [if_pos (by simpa using c1)]
        refine .inl ⟨⟨_, rfl⟩, fun st nm => ?_⟩
        rw [er3, hs, if_neg]
        intro z
        exact c1 (Prod.mk.inj (Option.some.inj z)).1.symm
    | none =>
      have hs := sN (some (lo, hi)) e4
      simp only [Vbwbab.aStep, e4, k1, if_true, e0, e1, e2, e3, andThen]
      by_cases c : kb.steps.length = 30
      · rw [if_pos (by show 30 ≤ _; omega)]
        rw [if_pos c] at hs
        exact .inl ⟨⟨_, rfl⟩, fun st nm => by rw [er3, hs]⟩
      · rw [if_neg (by show ¬ 30 ≤ _; omega)]
        rw [if_neg c] at hs
        refine .inr ⟨_, _, t5, ws5, _, rfl, h5, lw, fun st nm => ?_, addR lo hi c, rfl, rfl, rfl⟩
        rw [er3, hs]
        simp only [Option.getD_some, hlen]
  · -- none are told
    have er2 : ∀ st nm, readStep ⟨x :: ws1, st, nm, kb⟩ = (match stepOf kb x none with
      | none => none
      | some (i, k) => addPart (.mk .do_ i 1 []) ⟨ws1, st, nm, k⟩) := fun st nm => by
      simp only [readStep, hn, if_neg k2] <;> cases stepOf kb x none <;> rfl
    have lw : ws1.length < (x :: ws1).length := by simp
    cases e4 : Vbwbab.indexOf (Vbwbab.stepNames k) x with
    | some i =>
      have hs := sS none e4
      simp only [Vbwbab.aStep, e4, k1, Bool.false_eq_true, if_false]
      exact .inr ⟨i, k, t1, ws1, kb, rfl, h1, lw, fun st nm => by rw [er2, hs], R, rfl, rfl, rfl⟩
    | none =>
      have hs := sN none e4
      simp only [Vbwbab.aStep, e4, k1, Bool.false_eq_true, if_false]
      by_cases c : kb.steps.length = 30
      · rw [if_pos (by show 30 ≤ _; omega)]
        rw [if_pos c] at hs
        exact .inl ⟨⟨_, rfl⟩, fun st nm => by rw [er2, hs]⟩
      · rw [if_neg (by show ¬ 30 ≤ _; omega)]
        rw [if_neg c] at hs
        refine .inr ⟨_, _, t1, ws1, _, rfl, h1, lw, fun st nm => ?_, addR 0 0 c, rfl, rfl, rfl⟩
        rw [er2, hs]
        simp only [Option.getD_none, hlen]
end Bm
end

section
set_option autoImplicit false
/-! A body read: the specification's descent and the machine's turns come to the same. -/
namespace Bm
open Bw
open Vbwbzz (Bytes)
open Vbwbab (Toks Book Block andThen seqOf)
theorem addLast_snoc (x : T) (b : List T) : ∀ bs : List (List T), addLast (bs ++ [b]) x = bs ++ [b ++ [x]]
  | [] => rfl
  | [c] => rfl
  | c :: d :: r => by
    have ih := addLast_snoc x b (d :: r)
    show c :: addLast ((d :: r) ++ [b]) x = _
    rw [ih]; rfl
theorem addPart_snoc (x : T) (ws : List Bytes) (w : Wd) (m h : Nat) (bs : List (List T)) (b : List T) (s : List T) (nm : Bytes) (kb : Bk) : addPart x ⟨ws, .mk w m h (bs ++ [b]) :: s, nm, kb⟩ = some ⟨ws, .mk w m h (bs ++ [b ++ [x]]) :: s, nm, kb⟩ := by
  show some _ = some _
  rw [addLast_snoc]
section
variable (r : RS)
theorem goOn_do : goOn (kw "do") r = readStep r := by unfold goOn; rw [if_pos rfl]
theorem goOn_use : goOn (kw "use") r = readUse r := by unfold goOn; rw [if_neg (by decide), if_pos rfl]
theorem goOn_again : goOn (kw "again") r = beginPart .again r := by unfold goOn; rw [if_neg (by decide), if_neg (by decide), if_pos rfl]
theorem goOn_if : goOn (kw "if") r = beginPart .if_ r := by unfold goOn; rw [if_neg (by decide), if_neg (by decide), if_neg (by decide), if_pos rfl]
theorem goOn_either : goOn (kw "either") r = beginPart .either r := by unfold goOn; rw [if_neg (by decide), if_neg (by decide), if_neg (by decide), if_neg (by decide), if_pos rfl]
theorem goOn_both : goOn (kw "both") r = beginPart .both r := by unfold goOn; rw [if_neg (by decide), if_neg (by decide), if_neg (by decide), if_neg (by decide), if_neg (by decide), if_pos rfl]
theorem goOn_until : goOn (kw "until") r = endAgain r := by unfold goOn; rw [if_neg (by decide), if_neg (by decide), if_neg (by decide), if_neg (by decide), if_neg (by decide), if_neg (by decide), if_pos rfl]
theorem goOn_end : goOn (kw "end") r = endPart r := by unfold goOn; rw [if_neg (by decide), if_neg (by decide), if_neg (by decide), if_neg (by decide), if_neg (by decide), if_neg (by decide), if_neg (by decide), if_pos rfl]
theorem goOn_else : goOn (kw "else") r = beginBody (kw "else") r := by unfold goOn; rw [if_neg (by decide), if_neg (by decide), if_neg (by decide), if_neg (by decide), if_neg (by decide), if_neg (by decide), if_neg (by decide), if_neg (by decide)]
theorem goOn_or : goOn (kw "or") r = beginBody (kw "or") r := by unfold goOn; rw [if_neg (by decide), if_neg (by decide), if_neg (by decide), if_neg (by decide), if_neg (by decide), if_neg (by decide), if_neg (by decide), if_neg (by decide)]
theorem goOn_and : goOn (kw "and") r = beginBody (kw "and") r := by unfold goOn; rw [if_neg (by decide), if_neg (by decide), if_neg (by decide), if_neg (by decide), if_neg (by decide), if_neg (by decide), if_neg (by decide), if_neg (by decide)]
end
/-- no item begins here -/
def Stop (ws : List Bytes) (kb : Bk) : Prop := ∀ x, ws.head? = some x → x ≠ kw "do" ∧ x ≠ kw "if" ∧ x ≠ kw "either" ∧ x ≠ kw "both" ∧ x ≠ kw "again" ∧ (x = kw "use" → kb.recs = [])
theorem stop_fail {ws : List Bytes} {w : Wd} {m h : Nat} {bs : List (List T)} {s : List T} {nm : Bytes} {kb : Bk} (hs : Stop ws kb)
    (h1 : ws.head? = some (kw "until") → w ≠ .again) (h2 : ws.head? = some (kw "end") → w = .again ∨ ((betw w).isSome = true ∧ bs.length < 2))
    (h3 : ∀ x, ws.head? = some x → betw w = some x → w ≠ .both ∧ bs.length = 2) : fin ⟨ws, .mk w m h bs :: s, nm, kb⟩ = none := by
  cases ws with
  | nil => rw [fin_nil rfl]; simp
  | cons x t =>
    rw [fin_word]
    obtain ⟨n1, n2, n3, n4, n5, n6⟩ := hs x rfl
    unfold goOn
    rw [if_neg n1]
    by_cases c1 : x = kw "use"
    · rw [if_pos c1]
      have e := n6 c1
      unfold readUse
      cases e2 : nextName ⟨t, .mk w m h bs :: s, nm, kb⟩ with
      | none => rfl
      | some y =>
        obtain ⟨a, r1⟩ := y
        have eb : r1.bk = kb := by
          unfold nextName nextWord at e2
          cases t with
          | nil => cases e2
          | cons c t =>
            dsimp only at e2
            split at e2
            · cases e2; rfl
            · cases e2
        dsimp only
        have : idx r1.bk.names a = none := by
          rw [eb]
          unfold idx Bk.names
          rw [e]; rfl
        rw [this]; rfl
    rw [if_neg c1, if_neg n5, if_neg n2, if_neg n3, if_neg n4]
    by_cases c2 : x = kw "until"
    · rw [if_pos c2]
      have := h1 (by rw [c2]; rfl)
      unfold endAgain
      dsimp only
      rw [if_pos this]; rfl
    rw [if_neg c2]
    by_cases c3 : x = kw "end"
    · rw [if_pos c3]
      have := h2 (by rw [c3]; rfl)
      unfold endPart
      dsimp only
      rw [if_pos this]; rfl
    rw [if_neg c3]
    unfold beginBody
    dsimp only
    by_cases c4 : betw w = some x
    · obtain ⟨g1, g2⟩ := h3 x rfl c4
      rw [if_neg (by simpa using c4), if_pos ⟨g1, g2⟩]; rfl
    · rw [if_pos c4]; rfl
/-- what comes of a body -/
structure Outs (k : Book) (kb : Bk) (L : Nat) (w : Wd) (m h : Nat) (bs : List (List T)) (b : List T) (s : List T) (nm : Bytes) (f0 : Option Bk) (x : Block) (k' : Book) (t' : Toks) : Prop where
  ex : ∃ ys ws' kb', Tk t' ws' ∧ ws'.length ≤ L ∧ f0 = fin ⟨ws', .mk w m h (bs ++ [b ++ ys]) :: s, nm, kb'⟩ ∧ RelK k' kb' ∧ k'.recipes = k.recipes ∧ kb'.recs = kb.recs ∧ x = blkB (b ++ ys) ∧ (∀ y ∈ ys, OkT (Vbwbab.flatAll k) y) ∧ kb'.ei = (kb.ei || ys.any eiT) ∧ Stop ws' kb'
def Out (k : Book) (kb : Bk) (L : Nat) (w : Wd) (m h : Nat) (bs : List (List T)) (b : List T) (s : List T) (nm : Bytes) (f0 : Option Bk) (res : Vbwbab.Read (Block × Book)) : Prop := match res with
  | .error _ => f0 = none
  | .ok x => Outs k kb L w m h bs b s nm f0 x.1.1 x.1.2 x.2
theorem Out.more {k k1 : Book} {kb kb1 : Bk} {L L1 : Nat} {w : Wd} {m h : Nat} {bs : List (List T)} {b : List T} {s : List T} {nm : Bytes} {f0 f1 : Option Bk} {res : Vbwbab.Read (Block × Book)} {y : T} (hy : OkT (Vbwbab.flatAll k) y)
    (hk : k1.recipes = k.recipes) (hr : kb1.recs = kb.recs) (he : kb1.ei = (kb.ei || eiT y)) (hf : f0 = f1) (hL : L1 ≤ L) (o : Out k1 kb1 L1 w m h bs (b ++ [y]) s nm f1 res) : Out k kb L w m h bs b s nm f0 res := by
  unfold Out at o ⊢
  cases res with
  | error p => rw [hf]; exact o
  | ok x =>
    obtain ⟨ys, ws', kb', h1, h2, h3, h4, h5, h6, h7, h8, h9, h10⟩ := o.ex
    rw [flatAll_same hk] at h8
    refine ⟨y :: ys, ws', kb', h1, Nat.le_trans h2 hL, ?_, h4, h5.trans hk, h6.trans hr, ?_, ?_, ?_, h10⟩
    · rw [hf, h3, List.append_assoc]; rfl
    · rw [h7, List.append_assoc]; rfl
    · intro z hz
      rcases List.mem_cons.mp hz with e | hz
      · subst e; exact hy
      · exact h8 z hz
    · rw [h9, he, List.any_cons, Bool.or_assoc]
def P0 (n : Nat) : Prop := ∀ (k : Book) (t : Toks) (ws : List Bytes) (kb : Bk) (w : Wd) (m h : Nat) (bs : List (List T)) (b : List T) (s : List T) (nm : Bytes), Tk t ws → ws.length < n → RelK k kb → (∀ y ∈ b, wfT (Vbwbab.flatAll k).length y) →
  Out k kb ws.length w m h bs b s nm (fin ⟨ws, .mk w m h (bs ++ [b]) :: s, nm, kb⟩) (Vbwbab.body n 0 k (blkB b) t)
/-- what comes of the rest of a part -/
structure Outp (k : Book) (L : Nat) (w : Wd) (m h : Nat) (ps : List (List T)) (p : List T) (s : List T) (nm : Bytes) (recs : List (Bytes × T)) (e0 : Bool) (f0 : Option Bk) (x : Block) (k' : Book) (t' : Toks) : Prop where
  ex : ∃ y ws' kb', Tk t' ws' ∧ ws'.length ≤ L ∧ f0 = fin ⟨ws', .mk w m h (ps ++ [p ++ [y]]) :: s, nm, kb'⟩ ∧ RelK k' kb' ∧ k'.recipes = k.recipes ∧ kb'.recs = recs ∧ x = blkT y ∧ OkT (Vbwbab.flatAll k) y ∧ kb'.ei = (e0 || eiT y)
def Oup (k : Book) (L : Nat) (w : Wd) (m h : Nat) (ps : List (List T)) (p : List T) (s : List T) (nm : Bytes) (recs : List (Bytes × T)) (e0 : Bool) (f0 : Option Bk) (res : Vbwbab.Read (Block × Book)) : Prop := match res with
  | .error _ => f0 = none
  | .ok x => Outp k L w m h ps p s nm recs e0 f0 x.1.1 x.1.2 x.2
def bothB (bs : List (List T)) : Block := blkT (.mk .both 0 0 bs)
def P1 (n : Nat) : Prop := ∀ (k : Book) (t : Toks) (ws : List Bytes) (kb : Bk) (bs : List (List T)) (w : Wd) (m h : Nat) (ps : List (List T)) (p : List T) (s : List T) (nm : Bytes) (e0 : Bool), Tk t ws → ws.length < n → RelK k kb → 2 ≤ bs.length → (∀ b ∈ bs, ∀ y ∈ b, OkT (Vbwbab.flatAll k) y) →
  kb.ei = (e0 || (bs.flatten).any eiT) → Stop ws kb → Oup k ws.length w m h ps p s nm kb.recs e0 (fin ⟨ws, .mk .both 0 0 bs :: .mk w m h (ps ++ [p]) :: s, nm, kb⟩) (Vbwbab.body n 1 k (bothB bs) t)
theorem putAway_item {ws : List Bytes} {v w : Wd} {i j m h : Nat} {bs ps : List (List T)} {p : List T} {s : List T} {nm : Bytes} {kb : Bk} (hv : v ≠ .recipe) :
    putAway ⟨ws, .mk v i j bs :: .mk w m h (ps ++ [p]) :: s, nm, kb⟩ = some ⟨ws, .mk w m h (ps ++ [p ++ [(T.mk v i j bs).counted]]) :: s, nm, kb⟩ := by
  show (if v = .recipe then _ else _) = _
  rw [if_neg hv]
  exact addPart_snoc _ _ _ _ _ _ _ _ _ _
/-- a part ended by end -/
theorem fin_end {ws : List Bytes} {v w : Wd} {i j m h : Nat} {bs ps : List (List T)} {p : List T} {s : List T} {nm : Bytes} {kb : Bk} (hv : v ≠ .recipe) (ha : v ≠ .again) (hb : 2 ≤ bs.length) :
    fin ⟨kw "end" :: ws, .mk v i j bs :: .mk w m h (ps ++ [p]) :: s, nm, kb⟩ = fin ⟨ws, .mk w m h (ps ++ [p ++ [(T.mk v i j bs).counted]]) :: s, nm, kb⟩ := by
  rw [fin_word, goOn_end]
  unfold endPart
  dsimp only
  rw [if_neg (by rintro (z | z); exact ha z; omega), putAway_item hv]
  rfl
theorem ei_both (i j : Nat) (bs : List (List T)) (h : 2 ≤ bs.length) : eiT (.mk .both i j bs) = (bs.flatten).any eiT := by
  match bs, h with
  | a :: b :: r, _ =>
    unfold eiT
    rw [blkT_mk]
    show Vbwbzz.hasEither (((b :: r).map blkB).foldl .both (blkB a)) = _
    rw [ei_boths, ei_body, List.any_map, List.flatten_cons, List.any_append]
    congr 1
    rw [List.any_flatten]
    congr 1
    funext b
    exact ei_body b
theorem bothB_snoc (bs : List (List T)) (ys : List T) (h : 1 ≤ bs.length) : bothB (bs ++ [ys]) = .both (bothB bs) (blkB ys) := by
  unfold bothB
  rw [blkT_mk, blkT_mk]
  match bs, h with
  | a :: r, _ =>
    show (((r ++ [ys]).map blkB).foldl Block.both (blkB a)) = .both ((r.map blkB).foldl .both (blkB a)) (blkB ys)
    rw [List.map_append, List.foldl_append]; rfl
theorem p1_step {n : Nat} (h0 : P0 n) (h1 : P1 n) : P1 (n + 1) := by
  intro k t ws kb bs w m h ps p s nm e0 hT hL R h2 hO hE hS
  have eb : Vbwbab.body (n + 1) 1 k (bothB bs) t = (if Vbwbab.isKey t "and" = true then andThen (Vbwbab.body n 0 k .skip (t.drop 1)) fun x u => Vbwbab.body n 1 x.2 (.both (bothB bs) x.1) u
       else andThen (Vbwbab.key "end" t) fun _ u => .ok ((bothB bs, k), u)) := by
    conv => lhs; unfold Vbwbab.body
    rw [if_pos rfl]
  rw [eb]
  cases ws with
  | nil =>
    rw [if_neg (by rw [isKey_nil hT (by decide)]; simp)]
    rcases key_cases hT (s := "end") (by decide) with ⟨⟨q, e⟩, n1⟩ | ⟨t', ws', e, e2, _⟩
    · rw [e]
      show fin _ = none
      rw [fin_nil rfl]; simp
    · cases e2
  | cons x ws =>
    obtain ⟨q, t', rfl, hT', hx⟩ := hT.cons
    by_cases c : x = kw "and"
    · subst c
      rw [if_pos (by rw [isKey_cons]; simp)]
      have ef : fin ⟨kw "and" :: ws, .mk .both 0 0 bs :: .mk w m h (ps ++ [p]) :: s, nm, kb⟩ = fin ⟨ws, .mk .both 0 0 (bs ++ [[]]) :: .mk w m h (ps ++ [p]) :: s, nm, kb⟩ := by
        rw [fin_word, goOn_and]
        unfold beginBody
        dsimp only
        rw [if_neg (by decide), if_neg (by rintro ⟨z, _⟩; exact z rfl)]
        rfl
      rw [ef]
      have o := h0 k t' ws kb .both 0 0 bs [] (.mk w m h (ps ++ [p]) :: s) nm hT' (by simp at hL; omega) R (by simp)
      show Oup k _ w m h ps p s nm kb.recs e0 _ (andThen (Vbwbab.body n 0 k (blkB []) t') _)
      unfold Out at o
      cases er : Vbwbab.body n 0 k (blkB []) t' with
      | error z => rw [er] at o; exact o
      | ok y =>
        obtain ⟨⟨bl, k1⟩, t1⟩ := y
        rw [er] at o
        obtain ⟨ys, ws1, kb1, g1, g2, g3, g4, g5, g6, g7, g8, g9, g10⟩ := o.ex
        rw [List.nil_append] at g3 g7
        rw [g3]
        show Oup k _ w m h ps p s nm kb.recs e0 _ (Vbwbab.body n 1 k1 (.both (bothB bs) bl) t1)
        have g7' : bl = blkB ys := g7
        rw [g7', ← bothB_snoc bs ys (by omega)]
        have o2 := h1 k1 t1 ws1 kb1 (bs ++ [ys]) w m h ps p s nm e0 g1 (by simp at hL; omega) g4 (by simp; omega) (by
          intro b hb y hy
          rw [flatAll_same g5]
          rcases List.mem_append.mp hb with hb | hb
          · exact hO b hb y hy
          · rw [List.mem_singleton] at hb; subst hb; exact g8 y hy) (by
          rw [g9, hE, List.flatten_append, List.any_append, Bool.or_assoc]; simp) g10
        unfold Oup at o2 ⊢
        cases er2 : Vbwbab.body n 1 k1 (bothB (bs ++ [ys])) t1 with
        | error z => rw [er2] at o2; exact o2
        | ok y =>
          rw [er2] at o2
          obtain ⟨y1, ws2, kb2, f1, f2, f3, f4, f5, f6, f7, f8, f9⟩ := o2.ex
          rw [flatAll_same g5] at f8
          exact ⟨y1, ws2, kb2, f1, by simp; omega, f3, f4, f5.trans g5, f6.trans g6, f7, f8, f9⟩
    · rw [if_neg (by rw [isKey_cons]; simpa using c)]
      rcases key_cases hT (s := "end") (by decide) with ⟨⟨z, e⟩, n1⟩ | ⟨t2, ws2, e, e2, hT2⟩
      · rw [e]
        show fin _ = none
        refine stop_fail hS (fun z => by intro y; cases y) (fun z => absurd z n1) (fun y hy hb => ?_)
        cases hy
        exact absurd (Option.some.inj hb).symm c
      · cases e2
        rw [e]
        refine ⟨(T.mk .both 0 0 bs).counted, ws, kb, hT2, by simp, fin_end (by decide) (by decide) h2, R, rfl, rfl, ?_, ?_, ?_⟩
        · exact ((counted_ok hO (.inr (.inr (.inl ⟨rfl, h2⟩)))).2).symm
        · exact (counted_ok hO (.inr (.inr (.inl ⟨rfl, h2⟩)))).1
        · rw [hE]
          congr 1
          rw [← ei_both 0 0 bs h2]
          unfold eiT
          rw [(counted_ok hO (.inr (.inr (.inl ⟨rfl, h2⟩)))).2]
end Bm
end

section
set_option autoImplicit false
/-! A body read, item by item. -/
namespace Bm
open Bw
open Vbwbzz (Bytes)
open Vbwbab (Toks Book Block andThen seqOf)
abbrev RB := Vbwbab.Read (Block × Book)
section
variable (n : Nat) (k : Book) (acc : Block) (t : Toks)
abbrev moreB (b : Block) (j : Book) (u : Toks) : RB := Vbwbab.body n 0 j (seqOf acc b) u
theorem body_eq : Vbwbab.body (n + 1) 0 k acc t =
    (if Vbwbab.isKey t "do" = true then andThen (Vbwbab.aName (t.drop 1)) fun m u => andThen (Vbwbab.aStep k m (Vbwbab.place (t.drop 1)) u) fun x v => moreB n acc (.step x.1) x.2 v
    else if Vbwbab.isKey t "if" = true then andThen (Vbwbab.aCond k (t.drop 1)) fun c u => andThen (Vbwbab.key "then" u) fun _ v => andThen (Vbwbab.body n 0 c.2 .skip v) fun a x => andThen (Vbwbab.key "else" x) fun _ y =>
      andThen (Vbwbab.body n 0 a.2 .skip y) fun b z => andThen (Vbwbab.key "end" z) fun _ e => moreB n acc (.cond c.1 a.1 b.1) b.2 e
    else if Vbwbab.isKey t "either" = true then andThen (Vbwbab.body n 0 k .skip (t.drop 1)) fun a u => andThen (Vbwbab.key "or" u) fun _ v => andThen (Vbwbab.body n 0 a.2 .skip v) fun b x => andThen (Vbwbab.key "end" x) fun _ y => moreB n acc (.either a.1 b.1) b.2 y
    else if Vbwbab.isKey t "both" = true then andThen (Vbwbab.body n 0 k .skip (t.drop 1)) fun a u => andThen (Vbwbab.key "and" u) fun _ v => andThen (Vbwbab.body n 0 a.2 .skip v) fun b x => andThen (Vbwbab.body n 1 b.2 (.both a.1 b.1) x) fun c y => moreB n acc c.1 c.2 y
    else if Vbwbab.isKey t "again" = true then andThen (Vbwbab.body n 0 k .skip (t.drop 1)) fun a u => andThen (Vbwbab.key "until" u) fun _ v => andThen (Vbwbab.aCond a.2 v) fun c x => andThen (Vbwbab.key "end" x) fun _ y => moreB n acc (.loop a.1 c.1) c.2 y
    else if Vbwbab.isKey t "use" = true ∧ k.recipes.isEmpty = false then andThen (Vbwbab.aName (t.drop 1)) fun m u => match Vbwbab.indexOf (Vbwbab.recipeNames k) m with
      | none => .error (Vbwbab.place (t.drop 1))
      | some i => moreB n acc (.call i) k u
    else .ok ((acc, k), t)) := by
  conv => lhs; unfold Vbwbab.body
  rw [if_neg (by decide)]
  rfl
end
section
variable {n : Nat} {k : Book} {kb : Bk} {w : Wd} {m h : Nat} {bs : List (List T)} {b : List T} {s : List T} {nm : Bytes}
/-- behind an item -/
theorem more_out (h0 : P0 n) {k1 : Book} {t1 : Toks} {ws1 : List Bytes} {kb1 : Bk} {y : T} {f0 : Option Bk} {L : Nat} (hT : Tk t1 ws1) (hL : ws1.length < n) (R1 : RelK k1 kb1) (hb : ∀ z ∈ b, wfT (Vbwbab.flatAll k).length z)
    (hy : OkT (Vbwbab.flatAll k) y) (hk : k1.recipes = k.recipes) (hr : kb1.recs = kb.recs) (he : kb1.ei = (kb.ei || eiT y)) (hf : f0 = fin ⟨ws1, .mk w m h (bs ++ [b ++ [y]]) :: s, nm, kb1⟩) (hLL : ws1.length ≤ L) :
    Out k kb L w m h bs b s nm f0 (moreB n (blkB b) (blkT y) k1 t1) := by
  have o := h0 k1 t1 ws1 kb1 w m h bs (b ++ [y]) s nm hT hL R1 (by
    rw [flatAll_same hk]
    intro z hz
    rcases List.mem_append.mp hz with hz | hz
    · exact hb z hz
    · rw [List.mem_singleton] at hz; subst hz; exact hy.wf)
  have e : moreB n (blkB b) (blkT y) k1 t1 = Vbwbab.body n 0 k1 (blkB (b ++ [y])) t1 := by
    show Vbwbab.body n 0 k1 (seqOf (blkB b) (blkT y)) t1 = _
    rw [blkB_snoc hb hy.wf]
  rw [e]
  exact Out.more hy hk hr he hf hLL o
/-- a part is begun: its first body -/
theorem sub_out (h0 : P0 n) {k1 : Book} {t1 : Toks} {ws1 : List Bytes} {kb1 : Bk} (v : Wd) (i j : Nat) (cs : List (List T)) (st : List T) (hT : Tk t1 ws1) (hL : ws1.length < n) (R1 : RelK k1 kb1) :
    (∃ p, Vbwbab.body n 0 k1 .skip t1 = .error p ∧ fin ⟨ws1, .mk v i j (cs ++ [[]]) :: st, nm, kb1⟩ = none) ∨
    ∃ k2 t2 ws2 kb2 ys, Vbwbab.body n 0 k1 .skip t1 = .ok ((blkB ys, k2), t2) ∧ Tk t2 ws2 ∧ ws2.length ≤ ws1.length ∧ fin ⟨ws1, .mk v i j (cs ++ [[]]) :: st, nm, kb1⟩ = fin ⟨ws2, .mk v i j (cs ++ [ys]) :: st, nm, kb2⟩ ∧ RelK k2 kb2 ∧ k2.recipes = k1.recipes ∧ kb2.recs = kb1.recs ∧ (∀ y ∈ ys, OkT (Vbwbab.flatAll k1) y) ∧ kb2.ei = (kb1.ei || ys.any eiT) ∧ Stop ws2 kb2 := by
  have o := h0 k1 t1 ws1 kb1 v i j cs [] st nm hT hL R1 (by simp)
  change Out k1 kb1 ws1.length v i j cs [] st nm _ (Vbwbab.body n 0 k1 .skip t1) at o
  unfold Out at o
  cases er : Vbwbab.body n 0 k1 .skip t1 with
  | error p => rw [er] at o; exact .inl ⟨p, rfl, o⟩
  | ok x =>
    obtain ⟨⟨bl, k2⟩, t2⟩ := x
    rw [er] at o
    obtain ⟨ys, ws2, kb2, g1, g2, g3, g4, g5, g6, g7, g8, g9, g10⟩ := o.ex
    have g7' : bl = blkB ys := g7
    subst g7'
    exact .inr ⟨k2, t2, ws2, kb2, ys, rfl, g1, g2, g3, g4, g5, g6, g8, g9, g10⟩
/-- the word between two bodies -/
theorem between {ws : List Bytes} {v : Wd} {i j : Nat} {cs : List (List T)} {st : List T} {x : Bytes} (hx : goOn x ⟨ws, .mk v i j cs :: st, nm, kb⟩ = beginBody x ⟨ws, .mk v i j cs :: st, nm, kb⟩) (hb : betw v = some x) (hl : v = .both ∨ cs.length ≠ 2) :
    fin ⟨x :: ws, .mk v i j cs :: st, nm, kb⟩ = fin ⟨ws, .mk v i j (cs ++ [[]]) :: st, nm, kb⟩ := by
  rw [fin_word, hx]
  unfold beginBody
  dsimp only
  rw [if_neg (by simpa using hb), if_neg (by rintro ⟨z1, z2⟩; rcases hl with z | z; exact z1 z; exact z z2)]
  rfl
theorem ei_two (v : Wd) (i j : Nat) (a c : List T) (hv : v = .if_ ∨ v = .either) : eiT (T.mk v i j [a, c]) = (decide (v = .either) || (a.any eiT || c.any eiT)) := by
  unfold eiT
  rw [blkT_mk]
  rcases hv with rfl | rfl
  · show (Vbwbzz.hasEither (blkB a) || Vbwbzz.hasEither (blkB c)) = _
    rw [ei_body, ei_body]; simp; rfl
  · rfl
theorem p0_step (h0 : P0 n) (h1 : P1 n) : P0 (n + 1) := by
  intro k t ws kb w m h bs b s nm hT hL R hb
  rw [body_eq]
  cases ws with
  | nil =>
    have nk : ∀ z : String, kw z ≠ [] → ¬ Vbwbab.isKey t z = true := fun z hz => by rw [isKey_nil hT hz]; simp
    rw [if_neg (nk _ (by decide)), if_neg (nk _ (by decide)), if_neg (nk _ (by decide)), if_neg (nk _ (by decide)), if_neg (nk _ (by decide)), if_neg (fun z => nk "use" (by decide) z.1)]
    exact ⟨[], [], kb, hT, Nat.le_refl _, by rw [List.append_nil], R, rfl, rfl, by rw [List.append_nil], by simp, by simp, fun x hx => by cases hx⟩
  | cons x ws =>
    obtain ⟨q, t1, rfl, hT1, hx⟩ := hT.cons
    have hL1 : ws.length < n := by simp at hL; omega
    have lws : ws.length ≤ (x :: ws).length := by simp
    have yk : ∀ z : String, x = kw z → Vbwbab.isKey ((x, q) :: t1) z = true := fun z e => by rw [isKey_cons, e]; simp
    have nk : ∀ z : String, x ≠ kw z → ¬ Vbwbab.isKey ((x, q) :: t1) z = true := fun z e => by rw [isKey_cons]; simpa using e
    show Out k kb (x :: ws).length w m h bs b s nm (fin ⟨x :: ws, .mk w m h (bs ++ [b]) :: s, nm, kb⟩) _
    simp only [List.drop_one, List.tail_cons]
    by_cases c1 : x = kw "do"
    · rw [if_pos (yk _ c1)]
      subst c1
      rw [specStep_then, fin_word, goOn_do]
      rcases step_cases hT1 R with ⟨⟨p, e⟩, hn⟩ | ⟨i, k', t', ws', kb', e, hT', hl, hr, R', g1, g2, g3⟩
      · rw [e, hn]; rfl
      · rw [e, hr, addPart_snoc]
        refine more_out (y := .mk .do_ i 1 []) h0 hT' (by omega) R' hb ⟨?_, ?_⟩ g1 g2 ?_ rfl (by simp; omega)
        · unfold wfT; exact ⟨(wfBs_all _ _).mpr (by simp), trivial⟩
        · rfl
        · rw [g3]; simp [eiT, blkT_mk, Vbwbzz.hasEither]
    rw [if_neg (nk _ c1)]
    by_cases c2 : x = kw "if"
    · rw [if_pos (yk _ c2)]
      subst c2
      rw [fin_word, goOn_if]
      have eB : beginPart .if_ ⟨ws, .mk w m h (bs ++ [b]) :: s, nm, kb⟩ = (match nextName ⟨ws, .mk w m h (bs ++ [b]) :: s, nm, kb⟩ with
        | none => none
        | some x => match condOf x.2.bk x.1 with
          | none => none
          | some (i, k) => match expect (kw "then") { x.2 with bk := k } with
            | none => none
            | some r2 => some (push (.mk .if_ i 0 []) r2)) := rfl
      rw [eB]
      rcases cond_cases hT1 R with ⟨⟨p, e⟩, hn⟩ | ⟨i, k1, t2, y, ws2, kb1, e, rfl, hT2, hn, hc, R1, g1, g2, g3⟩
      · rw [e]
        rcases hn with hn | ⟨y, ws2, hn, hc⟩
        · rw [hn]; rfl
        · rw [hn]; dsimp only; rw [hc]; rfl
      rw [e, hn]
      dsimp only
      rw [hc]
      simp only [andThen]
      rcases key_cases hT2 (s := "then") (by decide) with ⟨⟨p, e2⟩, n2⟩ | ⟨t3, ws3, e2, rfl, hT3⟩
      · rw [e2, expect_no n2]; rfl
      rw [e2, expect_cons]
      simp only [andThen, Option.bind_some]
      show Out k kb _ w m h bs b s nm (fin ⟨ws3, .mk .if_ i 0 ([] ++ [[]]) :: .mk w m h (bs ++ [b]) :: s, nm, kb1⟩) _
      have l3 : ws3.length < n := by simp at hL1 ⊢; omega
      rcases sub_out (nm := nm) h0 .if_ i 0 [] (.mk w m h (bs ++ [b]) :: s) hT3 l3 R1 with ⟨p, e3, f3⟩ | ⟨k4, t4, ws4, kb4, ya, e3, hT4, l4, f3, R4, r4, q4, o4, i4, s4⟩
      · rw [e3]; exact f3
      rw [e3, f3]
      simp only [andThen]
      rcases key_cases hT4 (s := "else") (by decide) with ⟨⟨p, e4⟩, n4⟩ | ⟨t5, ws5, e4, rfl, hT5⟩
      · rw [e4]
        refine stop_fail s4 (fun z => by intro y; cases y) (fun z => .inr ⟨rfl, by simp⟩) (fun z hz hbt => ?_)
        cases hbt; exact absurd hz n4
      rw [e4, between (goOn_else _) rfl (.inr (by simp))]
      simp only [andThen]
      rcases sub_out (nm := nm) h0 .if_ i 0 ([] ++ [ya]) (.mk w m h (bs ++ [b]) :: s) hT5 (by simp at l4; omega) R4 with ⟨p, e5, f5⟩ | ⟨k6, t6, ws6, kb6, yb, e5, hT6, l6, f5, R6, r6, q6, o6, i6, s6⟩
      · rw [e5]; exact f5
      rw [e5, f5]
      simp only [andThen]
      rcases key_cases hT6 (s := "end") (by decide) with ⟨⟨p, e6⟩, n6⟩ | ⟨t7, ws7, e6, rfl, hT7⟩
      · rw [e6]
        refine stop_fail s6 (fun z => by intro y; cases y) (fun z => absurd z n6) (fun z hz hbt => ⟨by decide, by simp⟩)
      rw [e6, fin_end (by decide) (by decide) (by simp)]
      simp only []
      rw [flatAll_same g1] at o4
      rw [flatAll_same (r4.trans g1)] at o6
      have hO : ∀ c ∈ [ya, yb], ∀ y ∈ c, OkT (Vbwbab.flatAll k) y := by
        intro c hc y hy
        rcases List.mem_cons.mp hc with e | hc
        · subst e; exact o4 y hy
        · rw [List.mem_singleton] at hc; subst hc; exact o6 y hy
      obtain ⟨k1', k2'⟩ := counted_ok (w := .if_) (n := i) (h := 0) hO (.inl ⟨rfl, rfl⟩)
      have eb : Block.cond i (blkB ya) (blkB yb) = blkT (T.mk .if_ i 0 [ya, yb]).counted := by rw [k2', blkT_mk]; rfl
      rw [eb]
      refine more_out h0 hT7 (by simp at l4 l6; omega) R6 hb k1' (r6.trans (r4.trans g1)) (q6.trans (q4.trans g2)) ?_ rfl (by simp at l4 l6 ⊢; omega)
      have : eiT (T.mk .if_ i 0 [ya, yb]).counted = (ya.any eiT || yb.any eiT) := by
        have := ei_two .if_ i 0 ya yb (.inl rfl)
        unfold eiT at this ⊢
        rw [k2', this]; rfl
      rw [this, i6, i4, g3, Bool.or_assoc]
    rw [if_neg (nk _ c2)]
    by_cases c3 : x = kw "either"
    · rw [if_pos (yk _ c3)]
      subst c3
      rw [fin_word, goOn_either]
      show Out k kb _ w m h bs b s nm (fin ⟨ws, .mk .either 0 0 ([] ++ [[]]) :: .mk w m h (bs ++ [b]) :: s, nm, { kb with ei := true }⟩) _
      have R0 : RelK k { kb with ei := true } := ⟨R.conds, R.steps, R.names, R.th, R.ls, R.lc⟩
      rcases sub_out (nm := nm) h0 .either 0 0 [] (.mk w m h (bs ++ [b]) :: s) hT1 hL1 R0 with ⟨p, e3, f3⟩ | ⟨k4, t4, ws4, kb4, ya, e3, hT4, l4, f3, R4, r4, q4, o4, i4, s4⟩
      · rw [e3]; exact f3
      rw [e3, f3]
      simp only [andThen]
      rcases key_cases hT4 (s := "or") (by decide) with ⟨⟨p, e4⟩, n4⟩ | ⟨t5, ws5, e4, rfl, hT5⟩
      · rw [e4]
        refine stop_fail s4 (fun z => by intro y; cases y) (fun z => .inr ⟨rfl, by simp⟩) (fun z hz hbt => ?_)
        cases hbt; exact absurd hz n4
      rw [e4, between (goOn_or _) rfl (.inr (by simp))]
      simp only [andThen]
      rcases sub_out (nm := nm) h0 .either 0 0 ([] ++ [ya]) (.mk w m h (bs ++ [b]) :: s) hT5 (by simp at l4; omega) R4 with ⟨p, e5, f5⟩ | ⟨k6, t6, ws6, kb6, yb, e5, hT6, l6, f5, R6, r6, q6, o6, i6, s6⟩
      · rw [e5]; exact f5
      rw [e5, f5]
      simp only [andThen]
      rcases key_cases hT6 (s := "end") (by decide) with ⟨⟨p, e6⟩, n6⟩ | ⟨t7, ws7, e6, rfl, hT7⟩
      · rw [e6]
        refine stop_fail s6 (fun z => by intro y; cases y) (fun z => absurd z n6) (fun z hz hbt => ⟨by decide, by simp⟩)
      rw [e6, fin_end (by decide) (by decide) (by simp)]
      simp only []
      rw [flatAll_same r4] at o6
      have hO : ∀ c ∈ [ya, yb], ∀ y ∈ c, OkT (Vbwbab.flatAll k) y := by
        intro c hc y hy
        rcases List.mem_cons.mp hc with e | hc
        · subst e; exact o4 y hy
        · rw [List.mem_singleton] at hc; subst hc; exact o6 y hy
      obtain ⟨k1', k2'⟩ := counted_ok (w := .either) (n := 0) (h := 0) hO (.inr (.inl ⟨rfl, rfl⟩))
      have eb : Block.either (blkB ya) (blkB yb) = blkT (T.mk .either 0 0 [ya, yb]).counted := by rw [k2', blkT_mk]; rfl
      rw [eb]
      refine more_out h0 hT7 (by simp at l4 l6; omega) R6 hb k1' (r6.trans r4) (q6.trans q4) ?_ rfl (by simp at l4 l6 ⊢; omega)
      have : eiT (T.mk .either 0 0 [ya, yb]).counted = true := by
        have := ei_two .either 0 0 ya yb (.inr rfl)
        unfold eiT at this ⊢
        rw [k2', this]; rfl
      rw [this, i6, i4]; simp
    rw [if_neg (nk _ c3)]
    by_cases c4 : x = kw "both"
    · rw [if_pos (yk _ c4)]
      subst c4
      rw [fin_word, goOn_both]
      show Out k kb _ w m h bs b s nm (fin ⟨ws, .mk .both 0 0 ([] ++ [[]]) :: .mk w m h (bs ++ [b]) :: s, nm, kb⟩) _
      rcases sub_out (nm := nm) h0 .both 0 0 [] (.mk w m h (bs ++ [b]) :: s) hT1 hL1 R with ⟨p, e3, f3⟩ | ⟨k4, t4, ws4, kb4, ya, e3, hT4, l4, f3, R4, r4, q4, o4, i4, s4⟩
      · rw [e3]; exact f3
      rw [e3, f3]
      simp only [andThen]
      rcases key_cases hT4 (s := "and") (by decide) with ⟨⟨p, e4⟩, n4⟩ | ⟨t5, ws5, e4, rfl, hT5⟩
      · rw [e4]
        refine stop_fail s4 (fun z => by intro y; cases y) (fun z => .inr ⟨rfl, by simp⟩) (fun z hz hbt => ?_)
        cases hbt; exact absurd hz n4
      rw [e4, between (goOn_and _) rfl (.inl rfl)]
      simp only [andThen]
      rcases sub_out (nm := nm) h0 .both 0 0 ([] ++ [ya]) (.mk w m h (bs ++ [b]) :: s) hT5 (by simp at l4; omega) R4 with ⟨p, e5, f5⟩ | ⟨k6, t6, ws6, kb6, yb, e5, hT6, l6, f5, R6, r6, q6, o6, i6, s6⟩
      · rw [e5]; exact f5
      rw [e5, f5]
      simp only [andThen]
      rw [flatAll_same r4] at o6
      have hO : ∀ c ∈ [ya, yb], ∀ y ∈ c, OkT (Vbwbab.flatAll k) y := by
        intro c hc y hy
        rcases List.mem_cons.mp hc with e | hc
        · subst e; exact o4 y hy
        · rw [List.mem_singleton] at hc; subst hc; exact o6 y hy
      have eb : Block.both (blkB ya) (blkB yb) = bothB [ya, yb] := by unfold bothB; rw [blkT_mk]; rfl
      rw [eb]
      have o := h1 k6 t6 ws6 kb6 [ya, yb] w m h bs b s nm kb.ei hT6 (by simp at l4; omega) R6 (by simp) (by rw [flatAll_same (r6.trans r4)]; exact hO) (by rw [i6, i4, Bool.or_assoc]; simp) s6
      unfold Oup at o
      cases er : Vbwbab.body n 1 k6 (bothB [ya, yb]) t6 with
      | error p => rw [er] at o; exact o
      | ok z =>
        obtain ⟨⟨bl, k7⟩, t7⟩ := z
        rw [er] at o
        obtain ⟨y, ws7, kb7, d1, d2, d3, d4, d5, d6, d7, d8, d9⟩ := o.ex
        rw [flatAll_same (r6.trans r4)] at d8
        have d7' : bl = blkT y := d7
        subst d7'
        show Out k kb _ w m h bs b s nm (fin ⟨ws6, .mk .both 0 0 [ya, yb] :: .mk w m h (bs ++ [b]) :: s, nm, kb6⟩) _
        rw [d3]
        exact more_out h0 d1 (by simp at l4 l6; omega) d4 hb d8 (d5.trans (r6.trans r4)) (d6.trans (q6.trans q4)) d9 rfl (by simp at l4 l6 ⊢; omega)
    rw [if_neg (nk _ c4)]
    by_cases c5 : x = kw "again"
    · rw [if_pos (yk _ c5)]
      subst c5
      rw [fin_word, goOn_again]
      show Out k kb _ w m h bs b s nm (fin ⟨ws, .mk .again 0 0 ([] ++ [[]]) :: .mk w m h (bs ++ [b]) :: s, nm, kb⟩) _
      rcases sub_out (nm := nm) h0 .again 0 0 [] (.mk w m h (bs ++ [b]) :: s) hT1 hL1 R with ⟨p, e3, f3⟩ | ⟨k4, t4, ws4, kb4, ya, e3, hT4, l4, f3, R4, r4, q4, o4, i4, s4⟩
      · rw [e3]; exact f3
      rw [e3, f3]
      simp only [andThen]
      rcases key_cases hT4 (s := "until") (by decide) with ⟨⟨p, e4⟩, n4⟩ | ⟨t5, ws5, e4, rfl, hT5⟩
      · rw [e4]
        refine stop_fail s4 (fun z => absurd z n4) (fun z => .inl rfl) (fun z hz hbt => ?_)
        cases hbt
      rw [e4, fin_word, goOn_until]
      simp only [andThen]
      have eA : endAgain ⟨ws5, .mk .again 0 0 ([] ++ [ya]) :: .mk w m h (bs ++ [b]) :: s, nm, kb4⟩ = (match nextName ⟨ws5, .mk .again 0 0 ([] ++ [ya]) :: .mk w m h (bs ++ [b]) :: s, nm, kb4⟩ with
        | none => none
        | some x => match condOf x.2.bk x.1 with
          | none => none
          | some (i, k) => match expect (kw "end") { x.2 with bk := k, st := .mk .again i 0 ([] ++ [ya]) :: .mk w m h (bs ++ [b]) :: s } with
            | none => none
            | some r2 => putAway r2) := rfl
      rw [eA]
      rcases cond_cases hT5 R4 with ⟨⟨p, e⟩, hn⟩ | ⟨i, k6, t6, y, ws6, kb6, e, rfl, hT6, hn, hc, R6, g1, g2, g3⟩
      · rw [e]
        rcases hn with hn | ⟨y, ws2, hn, hc⟩
        · rw [hn]; rfl
        · rw [hn]; dsimp only; rw [hc]; rfl
      rw [e, hn]
      dsimp only
      rw [hc]
      simp only []
      rcases key_cases hT6 (s := "end") (by decide) with ⟨⟨p, e6⟩, n6⟩ | ⟨t7, ws7, e6, rfl, hT7⟩
      · rw [e6, expect_no n6]; rfl
      rw [e6, expect_cons]
      simp only []
      rw [putAway_item (by decide), Option.bind_some]
      have hO : ∀ c ∈ [ya], ∀ y ∈ c, OkT (Vbwbab.flatAll k) y := by
        intro c hc y hy
        rw [List.mem_singleton] at hc; subst hc; exact o4 y hy
      obtain ⟨k1', k2'⟩ := counted_ok (w := .again) (n := i) (h := 0) hO (.inr (.inr (.inr ⟨rfl, rfl⟩)))
      have eb : Block.loop (blkB ya) i = blkT (T.mk .again i 0 [ya]).counted := by rw [k2', blkT_mk]; rfl
      rw [eb]
      refine more_out h0 hT7 (by simp at l4; omega) R6 hb k1' (g1.trans r4) (g2.trans q4) ?_ rfl (by simp at l4 ⊢; omega)
      have : eiT (T.mk .again i 0 [ya]).counted = ya.any eiT := by
        unfold eiT
        rw [k2', blkT_mk]
        show Vbwbzz.hasEither (blkB ya) = _
        rw [ei_body]; rfl
      rw [this, g3, i4]
    rw [if_neg (nk _ c5)]
    by_cases c6 : x = kw "use"
    · subst c6
      by_cases c7 : k.recipes.isEmpty = false
      · rw [if_pos ⟨yk _ rfl, c7⟩, fin_word, goOn_use]
        have eU : ∀ y ws2, nextName ⟨ws, .mk w m h (bs ++ [b]) :: s, nm, kb⟩ = some (y, ⟨ws2, .mk w m h (bs ++ [b]) :: s, nm, kb⟩) → readUse ⟨ws, .mk w m h (bs ++ [b]) :: s, nm, kb⟩ = (match idx kb.names y with
          | none => none
          | some i => addPart (.mk .use i ((kb.recs[i]?.map fun p => p.2.things).getD 0) []) ⟨ws2, .mk w m h (bs ++ [b]) :: s, nm, kb⟩) := fun y ws2 e => by
          unfold readUse
          rw [e] <;> rfl
        rcases name_cases hT1 with ⟨⟨p, e⟩, hn⟩ | ⟨y, t2, ws2, e, rfl, hT2, hn⟩
        · rw [e]
          show Option.bind (readUse _) fin = none
          unfold readUse
          rw [hn]; rfl
        · rw [e, eU y ws2 (hn _ _ _)]
          unfold idx
          rw [R.names]
          simp only [andThen]
          cases e2 : Vbwbab.indexOf (Vbwbab.recipeNames k) y with
          | none => rfl
          | some i =>
            simp only []
            rw [addPart_snoc, Option.bind_some]
            have hi : i < kb.recs.length := by
              unfold Vbwbab.indexOf at e2
              split at e2
              · rename_i hc
                cases e2
                have := List.findIdx_lt_length_of_exists (p := fun z => z == y) (xs := Vbwbab.recipeNames k) ⟨y, List.contains_iff_mem.mp hc, by simp⟩
                rw [R.len]
                unfold Vbwbab.recipeNames at this ⊢
                rw [List.length_map] at this
                exact this
              · cases e2
            have gi : kb.recs[i]? = some kb.recs[i] := List.getElem?_eq_getElem hi
            have hth := R.th i _ _ gi
            refine more_out (y := .mk .use i ((kb.recs[i]?.map fun p => p.2.things).getD 0) []) h0 hT2 (by simp at hL1; omega) R hb ⟨?_, ?_⟩ rfl rfl ?_ rfl (by simp; omega)
            · unfold wfT
              refine ⟨(wfBs_all _ _).mpr (by simp), ?_⟩
              show i < _
              rw [flatAll_len, ← R.len]; exact hi
            · rw [gi]
              exact hth
            · simp [eiT, blkT_mk, Vbwbzz.hasEither]
      · rw [if_neg (fun z => c7 z.2)]
        refine ⟨[], kw "use" :: ws, kb, hT, Nat.le_refl _, by rw [List.append_nil], R, rfl, rfl, by rw [List.append_nil], by simp, by simp, fun z hz => ?_⟩
        cases hz
        refine ⟨by decide, by decide, by decide, by decide, by decide, fun _ => ?_⟩
        have := R.len
        have hk : k.recipes = [] := by simpa using c7
        rw [hk] at this
        exact List.length_eq_zero_iff.mp this
    · rw [if_neg (fun z => nk _ c6 z.1)]
      refine ⟨[], x :: ws, kb, hT, Nat.le_refl _, by rw [List.append_nil], R, rfl, rfl, by rw [List.append_nil], by simp, by simp, fun z hz => ?_⟩
      cases hz
      exact ⟨c1, c2, c3, c4, c5, fun e => absurd e c6⟩
theorem p_all : ∀ n : Nat, P0 n ∧ P1 n
  | 0 => ⟨by intro k t ws kb w m h bs b s nm hT hL; exact absurd hL (Nat.not_lt_zero _), by intro k t ws kb bs w m h ps p s nm e0 hT hL; exact absurd hL (Nat.not_lt_zero _)⟩
  | n + 1 => ⟨p0_step (p_all n).1 (p_all n).2, p1_step (p_all n).1 (p_all n).2⟩
end
end Bm
end

section
set_option autoImplicit false
/-! The recipes, one after the other. -/
namespace Bm
open Bw
open Vbwbzz (Bytes)
open Vbwbab (Toks Book Block andThen seqOf)
/-- one recipe -/
def oneR (k : Book) (t : Toks) : Vbwbab.Read Book := andThen (Vbwbab.key "recipe" t) fun _ u => andThen (Vbwbab.aName u) fun m v =>
  if (Vbwbab.recipeNames k).contains m = true then .error (Vbwbab.place u)
  else andThen (Vbwbab.body (8 * t.length + 16) 0 k .skip v) fun b y => andThen (Vbwbab.key "end" y) fun _ z => .ok ({ b.2 with recipes := b.2.recipes ++ [⟨m, b.1⟩] }, z)
theorem recipesFrom_eq (n : Nat) (k : Book) (t : Toks) : Vbwbab.recipesFrom (n + 1) k t = (match t.head? with
    | none => .error 0
    | some x => if x.1.isEmpty = true ∧ k.recipes.isEmpty = false then .ok k else if 10 ≤ k.recipes.length then .error (Vbwbab.place t) else
      match oneR k t with
      | .error p => .error p
      | .ok y => Vbwbab.recipesFrom n y.1 y.2) := by
  conv => lhs; unfold Vbwbab.recipesFrom
  rfl
theorem fin_end_recipe {ws : List Bytes} {i j : Nat} {ys : List T} {nm : Bytes} {kb : Bk} : fin ⟨kw "end" :: ws, [.mk .recipe i j [ys]], nm, kb⟩ = (addRec kb nm (.mk .recipe i (thBody ys) [ys])).bind fun k => fin ⟨ws, [], nm, k⟩ := by
  rw [fin_word, goOn_end]
  unfold endPart
  dsimp only
  rw [if_neg (by rintro (z | ⟨z, _⟩) <;> cases z)]
  unfold putAway
  dsimp only
  rw [if_pos (show (T.mk Wd.recipe i j [ys]).w = .recipe from rfl), counted_eq]
  have : ([ys].map thBody).sum + addTh .recipe [ys].length = thBody ys := by simp [addTh]
  rw [this]
  cases addRec kb nm (.mk .recipe i (thBody ys) [ys]) <;> rfl
theorem oneR_out {k : Book} {t : Toks} {ws : List Bytes} {kb : Bk} (nm0 : Bytes) (hT : Tk t ws) (hw : ws ≠ []) (R : RelK k kb) :
    (∃ p, oneR k t = .error p ∧ fin ⟨ws, [], nm0, kb⟩ = none) ∨
    ∃ k1 t1 ws1 kb1 m ys, oneR k t = .ok ({ k1 with recipes := k.recipes ++ [⟨m, blkB ys⟩] }, t1) ∧ Tk t1 ws1 ∧ ws1.length < ws.length ∧ fin ⟨ws, [], nm0, kb⟩ = (addRec kb1 m (.mk .recipe kb.recs.length (thBody ys) [ys])).bind (fun k => fin ⟨ws1, [], m, k⟩) ∧
      RelK k1 kb1 ∧ k1.recipes = k.recipes ∧ kb1.recs = kb.recs ∧ (∀ y ∈ ys, OkT (Vbwbab.flatAll k) y) ∧ kb1.ei = (kb.ei || ys.any eiT) := by
  have hlen := hT.len
  have ef : fin ⟨ws, [], nm0, kb⟩ = (beginRecipe ⟨ws, [], nm0, kb⟩).bind fin := by
    rw [fin_turn hw]; rfl
  rw [ef]
  unfold oneR beginRecipe
  rcases key_cases hT (s := "recipe") (by decide) with ⟨⟨p, e⟩, n1⟩ | ⟨t1, ws1, e, rfl, hT1⟩
  · exact .inl ⟨p, by rw [e]; rfl, by rw [expect_no n1]; rfl⟩
  rw [e, expect_cons]
  simp only [andThen]
  rcases name_cases hT1 with ⟨⟨p, e2⟩, hn⟩ | ⟨m, t2, ws2, e2, rfl, hT2, hn⟩
  · exact .inl ⟨p, by rw [e2], by rw [hn]; rfl⟩
  rw [e2, hn]
  simp only []
  rw [R.names]
  by_cases c : (Vbwbab.recipeNames k).contains m = true
  · rw [if_pos c, if_pos c]
    exact .inl ⟨_, rfl, rfl⟩
  rw [if_neg c, if_neg c, Option.bind_some]
  have P := p_all (8 * t.length + 16)
  rcases sub_out (nm := m) P.1 .recipe kb.recs.length 0 [] [] hT2 (by simp at hlen; omega) R with ⟨p, e3, f3⟩ | ⟨k4, t4, ws4, kb4, ys, e3, hT4, l4, f3, R4, r4, q4, o4, i4, s4⟩
  · exact .inl ⟨p, by rw [e3], f3⟩
  rw [e3]
  simp only []
  have f3' : fin (push (.mk .recipe kb.recs.length 0 []) ⟨ws2, [], m, kb⟩) = fin ⟨ws4, [.mk .recipe kb.recs.length 0 [ys]], m, kb4⟩ := f3
  rw [f3']
  rcases key_cases hT4 (s := "end") (by decide) with ⟨⟨p, e4⟩, n4⟩ | ⟨t5, ws5, e4, rfl, hT5⟩
  · refine .inl ⟨p, by rw [e4], stop_fail s4 (fun z => by intro y; cases y) (fun z => absurd z n4) fun z hz hbt => by cases hbt⟩
  rw [e4, fin_end_recipe]
  exact .inr ⟨k4, t5, ws5, kb4, m, ys, by rw [r4], hT5, by simp at l4 ⊢; omega, rfl, R4, r4, q4, o4, i4⟩
theorem flatAll_snoc (k : Book) (k1 : Book) (r : Vbwbab.Recipe) (h : k1.recipes = k.recipes ++ [r]) : Vbwbab.flatAll k1 = Vbwbab.flatAll k ++ [Vbwbab.flat (Vbwbab.flatAll k) r.body] := by
  unfold Vbwbab.flatAll
  rw [h, List.foldl_append]; rfl
theorem flatAll_app (k : Book) : ∀ (l : List Vbwbab.Recipe) (k1 : Book), k1.recipes = k.recipes ++ l → ∃ m, Vbwbab.flatAll k1 = Vbwbab.flatAll k ++ m := by
  intro l k1 h
  unfold Vbwbab.flatAll
  rw [h, List.foldl_append]
  have : ∀ (l : List Vbwbab.Recipe) (a : List Block), ∃ m, l.foldl (fun l r => l ++ [Vbwbab.flat l r.body]) a = a ++ m := by
    intro l
    induction l with
    | nil => intro a; exact ⟨[], by simp⟩
    | cons r l ih =>
      intro a
      obtain ⟨m, hm⟩ := ih (a ++ [Vbwbab.flat a r.body])
      exact ⟨Vbwbab.flat a r.body :: m, by rw [List.foldl_cons, hm]; simp⟩
  exact this l _
/-- a machine's book for a book -/
def mkKb (k : Book) : Bk := ⟨(k.recipes.zip (Vbwbab.flatAll k)).map fun x => (x.1.name, .mk .recipe 0 (Vbwbab.size x.2) []), k.steps.map fun s => (s.name, s.least, s.most), k.conds, false⟩
theorem mkKb_rel {k : Book} (h1 : k.steps.length ≤ 30) (h2 : k.conds.length ≤ 12) : RelK k (mkKb k) := by
  refine ⟨rfl, rfl, ?_, fun i nm u hi => ?_, by show (k.steps.map _).length ≤ 30; rw [List.length_map]; exact h1, h2⟩
  · show ((k.recipes.zip (Vbwbab.flatAll k)).map _).map _ = _
    rw [List.map_map]
    have : (k.recipes.zip (Vbwbab.flatAll k)).map (·.1) = k.recipes := List.map_fst_zip (by rw [flatAll_len]; exact Nat.le_refl _)
    unfold Vbwbab.recipeNames
    conv => rhs; rw [← this, List.map_map]
    rfl
  · have hi' : ((k.recipes.zip (Vbwbab.flatAll k)).map fun x => (x.1.name, T.mk .recipe 0 (Vbwbab.size x.2) []))[i]? = some (nm, u) := hi
    rw [List.getElem?_map] at hi'
    cases e : (k.recipes.zip (Vbwbab.flatAll k))[i]? with
    | none => rw [e] at hi'; cases hi'
    | some x =>
      rw [e] at hi'
      obtain ⟨x1, x2⟩ := x
      cases hi'
      have := (List.getElem?_zip_eq_some.mp e).2
      show Vbwbab.size x2 = _
      rw [List.getD_eq_getElem?_getD, this]; rfl
theorem recipes_prefix : ∀ (n : Nat) (k k' : Book) (t : Toks) (ws : List Bytes), Tk t ws → k.steps.length ≤ 30 → k.conds.length ≤ 12 → Vbwbab.recipesFrom n k t = .ok k' → ∃ l, k'.recipes = k.recipes ++ l
  | 0, k, k', t, ws, _, _, _, h => by cases h
  | n + 1, k, k', t, ws, hT, h1, h2, h => by
    rw [recipesFrom_eq] at h
    cases ws with
    | nil =>
      obtain ⟨p, rfl⟩ := hT.nil
      dsimp only [List.head?_cons] at h
      split at h
      · cases h; exact ⟨[], by simp⟩
      · split at h
        · cases h
        · have : ∃ q, oneR k [([], p)] = .error q := ⟨_, rfl⟩
          obtain ⟨q, e⟩ := this
          rw [e] at h; cases h
    | cons w ws =>
      obtain ⟨q, t1, rfl, hT1, hx⟩ := hT.cons
      dsimp only [List.head?_cons] at h
      rw [if_neg (by rintro ⟨z, _⟩; exact hx (by simpa using z))] at h
      split at h
      · cases h
      · rcases oneR_out [] hT (by simp) (mkKb_rel h1 h2) with ⟨p, e, _⟩ | ⟨k1, t2, ws2, kb1, m, ys, e, hT2, hl, _, R1, r1, _, _, _⟩
        · rw [e] at h; cases h
        · rw [e] at h
          dsimp only at h
          have hs : k1.steps.length ≤ 30 := by have := R1.ls; rw [R1.steps, List.length_map] at this; exact this
          have hc : k1.conds.length ≤ 12 := by have := R1.lc; rw [← R1.conds] at this; exact this
          obtain ⟨l, e2⟩ := recipes_prefix n { k1 with recipes := k.recipes ++ [⟨m, blkB ys⟩] } k' t2 ws2 hT2 hs hc h
          exact ⟨⟨m, blkB ys⟩ :: l, by rw [e2]; simp⟩
/-- the recipes as they stand -/
structure RelR (k : Book) (kb : Bk) : Prop where
  body : ∀ i nm u, kb.recs[i]? = some (nm, u) → ∃ h b, u = .mk .recipe i h [b] ∧ k.recipes[i]? = some ⟨nm, blkB b⟩ ∧ (∀ y ∈ b, wfT i y) ∧ h ≤ 30
  ei : kb.ei = (Vbwbab.flatAll k).any Vbwbzz.hasEither
  ten : kb.recs.length ≤ 10
theorem either_flat (done : List Block) (hd : ∀ r, Vbwbzz.hasEither (done.getD r .skip) = true → done.any Vbwbzz.hasEither = true) : ∀ x : Block, (Vbwbzz.hasEither (Vbwbab.flat done x) || done.any Vbwbzz.hasEither) = (Vbwbzz.hasEither x || done.any Vbwbzz.hasEither)
  | .skip => rfl
  | .step _ => rfl
  | .seq a b => by
    have h1 := either_flat done hd a
    have h2 := either_flat done hd b
    simp only [Vbwbab.flat, Vbwbzz.hasEither]
    cases hx : done.any Vbwbzz.hasEither with
    | true => simp
    | false => rw [hx] at h1 h2; simp at h1 h2 ⊢; rw [h1, h2]
  | .cond _ a b => by
    have h1 := either_flat done hd a
    have h2 := either_flat done hd b
    simp only [Vbwbab.flat, Vbwbzz.hasEither]
    cases hx : done.any Vbwbzz.hasEither with
    | true => simp
    | false => rw [hx] at h1 h2; simp at h1 h2 ⊢; rw [h1, h2]
  | .both a b => by
    have h1 := either_flat done hd a
    have h2 := either_flat done hd b
    simp only [Vbwbab.flat, Vbwbzz.hasEither]
    cases hx : done.any Vbwbzz.hasEither with
    | true => simp
    | false => rw [hx] at h1 h2; simp at h1 h2 ⊢; rw [h1, h2]
  | .either a b => rfl
  | .loop a c => by
    have h1 := either_flat done hd a
    simp only [Vbwbab.flat, Vbwbzz.hasEither]
    exact h1
  | .call r => by
    show (Vbwbzz.hasEither (done.getD r .skip) || _) = (false || _)
    cases hx : Vbwbzz.hasEither (done.getD r .skip) with
    | true => rw [hd r hx]; rfl
    | false => rfl
theorem getD_either (done : List Block) (r : Nat) (h : Vbwbzz.hasEither (done.getD r .skip) = true) : done.any Vbwbzz.hasEither = true := by
  rw [List.getD_eq_getElem?_getD] at h
  cases e : done[r]? with
  | none => rw [e] at h; cases h
  | some x => rw [e] at h; exact List.any_eq_true.mpr ⟨x, List.mem_of_getElem? e, h⟩
def bigB (k : Book) : Bool := (Vbwbab.flatAll k).any fun b => decide (30 < Vbwbab.size b)
theorem recipes_out : ∀ (n : Nat) (k : Book) (t : Toks) (ws : List Bytes) (nm : Bytes) (kb : Bk), Tk t ws → ws.length < n → RelK k kb → RelR k kb →
    match Vbwbab.recipesFrom n k t with
    | .error _ => fin ⟨ws, [], nm, kb⟩ = none
    | .ok k' => if bigB k' = true then fin ⟨ws, [], nm, kb⟩ = none else ∃ kb', fin ⟨ws, [], nm, kb⟩ = some kb' ∧ RelK k' kb' ∧ RelR k' kb'
  | 0, k, t, ws, nm, kb, _, h, _, _ => absurd h (Nat.not_lt_zero _)
  | n + 1, k, t, ws, nm, kb, hT, hL, R, S => by
    rw [recipesFrom_eq]
    have hlen := R.len
    have nbig : bigB k = false := by
      unfold bigB
      rw [List.any_eq_false]
      intro x hx
      obtain ⟨i, hi⟩ := List.mem_iff_getElem?.mp hx
      have hil := (List.getElem?_eq_some_iff.mp hi).1
      rw [flatAll_len, ← hlen] at hil
      have gi : kb.recs[i]? = some kb.recs[i] := List.getElem?_eq_getElem hil
      obtain ⟨h, b, e1, _, _, h4⟩ := S.body i _ _ gi
      have := R.th i _ _ gi
      rw [e1, List.getD_eq_getElem?_getD, hi] at this
      have this' : h = Vbwbab.size x := this
      simp; omega
    cases ws with
    | nil =>
      obtain ⟨p, rfl⟩ := hT.nil
      dsimp only [List.head?_cons]
      rw [fin_nil rfl]
      by_cases c : k.recipes.isEmpty = false
      · rw [if_pos ⟨rfl, c⟩]
        dsimp only
        rw [nbig, if_neg (by simp)]
        refine ⟨kb, if_pos ⟨rfl, ?_⟩, R, S⟩
        show kb.recs.length ≠ 0
        rw [hlen]; intro z
        rw [List.length_eq_zero_iff.mp z] at c; cases c
      · rw [if_neg (fun z => c z.2)]
        have hk : k.recipes = [] := by simpa using c
        rw [if_neg (by rw [hk]; simp)]
        have : ∃ q, oneR k [([], p)] = .error q := ⟨_, rfl⟩
        obtain ⟨q, e⟩ := this
        rw [e]
        dsimp only
        rw [if_neg]
        rintro ⟨_, z⟩
        rw [hk] at hlen
        exact z hlen
    | cons w ws =>
      have hT0 := hT
      obtain ⟨q, t1, rfl, hT1, hx⟩ := hT.cons
      dsimp only [List.head?_cons]
      rw [if_neg (by rintro ⟨z, _⟩; exact hx (by simpa using z))]
      have O := oneR_out nm hT0 (by simp) R
      by_cases c : 10 ≤ k.recipes.length
      · rw [if_pos c]
        dsimp only
        rcases O with ⟨p, _, f⟩ | ⟨k1, t2, ws2, kb1, m, ys, e, hT2, hl, f, R1, r1, q1, o1, i1⟩
        · exact f
        · rw [f]
          unfold addRec
          have := S.ten
          rw [if_pos (.inl (by rw [q1]; omega))]; rfl
      rw [if_neg c]
      rcases O with ⟨p, e, f⟩ | ⟨k1, t2, ws2, kb1, m, ys, e, hT2, hl, f, R1, r1, q1, o1, i1⟩
      · rw [e]; exact f
      rw [e, f]
      dsimp only
      have hs : k1.steps.length ≤ 30 := by have := R1.ls; rw [R1.steps, List.length_map] at this; exact this
      have hc : k1.conds.length ≤ 12 := by have := R1.lc; rw [← R1.conds] at this; exact this
      have eth : thBody ys = szF (Vbwbab.flatAll k) (blkB ys) := thBody_ok o1
      have fl : Vbwbab.flatAll { k1 with recipes := k.recipes ++ [⟨m, blkB ys⟩] } = Vbwbab.flatAll k ++ [Vbwbab.flat (Vbwbab.flatAll k) (blkB ys)] := flatAll_snoc k _ ⟨m, blkB ys⟩ rfl
      by_cases c2 : 30 < thBody ys
      · have fn : (addRec kb1 m (.mk .recipe kb.recs.length (thBody ys) [ys])).bind (fun k => fin ⟨ws2, [], m, k⟩) = none := by
          unfold addRec
          rw [if_pos (.inr c2)]; rfl
        rw [fn]
        cases er : Vbwbab.recipesFrom n { k1 with recipes := k.recipes ++ [⟨m, blkB ys⟩] } t2 with
        | error p => rfl
        | ok k' =>
          dsimp only
          obtain ⟨l, hl2⟩ := recipes_prefix n { k1 with recipes := k.recipes ++ [⟨m, blkB ys⟩] } k' t2 ws2 hT2 hs hc er
          obtain ⟨mm, hm⟩ := flatAll_app { k1 with recipes := k.recipes ++ [⟨m, blkB ys⟩] } l k' hl2
          have : bigB k' = true := by
            unfold bigB
            rw [hm, fl]
            rw [List.any_append, List.any_append]
            rw [eth] at c2
            unfold szF at c2
            simp [c2]
          rw [if_pos this]
      · have hne : ¬ (kb1.recs.length = 10 ∨ 30 < (T.mk .recipe kb.recs.length (thBody ys) [ys]).things) := by
          rintro (z | z)
          · rw [q1, hlen] at z; omega
          · exact c2 z
        have fs : addRec kb1 m (.mk .recipe kb.recs.length (thBody ys) [ys]) = some { kb1 with recs := kb1.recs ++ [(m, .mk .recipe kb.recs.length (thBody ys) [ys])] } := by
          unfold addRec
          rw [if_neg hne]
        rw [fs, Option.bind_some]
        have lf : (Vbwbab.flatAll k).length = kb.recs.length := by rw [flatAll_len, hlen]
        have R2 : RelK { k1 with recipes := k.recipes ++ [⟨m, blkB ys⟩] } { kb1 with recs := kb1.recs ++ [(m, .mk .recipe kb.recs.length (thBody ys) [ys])] } := by
          refine ⟨R1.conds, R1.steps, ?_, fun i nm2 u hi => ?_, R1.ls, R1.lc⟩
          · show (kb1.recs ++ [(m, T.mk .recipe kb.recs.length (thBody ys) [ys])]).map (fun x => x.1) = (k.recipes ++ [(⟨m, blkB ys⟩ : Vbwbab.Recipe)]).map fun r => r.name
            rw [List.map_append, List.map_append, q1]
            have := R.names
            unfold Bk.names Vbwbab.recipeNames at this
            rw [this]; rfl
          · rw [fl]
            replace hi : (kb1.recs ++ [(m, T.mk .recipe kb.recs.length (thBody ys) [ys])])[i]? = some (nm2, u) := hi
            rw [q1] at hi
            by_cases ci : i < kb.recs.length
            · rw [List.getElem?_append_left ci] at hi
              rw [R.th i nm2 u hi, List.getD_eq_getElem?_getD, List.getD_eq_getElem?_getD, List.getElem?_append_left (by omega)]
            · rw [List.getElem?_append_right (by omega)] at hi
              have hz : i - kb.recs.length = 0 := by
                cases hz : i - kb.recs.length with
                | zero => rfl
                | succ j => rw [hz] at hi; simp at hi
              rw [hz] at hi
              simp at hi
              obtain ⟨rfl, rfl⟩ := hi
              rw [List.getD_eq_getElem?_getD, List.getElem?_append_right (by omega), lf, hz]
              exact eth
        have S2 : RelR { k1 with recipes := k.recipes ++ [⟨m, blkB ys⟩] } { kb1 with recs := kb1.recs ++ [(m, .mk .recipe kb.recs.length (thBody ys) [ys])] } := by
          refine ⟨fun i nm2 u hi => ?_, ?_, ?_⟩
          · replace hi : (kb1.recs ++ [(m, T.mk .recipe kb.recs.length (thBody ys) [ys])])[i]? = some (nm2, u) := hi
            rw [q1] at hi
            show ∃ h b, _ ∧ (k.recipes ++ [⟨m, blkB ys⟩])[i]? = _ ∧ _
            by_cases ci : i < kb.recs.length
            · rw [List.getElem?_append_left ci] at hi
              rw [List.getElem?_append_left (by omega)]
              exact S.body i nm2 u hi
            · rw [List.getElem?_append_right (by omega)] at hi
              have hz : i - kb.recs.length = 0 := by
                cases hz : i - kb.recs.length with
                | zero => rfl
                | succ j => rw [hz] at hi; simp at hi
              rw [hz] at hi
              simp at hi
              obtain ⟨rfl, rfl⟩ := hi
              have ei : i = kb.recs.length := by omega
              refine ⟨thBody ys, ys, by rw [ei], ?_, fun y hy => ?_, by omega⟩
              · rw [List.getElem?_append_right (by omega), ← hlen, hz]; rfl
              · have := (o1 y hy).wf
                rw [lf, ← ei] at this; exact this
          · show kb1.ei = _
            rw [fl, i1, S.ei, List.any_append, ← ei_body]
            have := either_flat (Vbwbab.flatAll k) (getD_either _) (blkB ys)
            simp only [List.any_cons, List.any_nil, Bool.or_false]
            rw [Bool.or_comm, ← this, Bool.or_comm]
          · show (kb1.recs ++ [_]).length ≤ 10
            rw [List.length_append, q1, List.length_singleton]; omega
        have ih := recipes_out n _ t2 ws2 m _ hT2 (by simp at hL hl; omega) R2 S2
        exact ih
theorem tokens_tk (b : Bytes) : Tk (Vbwbab.tokens b) (toks b) := ⟨tokens_toks b, runs_ne b []⟩
/-- **The recipes' text read**: as the specification reads it -/
theorem book_out (b : Bytes) : match Vbwbab.read b with
    | .error _ => fin ⟨toks b, [], [], Bk.empty⟩ = none
    | .ok k => if bigB k = true then fin ⟨toks b, [], [], Bk.empty⟩ = none else ∃ kb, fin ⟨toks b, [], [], Bk.empty⟩ = some kb ∧ RelK k kb ∧ RelR k kb := by
  unfold Vbwbab.read
  have hT := tokens_tk b
  have hl := hT.len
  refine recipes_out _ Vbwbab.empty _ _ [] Bk.empty hT (by omega) ⟨rfl, rfl, rfl, fun i nm u h => by simp [Bk.empty] at h, by decide, by decide⟩ ⟨fun i nm u h => by simp [Bk.empty] at h, rfl, by decide⟩
end Bm
end

section
set_option autoImplicit false
/-! The blocks of a book, and what lays their nets. -/
namespace Bm
open Bw
open Vbwbzz (Bytes)
open Vbwbab (Toks Book Block Move)
theorem flatAll_at (k : Book) (i : Nat) (r : Vbwbab.Recipe) (h : k.recipes[i]? = some r) : (Vbwbab.flatAll k)[i]? = some (Vbwbab.flat ((Vbwbab.flatAll k).take i) r.body) := by
  obtain ⟨hlt, he⟩ := List.getElem?_eq_some_iff.mp h
  have e : k.recipes = (k.recipes.take i ++ [r]) ++ k.recipes.drop (i + 1) := by
    rw [List.append_assoc]
    have := List.drop_eq_getElem_cons hlt
    rw [he] at this
    rw [List.singleton_append, ← this, List.take_append_drop]
  obtain ⟨m, hm⟩ := flatAll_app { k with recipes := k.recipes.take i ++ [r] } (k.recipes.drop (i + 1)) k e
  have hs := flatAll_snoc { k with recipes := k.recipes.take i } { k with recipes := k.recipes.take i ++ [r] } r rfl
  have hl : (Vbwbab.flatAll { k with recipes := k.recipes.take i }).length = i := by
    rw [flatAll_len]
    show (k.recipes.take i).length = i
    rw [List.length_take]; omega
  rw [hm, hs, List.append_assoc]
  generalize Vbwbab.flatAll { k with recipes := k.recipes.take i } = F at hl
  rw [List.getElem?_append_right (by omega), hl, Nat.sub_self, List.take_append_of_le_length (by omega), List.take_of_length_le (by omega)]
  rfl
theorem sz_pos : ∀ x : Block, 1 ≤ Vbwbab.size x
  | .skip => Nat.le_refl _
  | .step _ => Nat.le_refl _
  | .seq a b => by have := sz_pos a; simp only [Vbwbab.size]; omega
  | .cond _ a b => by simp only [Vbwbab.size]; omega
  | .either a b => by simp only [Vbwbab.size]; omega
  | .both a b => by simp only [Vbwbab.size]; omega
  | .loop a _ => by simp only [Vbwbab.size]; omega
  | .call _ => Nat.le_refl _
theorem sum_ge {l : List Nat} (h : ∀ x ∈ l, 1 ≤ x) : l.length ≤ l.sum := by
  induction l with
  | nil => simp
  | cons x r ih =>
    have := h x (List.mem_cons_self ..)
    have := ih fun y hy => h y (List.mem_cons_of_mem _ hy)
    simp; omega
theorem mem_le_sum {l : List Nat} {x : Nat} (h : x ∈ l) : x ≤ l.sum := by
  induction l with
  | nil => cases h
  | cons y r ih =>
    rcases List.mem_cons.mp h with e | h
    · subst e; simp
    · have := ih h; simp; omega
theorem szF_body (done : List Block) (b : List T) : szF done (blkB b) = if b = [] then 1 else (b.map fun y => szF done (blkT y)).sum := by
  unfold szF blkB
  rw [flat_chain', size_chain, List.map_map, List.map_map]
  by_cases e : b = []
  · subst e; rfl
  · rw [if_neg e, if_neg (by simpa using e)]; rfl
theorem body_len (done : List Block) (b : List T) : b.length ≤ szF done (blkB b) := by
  rw [szF_body]
  by_cases e : b = []
  · subst e; simp
  · rw [if_neg e]
    have := sum_ge (l := b.map fun y => szF done (blkT y)) (fun x hx => by
      obtain ⟨y, _, rfl⟩ := List.mem_map.mp hx
      exact sz_pos _)
    simpa using this
theorem item_le (done : List Block) {b : List T} {y : T} (h : y ∈ b) : szF done (blkT y) ≤ szF done (blkB b) := by
  rw [szF_body, if_neg (by intro e; rw [e] at h; cases h)]
  exact mem_le_sum (List.mem_map.mpr ⟨y, h, rfl⟩)
theorem szF_both (done : List Block) (bs : List (List T)) (h : 2 ≤ bs.length) : szF done (bothB bs) = (bs.map fun b => szF done (blkB b)).sum + (bs.length - 1) := by
  match bs, h with
  | a :: b :: r, _ =>
    unfold szF bothB
    rw [blkT_mk]
    show Vbwbab.size (Vbwbab.flat done (((b :: r).map blkB).foldl .both (blkB a))) = _
    rw [flat_boths, size_boths]
    simp only [List.map_cons, List.map_map, List.sum_cons, List.length_cons, List.length_map, Function.comp_def]
    omega
structure Laid (k : Book) (kb : Bk) : Prop where
  rel : RelR k kb
  no : (Vbwbab.flatAll k).any Vbwbzz.hasEither = false
  len : kb.recs.length = k.recipes.length
theorem ei_flat_body {k : Book} {kb : Bk} (h : Laid k kb) (x : Block) : Vbwbzz.hasEither (Vbwbab.flat (Vbwbab.flatAll k) x) = Vbwbzz.hasEither x := by
  have := either_flat (Vbwbab.flatAll k) (getD_either _) x
  rw [h.no] at this
  simpa using this
theorem ei_recipe {k : Book} {kb : Bk} (h : Laid k kb) {j : Nat} {r : Vbwbab.Recipe} (e : k.recipes[j]? = some r) : Vbwbzz.hasEither r.body = false := by
  have h1 := flatAll_at k j r e
  have h2 := List.any_eq_false.mp h.no _ (List.mem_of_getElem? h1)
  have h3 := either_flat ((Vbwbab.flatAll k).take j) (getD_either _) r.body
  have h4 : ((Vbwbab.flatAll k).take j).any Vbwbzz.hasEither = false := by
    rw [List.any_eq_false]
    intro x hx
    exact List.any_eq_false.mp h.no x (List.mem_of_mem_take hx)
  rw [h4] at h3
  simp only [Bool.or_false] at h3
  rw [← h3]
  simpa using h2
theorem lays_all {k : Book} {kb : Bk} (h : Laid k kb) : ∀ r : Nat,
    (∀ i b, (∀ y ∈ b, wfT i y) → i ≤ kb.recs.length → (∀ y ∈ b, eiT y = false) → szF ((Vbwbab.flatAll k).take i) (blkB b) ≤ 1000 → 3 * szF ((Vbwbab.flatAll k).take i) (blkB b) + 2 * i + 2 ≤ r → (lays kb r).body b (Vbwbab.flat ((Vbwbab.flatAll k).take i) (blkB b))) ∧
    (∀ i y, wfT i y → i ≤ kb.recs.length → eiT y = false → szF ((Vbwbab.flatAll k).take i) (blkT y) ≤ 1000 → 3 * szF ((Vbwbab.flatAll k).take i) (blkT y) + 2 * i + 1 ≤ r → (lays kb r).part y (Vbwbab.flat ((Vbwbab.flatAll k).take i) (blkT y))) ∧
    (∀ i y, wfT i y → y.w = .if_ → i ≤ kb.recs.length → eiT y = false → szF ((Vbwbab.flatAll k).take i) (blkT y) ≤ 1000 → 3 * szF ((Vbwbab.flatAll k).take i) (blkT y) + 2 * i ≤ r → (lays kb r).ifs y (Vbwbab.flat ((Vbwbab.flatAll k).take i) (blkT y))) ∧
    (∀ i bs, (∀ b ∈ bs, ∀ y ∈ b, wfT i y) → i ≤ kb.recs.length → (∀ b ∈ bs, ∀ y ∈ b, eiT y = false) → 2 ≤ bs.length → szF ((Vbwbab.flatAll k).take i) (bothB bs) ≤ 1000 → 3 * szF ((Vbwbab.flatAll k).take i) (bothB bs) + 2 * i ≤ r → (lays kb r).both bs (Vbwbab.flat ((Vbwbab.flatAll k).take i) (bothB bs))) ∧
    (∀ i y, wfT i y → y.w = .again → i ≤ kb.recs.length → eiT y = false → szF ((Vbwbab.flatAll k).take i) (blkT y) ≤ 1000 → 3 * szF ((Vbwbab.flatAll k).take i) (blkT y) + 2 * i ≤ r → (lays kb r).again y (Vbwbab.flat ((Vbwbab.flatAll k).take i) (blkT y)))
  | 0 => by
    have p : ∀ i x, 1 ≤ szF ((Vbwbab.flatAll k).take i) x := fun i x => sz_pos _
    refine ⟨fun i b _ _ _ _ hl => ?_, fun i y _ _ _ _ hl => ?_, fun i y _ _ _ _ _ hl => ?_, fun i bs _ _ _ _ _ hl => ?_, fun i y _ _ _ _ _ hl => ?_⟩
    · have := p i (blkB b); omega
    · have := p i (blkT y); omega
    · have := p i (blkT y); omega
    · have := p i (bothB bs); omega
    · have := p i (blkT y); omega
  | r + 1 => by
    obtain ⟨hB, hP, hI, hO, hA⟩ := lays_all h r
    refine ⟨fun i b hw hi he h1000 hl => ?_, fun i y hw hi he h1000 hl => ?_, fun i y hw hv hi he h1000 hl => ?_, fun i bs hw hi he h2 h1000 hl => ?_, fun i y hw hv hi he h1000 hl => ?_⟩
    · -- a body
      refine ⟨b.map fun y => Vbwbab.flat ((Vbwbab.flatAll k).take i) (blkT y), by simp, ?_, fun j t y h1 h2 => ?_, ?_⟩
      · have := body_len ((Vbwbab.flatAll k).take i) b; omega
      · rw [List.getElem?_map, h1] at h2
        cases h2
        have hm := List.mem_of_getElem? h1
        have := item_le ((Vbwbab.flatAll k).take i) hm
        exact hP i t (hw t hm) hi (he t hm) (by omega) (by omega)
      · unfold blkB
        rw [flat_chain', List.map_map]; rfl
    · -- a part
      obtain ⟨w, n, th, bs⟩ := y
      unfold wfT at hw
      obtain ⟨hws, hww⟩ := hw
      rw [wfBs_all] at hws
      cases w with
      | do_ => show _ = Block.step n; rw [blkT_mk]; rfl
      | use =>
        replace hww : n < i := hww
        have hn : n < kb.recs.length := by omega
        obtain ⟨⟨nm, u⟩, g⟩ : ∃ x, kb.recs[n]? = some x := ⟨_, List.getElem?_eq_getElem hn⟩
        obtain ⟨hh, b, e1, e2, e3, e4⟩ := h.rel.body n nm u g
        have gk : u.bodies[0]? = some b := by rw [e1]; rfl
        have ef := flatAll_at k n _ e2
        have eb : Vbwbab.flat ((Vbwbab.flatAll k).take i) (blkT (.mk .use n th bs)) = Vbwbab.flat ((Vbwbab.flatAll k).take n) (blkB b) := by
          rw [blkT_mk]
          show ((Vbwbab.flatAll k).take i).getD n .skip = _
          rw [List.getD_eq_getElem?_getD, List.getElem?_take_of_lt hww, ef]; rfl
        have esz : szF ((Vbwbab.flatAll k).take i) (blkT (.mk .use n th bs)) = szF ((Vbwbab.flatAll k).take n) (blkB b) := by unfold szF; rw [eb]
        have hei : ∀ y ∈ b, eiT y = false := by
          have := ei_recipe h e2
          rw [ei_body] at this
          exact fun y hy => by simpa using List.any_eq_false.mp this y hy
        rw [esz] at hl h1000
        rw [eb]
        exact ⟨_, _, b, g, gk, hB n b e3 (by omega) hei h1000 (by omega)⟩
      | if_ => exact hI i _ (by unfold wfT; exact ⟨(wfBs_all _ _).mpr hws, hww⟩) rfl hi he h1000 (by omega)
      | either =>
        have : eiT (.mk .either n th bs) = true := by
          match bs, hww with
          | [a, b], _ => unfold eiT; rw [blkT_mk]; rfl
        rw [this] at he; cases he
      | both =>
        have eb : blkT (.mk .both n th bs) = bothB bs := by unfold bothB; rw [blkT_mk, blkT_mk]; cases bs <;> rfl
        replace hww : 2 ≤ bs.length := hww
        show (lays kb r).both bs _
        rw [eb] at hl h1000 ⊢
        refine hO i bs hws hi (fun b hb y hy => ?_) hww h1000 (by omega)
        rw [ei_both n th bs hww] at he
        simpa using List.any_eq_false.mp he y (List.mem_flatten.mpr ⟨b, hb, hy⟩)
      | again => exact hA i _ (by unfold wfT; exact ⟨(wfBs_all _ _).mpr hws, hww⟩) rfl hi he h1000 (by omega)
      | recipe => exact hww
    · -- if
      obtain ⟨w, n, th, bs⟩ := y
      obtain rfl : w = .if_ := hv
      unfold wfT at hw
      obtain ⟨hws, hww⟩ := hw
      rw [wfBs_all] at hws
      match bs, hww with
      | [a, b], _ =>
        have e2 := ei_two .if_ n th a b (.inl rfl)
        rw [e2] at he
        simp only [Bool.or_eq_false_iff] at he
        have hsz : szF ((Vbwbab.flatAll k).take i) (blkT (.mk .if_ n th [a, b])) = szF ((Vbwbab.flatAll k).take i) (blkB a) + szF ((Vbwbab.flatAll k).take i) (blkB b) + 1 := by rw [blkT_mk]; rfl
        rw [hsz] at hl h1000
        refine ⟨a, b, _, _, rfl, hB i a (hws a (by simp)) hi (fun y hy => by simpa using List.any_eq_false.mp he.2.1 y hy) (by omega) (by omega), hB i b (hws b (by simp)) hi (fun y hy => by simpa using List.any_eq_false.mp he.2.2 y hy) (by omega) (by omega), by rw [blkT_mk]; rfl⟩
    · -- both
      have hsz := szF_both ((Vbwbab.flatAll k).take i) bs h2
      have hlen : bs.length ≤ (bs.map fun b => szF ((Vbwbab.flatAll k).take i) (blkB b)).sum := by
        have := sum_ge (l := bs.map fun b => szF ((Vbwbab.flatAll k).take i) (blkB b)) (fun x hx => by
          obtain ⟨y, _, rfl⟩ := List.mem_map.mp hx
          exact sz_pos _)
        simpa using this
      obtain ⟨j, l, rfl⟩ : ∃ j l, bs = j ++ [l] := ⟨bs.dropLast, bs.getLast (by intro e; rw [e] at h2; simp at h2), (List.dropLast_concat_getLast _).symm⟩
      have hj : 1 ≤ j.length := by simp at h2; omega
      have esum : ((j ++ [l]).map fun b => szF ((Vbwbab.flatAll k).take i) (blkB b)).sum = (j.map fun b => szF ((Vbwbab.flatAll k).take i) (blkB b)).sum + szF ((Vbwbab.flatAll k).take i) (blkB l) := by simp
      rw [esum] at hsz
      have hjl : j.length ≤ (j.map fun b => szF ((Vbwbab.flatAll k).take i) (blkB b)).sum := by
        have := sum_ge (l := j.map fun b => szF ((Vbwbab.flatAll k).take i) (blkB b)) (fun x hx => by
          obtain ⟨y, _, rfl⟩ := List.mem_map.mp hx
          exact sz_pos _)
        simpa using this
      have hll : 1 ≤ szF ((Vbwbab.flatAll k).take i) (blkB l) := sz_pos _
      have hlen2 : (j ++ [l]).length = j.length + 1 := by simp
      rw [hlen2] at hsz
      refine ⟨by rw [hlen2]; omega, j, l, Vbwbab.flat ((Vbwbab.flatAll k).take i) (bothB j), Vbwbab.flat ((Vbwbab.flatAll k).take i) (blkB l), rfl, ?_, hB i l (hw l (by simp)) hi (he l (by simp)) (by omega) (by omega), by rw [bothB_snoc j l hj]; rfl⟩
      by_cases c : 2 ≤ j.length
      · left
        have hszj := szF_both ((Vbwbab.flatAll k).take i) j c
        exact ⟨by rw [hlen2]; omega, hO i j (fun b hb => hw b (by simp [hb])) hi (fun b hb => he b (by simp [hb])) c (by omega) (by omega)⟩
      · right
        obtain ⟨f, rfl⟩ : ∃ f, j = [f] := by
          match j, hj, c with
          | [f], _, _ => exact ⟨f, rfl⟩
          | a :: b :: q, _, c => exact absurd (by simp) c
        have e1 : bothB [f] = blkB f := by unfold bothB; rw [blkT_mk]; rfl
        rw [e1]
        have es : ([f].map fun b => szF ((Vbwbab.flatAll k).take i) (blkB b)).sum = szF ((Vbwbab.flatAll k).take i) (blkB f) := by simp
        have el : [f].length = 1 := rfl
        rw [es, el] at hsz
        exact ⟨f, rfl, hB i f (hw f (by simp)) hi (he f (by simp)) (by omega) (by omega)⟩
    · -- again
      obtain ⟨w, n, th, bs⟩ := y
      obtain rfl : w = .again := hv
      unfold wfT at hw
      obtain ⟨hws, hww⟩ := hw
      rw [wfBs_all] at hws
      match bs, hww with
      | [a], _ =>
        have e2 : eiT (.mk .again n th [a]) = a.any eiT := by
          unfold eiT
          rw [blkT_mk]
          show Vbwbzz.hasEither (blkB a) = _
          rw [ei_body]; rfl
        rw [e2] at he
        have hsz : szF ((Vbwbab.flatAll k).take i) (blkT (.mk .again n th [a])) = szF ((Vbwbab.flatAll k).take i) (blkB a) + 1 := by rw [blkT_mk]; rfl
        rw [hsz] at hl h1000
        exact ⟨a, _, rfl, hB i a (hws a (by simp)) hi (fun y hy => by simpa using List.any_eq_false.mp he y hy) (by omega) (by omega), by rw [blkT_mk]; rfl⟩
/-- a recipe's body, laid as its block -/
theorem lays_recipe {k : Book} {kb : Bk} (h : Laid k kb) (R : RelK k kb) {i : Nat} (hi : i < kb.recs.length) : ∃ nm u b, kb.recs[i]? = some (nm, u) ∧ u.bodies[0]? = some b ∧ (lays kb 120).body b ((Vbwbab.flatAll k).getD i .skip) ∧ Vbwbab.size ((Vbwbab.flatAll k).getD i .skip) ≤ 30 := by
  obtain ⟨⟨nm, u⟩, g⟩ : ∃ x, kb.recs[i]? = some x := ⟨_, List.getElem?_eq_getElem hi⟩
  obtain ⟨hh, b, e1, e2, e3, e4⟩ := h.rel.body i nm u g
  have gk : u.bodies[0]? = some b := by rw [e1]; rfl
  have ef := flatAll_at k i _ e2
  have eb : (Vbwbab.flatAll k).getD i .skip = Vbwbab.flat ((Vbwbab.flatAll k).take i) (blkB b) := by rw [List.getD_eq_getElem?_getD, ef]; rfl
  have hth := R.th i _ _ g
  rw [e1] at hth
  have hth' : hh = Vbwbab.size ((Vbwbab.flatAll k).getD i .skip) := hth
  have hei : ∀ y ∈ b, eiT y = false := by
    have := ei_recipe h e2
    rw [ei_body] at this
    exact fun y hy => by simpa using List.any_eq_false.mp this y hy
  have hs : szF ((Vbwbab.flatAll k).take i) (blkB b) ≤ 30 := by unfold szF; rw [← eb]; omega
  have ten := h.rel.ten
  refine ⟨_, _, b, g, gk, ?_, by omega⟩
  rw [eb]
  exact (lays_all h 120).1 i b e3 (by omega) hei (by omega) (by omega)
/-- a net's moves are few -/
theorem net_len : ∀ (x : Block) (a b n : Nat), (Vbwbab.netOf x a b n).1.length ≤ 3 * Vbwbab.size x
  | .skip, a, b, n => by simp [Vbwbab.netOf, Vbwbab.size]
  | .step _, a, b, n => by simp [Vbwbab.netOf, Vbwbab.size]
  | .call _, a, b, n => by simp [Vbwbab.netOf, Vbwbab.size]
  | .seq x y, a, b, n => by
    have h1 := net_len x a n (n + 1)
    have h2 := net_len y n b (Vbwbab.netOf x a n (n + 1)).2
    simp only [Vbwbab.netOf, Vbwbab.size, List.length_append]; omega
  | .cond c x y, a, b, n => by
    have h1 := net_len x n b (n + 2)
    have h2 := net_len y (n + 1) b (Vbwbab.netOf x n b (n + 2)).2
    simp only [Vbwbab.netOf, Vbwbab.size, List.length_append, List.length_cons]; omega
  | .either x y, a, b, n => by
    have h1 := net_len x n b (n + 2)
    have h2 := net_len y (n + 1) b (Vbwbab.netOf x n b (n + 2)).2
    simp only [Vbwbab.netOf, Vbwbab.size, List.length_append, List.length_cons]; omega
  | .both x y, a, b, n => by
    have h1 := net_len x n (n + 2) (n + 4)
    have h2 := net_len y (n + 1) (n + 3) (Vbwbab.netOf x n (n + 2) (n + 4)).2
    simp only [Vbwbab.netOf, Vbwbab.size, List.length_append, List.length_cons, List.length_nil]; omega
  | .loop x c, a, b, n => by
    have h1 := net_len x n (n + 1) (n + 2)
    simp only [Vbwbab.netOf, Vbwbab.size, List.length_append, List.length_cons, List.length_nil]; omega
theorem net_few : ∀ (x : Block) (a b n : Nat), ∀ mv ∈ (Vbwbab.netOf x a b n).1, mv.pre.length ≤ 2 ∧ mv.post.length ≤ 2
  | .skip, a, b, n, mv, h => by simp [Vbwbab.netOf] at h; subst h; simp
  | .step _, a, b, n, mv, h => by simp [Vbwbab.netOf] at h; subst h; simp
  | .call _, a, b, n, mv, h => by simp [Vbwbab.netOf] at h; subst h; simp
  | .seq x y, a, b, n, mv, h => by
    simp only [Vbwbab.netOf, List.mem_append] at h
    rcases h with h | h
    · exact net_few x _ _ _ mv h
    · exact net_few y _ _ _ mv h
  | .cond c x y, a, b, n, mv, h => by
    simp only [Vbwbab.netOf, List.mem_append, List.mem_cons] at h
    rcases h with h | h | h | h
    · subst h; simp
    · subst h; simp
    · exact net_few x _ _ _ mv h
    · exact net_few y _ _ _ mv h
  | .either x y, a, b, n, mv, h => by
    simp only [Vbwbab.netOf, List.mem_append, List.mem_cons] at h
    rcases h with h | h | h | h
    · subst h; simp
    · subst h; simp
    · exact net_few x _ _ _ mv h
    · exact net_few y _ _ _ mv h
  | .both x y, a, b, n, mv, h => by
    simp only [Vbwbab.netOf, List.mem_append, List.mem_cons, List.not_mem_nil, or_false] at h
    rcases h with h | h | h | h
    · subst h; simp
    · exact net_few x _ _ _ mv h
    · exact net_few y _ _ _ mv h
    · subst h; simp
  | .loop x c, a, b, n, mv, h => by
    simp only [Vbwbab.netOf, List.mem_append, List.mem_cons, List.not_mem_nil, or_false] at h
    rcases h with h | h | h | h
    · subst h; simp
    · exact net_few x _ _ _ mv h
    · subst h; simp
    · subst h; simp
end Bm
end

section
set_option autoImplicit false
set_option linter.all false
/-! The works' lines, as the specification reads them. -/
namespace Bw
open Vbwbab (Book)
open Bm
def toW (k : Book) (p : PS) : Vbwbzz.Works := { book := k, stuffs := p.stuffs, vessels := p.vessels, units := p.units, claims := p.claims, takes := p.takes, gives := p.gives, doings := p.doings }
/-! ### the signs -/
theorem fmOf_sg (w : List Nat) : fmOf (w.map sg) = fmOf w := by
  cases e : fmOf w with
  | some f =>
    have := fmOf_some e
    subst this
    have e2 : (kw f.s).map sg = kw f.s := by cases f <;> decide +kernel
    rw [e2, fmOf_kw]
  | none =>
    cases e2 : fmOf (w.map sg) with
    | none => rfl
    | some f =>
      have h := fmOf_some e2
      have h2 : w = kw f.s := map_sg_eq h (by cases f <;> decide +kernel)
      exact absurd h2 (fmOf_none e f)
theorem kw_sg {w : List Nat} {f : Fm} (h : fmOf w = some f) : w.map sg = w := by
  have := fmOf_some h
  subst this
  cases f <;> decide +kernel
theorem num_sg {w : List Nat} {n : Nat} (h : Vbwbab.numOf w = some n) : w.map sg = w := by
  unfold Vbwbab.numOf at h
  split at h
  · cases h
  · rename_i hc
    have ha : w.all Vbwbab.digit = true := by
      cases e : w.all Vbwbab.digit with
      | true => rfl
      | false => exact absurd (.inr (.inr (.inl e))) hc
    rw [List.all_eq_true] at ha
    conv => rhs; rw [← List.map_id w]
    exact List.map_congr_left fun c hc => sg_digit (ha c hc)
theorem formed_words {ws : List (List Nat)} (h : formed ws = true) : ∀ w ∈ ws, w.map sg = w := by
  obtain ⟨f, r, rfl, e1, e2, e3⟩ := formed_some h
  intro w hw
  rcases List.mem_cons.mp hw with e | hw
  · rw [e]; exact kw_sg (fmOf_kw f)
  · obtain ⟨i, hi⟩ := List.mem_iff_getElem?.mp hw
    by_cases c : i < f.names.length
    · have : w ∈ r.take f.names.length := List.mem_of_getElem? (i := i) (by rw [List.getElem?_take_of_lt c]; exact hi)
      exact name_sg (List.all_eq_true.mp e2 w this)
    · have hd : (r.drop f.names.length)[i - f.names.length]? = some w := by rw [List.getElem?_drop]; rw [show f.names.length + (i - f.names.length) = i by omega]; exact hi
      have hil := (List.getElem?_eq_some_iff.mp hi).1
      have h2 : f.nums[i - f.names.length]? = some (f.nums[i - f.names.length]'(by omega)) := List.getElem?_eq_getElem (by omega)
      have hz : (w, f.nums[i - f.names.length]'(by omega)) ∈ (r.drop f.names.length).zip f.nums := List.mem_of_getElem? (i := i - f.names.length) (by rw [List.getElem?_zip_eq_some]; exact ⟨hd, h2⟩)
      obtain ⟨n, en, _, _⟩ := numB_true (List.all_eq_true.mp e3 _ hz)
      exact num_sg en
theorem all_sg {l : List (List Nat)} : (l.map (List.map sg)).all Vbwbab.isName = l.all Vbwbab.isName := by
  rw [List.all_map]
  congr 1
  funext w
  exact isName_sg w
theorem val_sg (w : List Nat) : val (w.map sg) = val w := by unfold val; rw [numOf_sg]
theorem zipall_sg : ∀ (l : List (List Nat)) (ms : List Nat), ((l.map (List.map sg)).zip ms).all (fun x => numB 1 x.2 x.1) = (l.zip ms).all (fun x => numB 1 x.2 x.1)
  | [], _ => rfl
  | _ :: _, [] => rfl
  | w :: l, m :: ms => by
    have ih := zipall_sg l ms
    simp only [List.map_cons, List.zip_cons_cons, List.all_cons]
    rw [numB_sg, ih]
theorem val_nil : val [] = 0 := by decide
theorem getD_sg (l : List (List Nat)) (i : Nat) : val ((l.map (List.map sg)).getD i []) = val (l.getD i []) := by
  rw [List.getD_eq_getElem?_getD, List.getD_eq_getElem?_getD, List.getElem?_map]
  cases l[i]? with
  | none => rfl
  | some w => exact val_sg w
theorem formed_sg (ws : List (List Nat)) : formed (ws.map (List.map sg)) = formed ws := by
  cases ws with
  | nil => rfl
  | cons k r =>
    show (match fmOf (k.map sg) with | none => false | some f => _) = (match fmOf k with | none => false | some f => _)
    rw [fmOf_sg]
    cases fmOf k with
    | none => rfl
    | some f =>
      dsimp only
      rw [List.length_map, ← List.map_take, ← List.map_drop, all_sg, zipall_sg, getD_sg, getD_sg]
theorem line_sg (p : PS) (ws : List (List Nat)) : kindL p (ws.map (List.map sg)) = kindL p ws ∧ (kindL p ws = 0 → takeL p (ws.map (List.map sg)) = takeL p ws) := by
  by_cases h : formed ws = true
  · have e : ws.map (List.map sg) = ws := by
      conv => rhs; rw [← List.map_id ws]
      exact List.map_congr_left fun w hw => formed_words h w hw
    rw [e]; exact ⟨rfl, fun _ => rfl⟩
  · unfold kindL
    rw [formed_sg, if_neg h, if_neg h]
    exact ⟨rfl, fun z => by cases z⟩
/-! ### a line -/
theorem num_iff (m : Nat) (b : List Nat) : Vbwbzz.num 1 m b = if numB 1 m b = true then some (val b) else none := by
  unfold Vbwbzz.num numB val
  rw [numOf_same]
  cases Vbwbab.numOf b with
  | none => rfl
  | some n =>
    dsimp only
    by_cases c : 1 ≤ n ∧ n ≤ m
    · rw [if_pos c, if_pos (by rw [Bool.and_eq_true]; exact ⟨decide_eq_true (by omega), decide_eq_true (by omega)⟩)]; rfl
    · rw [if_neg c, if_neg]
      intro z
      rw [Bool.and_eq_true] at z
      have z1 := of_decide_eq_true z.1
      have z2 := of_decide_eq_true z.2
      exact c ⟨by omega, by omega⟩
theorem pairAt_any (l : List (Nat × Nat × Nat)) (i j : Nat) : (pairAt l i j).isSome = l.any fun x => x.1 == i && x.2.1 == j := by
  unfold pairAt
  rw [Option.isSome_map]
  induction l with
  | nil => rfl
  | cons x r ih =>
    rw [List.find?_cons, List.any_cons]
    cases h : (x.1 == i && x.2.1 == j) with
    | true => rfl
    | false => rw [ih]; simp
theorem idx_at {l : List (List Nat)} {w : List Nat} {i : Nat} (h : idx l w = some i) : l[i]? = some w := by
  unfold idx Vbwbab.indexOf at h
  split at h
  · rename_i hc
    cases h
    have hex : ∃ x, x ∈ l ∧ (fun z : List Nat => z == w) x = true := ⟨w, List.contains_iff_mem.mp hc, by simp⟩
    have hl := List.findIdx_lt_length_of_exists (p := fun z : List Nat => z == w) (xs := l) hex
    have hg := List.findIdx_getElem (p := fun z : List Nat => z == w) (xs := l) (w := hl)
    rw [List.getElem?_eq_getElem hl]
    simpa using hg
  · cases h
theorem idx_eq {l : List (List Nat)} {a b : List Nat} {i j : Nat} (h1 : idx l a = some i) (h2 : idx l b = some j) : i = j ↔ a = b := by
  constructor
  · intro e
    subst e
    have := (idx_at h1).symm.trans (idx_at h2)
    exact Option.some.inj this
  · intro e
    subst e
    exact Option.some.inj (h1.symm.trans h2)
theorem T_stuff : Vbwbzz.text "stuff" = kw Fm.stuff.s := rfl
theorem T_vessel : Vbwbzz.text "vessel" = kw Fm.vessel.s := rfl
theorem T_unit : Vbwbzz.text "unit" = kw Fm.unit.s := rfl
theorem T_claim : Vbwbzz.text "claim" = kw Fm.claim.s := rfl
theorem T_take : Vbwbzz.text "take" = kw Fm.take.s := rfl
theorem T_give : Vbwbzz.text "give" = kw Fm.give.s := rfl
theorem T_charge : Vbwbzz.text "charge" = kw Fm.charge.s := rfl
theorem T_pour : Vbwbzz.text "pour" = kw Fm.pour.s := rfl
theorem T_empty : Vbwbzz.text "empty" = kw Fm.empty.s := rfl
theorem T_turn : Vbwbzz.text "turn" = kw Fm.turn.s := rfl
theorem T_ship : Vbwbzz.text "ship" = kw Fm.ship.s := rfl
theorem kw_iff (f g : Fm) : (kw f.s = kw g.s) = (f = g) := propext ⟨fm_inj, fun h => by rw [h]⟩
theorem line_none (w : Vbwbzz.Works) {k : List Nat} (h : fmOf k = none) (r : List (List Nat)) : Vbwbzz.lineOf w (k :: r) = .error 1 := by
  have n := fmOf_none h
  match r with
  | [] => rfl
  | [_] => simp only [Vbwbzz.lineOf, T_stuff, n, if_false]
  | [_, _] => simp only [Vbwbzz.lineOf, T_vessel, T_unit, T_ship, n, if_false]
  | [_, _, _] => simp only [Vbwbzz.lineOf, T_claim, T_take, T_give, T_empty, n, if_false]
  | [_, _, _, _] => simp only [Vbwbzz.lineOf, T_charge, T_pour, n, if_false]
  | [_, _, _, _, _] => rfl
  | [_, _, _, _, _, _] => simp only [Vbwbzz.lineOf, T_turn, n, if_false]
  | _ :: _ :: _ :: _ :: _ :: _ :: _ :: _ => rfl
theorem line_bad (w : Vbwbzz.Works) (f : Fm) (r : List (List Nat)) (h : r.length ≠ f.names.length + f.nums.length) : Vbwbzz.lineOf w (kw f.s :: r) = .error 1 := by
  match r with
  | [] => rfl
  | [_] => cases f <;> first | exact absurd rfl h | simp only [Vbwbzz.lineOf, T_stuff, kw_iff, reduceCtorEq, if_false]
  | [_, _] => cases f <;> first | exact absurd rfl h | simp only [Vbwbzz.lineOf, T_vessel, T_unit, T_ship, kw_iff, reduceCtorEq, if_false]
  | [_, _, _] => cases f <;> first | exact absurd rfl h | simp only [Vbwbzz.lineOf, T_claim, T_take, T_give, T_empty, kw_iff, reduceCtorEq, if_false]
  | [_, _, _, _] => cases f <;> first | exact absurd rfl h | simp only [Vbwbzz.lineOf, T_charge, T_pour, kw_iff, reduceCtorEq, if_false]
  | [_, _, _, _, _] => rfl
  | [_, _, _, _, _, _] => cases f <;> first | exact absurd rfl h | simp only [Vbwbzz.lineOf, T_turn, kw_iff, reduceCtorEq, if_false]
  | _ :: _ :: _ :: _ :: _ :: _ :: _ :: _ => rfl
/-- what a line does, both ways -/
def LineOk (k : Book) (p : PS) (ws : List (List Nat)) : Prop := Vbwbzz.lineOf (toW k p) ws = if kindL p ws = 0 then .ok (toW k (takeL p ws)) else .error (kindL p ws)
section
variable {k : Book} {p : PS}
theorem toW_ln (x : Lg) (t : List Nat) : toW k (p.addLn x t) = toW k p := rfl
theorem formed_eq (f : Fm) (r : List (List Nat)) : formed (kw f.s :: r) = (decide (r.length = f.names.length + f.nums.length) && ((r.take f.names.length).all Vbwbab.isName && (((r.drop f.names.length).zip f.nums).all (fun x => numB 1 x.2 x.1) && (decide (f ≠ .turn) || decide (val ((r.drop f.names.length).getD 0 []) ≤ val ((r.drop f.names.length).getD 1 [])))))) := by
  show (match fmOf (kw f.s) with | none => false | some f => _) = _
  rw [fmOf_kw]
theorem lineOk_of {f : Fm} {r : List (List Nat)} (h1 : formed (kw f.s :: r) = false → Vbwbzz.lineOf (toW k p) (kw f.s :: r) = .error 1)
    (h2 : formed (kw f.s :: r) = true → Vbwbzz.lineOf (toW k p) (kw f.s :: r) = if kindF p f (r.take f.names.length) = 0 then .ok (toW k (takeF p f (r.take f.names.length) ((r.drop f.names.length).map val))) else .error (kindF p f (r.take f.names.length))) : LineOk k p (kw f.s :: r) := by
  unfold LineOk
  cases e : formed (kw f.s :: r) with
  | false =>
    have : kindL p (kw f.s :: r) = 1 := by unfold kindL; rw [e, if_neg (by simp)]
    rw [this, if_neg (by decide)]
    exact h1 e
  | true =>
    rw [kindL_of e, h2 e]
    have : toW k (takeL p (kw f.s :: r)) = toW k (takeF p f (r.take f.names.length) ((r.drop f.names.length).map val)) := by
      unfold takeL
      simp only [fmOf_kw]
      generalize Vbwbzz.joined (kw f.s :: r) = t
      unfold takeF
      cases grp f with
      | new x => cases x <;> rfl
      | pair x => dsimp only; rw [numsOf_addLn]; cases x <;> rfl
      | doing => dsimp only; rw [numsOf_addLn]; rfl
    rw [this]
theorem namesOk_eq (l : List (List Nat)) (x : Vbwbzz.Read Vbwbzz.Works) : Vbwbzz.namesOk l x = if l.all Vbwbab.isName = true then x else .error 1 := rfl
theorem number_eq (m : Nat) (b : List Nat) (g : Nat → Vbwbzz.Read Vbwbzz.Works) : Vbwbzz.number 1 m b g = if numB 1 m b = true then g (val b) else .error 1 := by
  unfold Vbwbzz.number
  rw [num_iff]
  cases numB 1 m b <;> rfl
theorem end_new {o : Vbwbzz.Works} {c : Bool} {n m : Nat} (h : n ≤ m) : (if c = true then Except.error 2 else if m ≤ n then Except.error 5 else Except.ok o : Vbwbzz.Read Vbwbzz.Works) = if (if c = true then 2 else if n = m then 5 else 0) = 0 then .ok o else .error (if c = true then 2 else if n = m then 5 else 0) := by
  cases c with
  | true => rfl
  | false =>
    by_cases e : n = m
    · subst e; simp
    · have e2 : ¬ m ≤ n := by omega
      simp [e, e2]
theorem line_new (F : Fits p) (x : Nw) (r : List (List Nat)) (hl : r.length = x.f.names.length + x.f.nums.length) : LineOk k p (kw x.f.s :: r) := by
  have hs := F.s
  have hv := F.v
  have hu := F.u
  cases x with
  | stuff =>
    match r, hl with
    | [n], _ =>
      have eL : Vbwbzz.lineOf (toW k p) [kw Fm.stuff.s, n] = if Vbwbab.isName n = true then (if p.stuffs.contains n = true then .error 2 else if 12 ≤ p.stuffs.length then .error 5 else .ok (toW k (p.addNew n 0 .stuff))) else .error 1 := by
        simp only [Vbwbzz.lineOf, T_stuff, if_true, namesOk_eq, List.all_cons, List.all_nil, Bool.and_true]; rfl
      refine lineOk_of (f := .stuff) (fun e => ?_) fun e => ?_
      · rw [formed_eq] at e
        have e' : Vbwbab.isName n = false := by simpa [Fm.names, Fm.nums] using e
        exact eL.trans (by rw [e']; rfl)
      · rw [formed_eq] at e
        have e' : Vbwbab.isName n = true := by simpa [Fm.names, Fm.nums] using e
        refine eL.trans ?_
        rw [if_pos e']
        exact end_new hs
  | vessel =>
    match r, hl with
    | [n, c], _ =>
      have eL : Vbwbzz.lineOf (toW k p) [kw Fm.vessel.s, n, c] = if Vbwbab.isName n = true then (if numB 1 1000000 c = true then (if (p.vessels.map (·.1)).contains n = true then .error 2 else if 12 ≤ p.vessels.length then .error 5 else .ok (toW k (p.addNew n (val c) .vessel))) else .error 1) else .error 1 := by
        simp only [Vbwbzz.lineOf, T_vessel, if_true, namesOk_eq, number_eq, List.all_cons, List.all_nil, Bool.and_true]; rfl
      refine lineOk_of (f := .vessel) (fun e => ?_) fun e => ?_
      · rw [formed_eq] at e
        have e' : Vbwbab.isName n = true → numB 1 1000000 c = false := by simpa [Fm.names, Fm.nums] using e
        refine eL.trans ?_
        cases h1 : Vbwbab.isName n with
        | false => rfl
        | true => rw [if_pos rfl, e' h1]; rfl
      · rw [formed_eq] at e
        have e' : Vbwbab.isName n = true ∧ numB 1 1000000 c = true := by simpa [Fm.names, Fm.nums] using e
        refine eL.trans ?_
        rw [if_pos e'.1, if_pos e'.2]
        have z := end_new (o := toW k (p.addNew n (val c) .vessel)) (c := (p.vessels.map (·.1)).contains n) (n := p.vessels.length) (m := 12) hv
        rw [z]
        have ek : kindF p .vessel [n] = if (p.vessels.map (·.1)).contains n = true then 2 else if p.vessels.length = 12 then 5 else 0 := by
          show (if (p.vessels.map (·.1)).contains n = true then 2 else if (p.vessels.map (·.1)).length = 12 then 5 else 0) = _
          rw [List.length_map]
        show _ = if kindF p .vessel [n] = 0 then Except.ok (toW k (p.addNew n ([val c].sum) .vessel)) else Except.error (kindF p .vessel [n])
        rw [ek]; rfl
  | unit =>
    match r, hl with
    | [n, c], _ =>
      have eL : Vbwbzz.lineOf (toW k p) [kw Fm.unit.s, n, c] = if Vbwbab.isName n = true then (if numB 1 99 c = true then (if (p.units.map (·.1)).contains n = true then .error 2 else if 6 ≤ p.units.length then .error 5 else .ok (toW k (p.addNew n (val c) .unit))) else .error 1) else .error 1 := by
        simp only [Vbwbzz.lineOf, T_vessel, T_unit, kw_iff, reduceCtorEq, if_false, if_true, namesOk_eq, number_eq, List.all_cons, List.all_nil, Bool.and_true]; rfl
      refine lineOk_of (f := .unit) (fun e => ?_) fun e => ?_
      · rw [formed_eq] at e
        have e' : Vbwbab.isName n = true → numB 1 99 c = false := by simpa [Fm.names, Fm.nums] using e
        refine eL.trans ?_
        cases h1 : Vbwbab.isName n with
        | false => rfl
        | true => rw [if_pos rfl, e' h1]; rfl
      · rw [formed_eq] at e
        have e' : Vbwbab.isName n = true ∧ numB 1 99 c = true := by simpa [Fm.names, Fm.nums] using e
        refine eL.trans ?_
        rw [if_pos e'.1, if_pos e'.2]
        have z := end_new (o := toW k (p.addNew n (val c) .unit)) (c := (p.units.map (·.1)).contains n) (n := p.units.length) (m := 6) hu
        rw [z]
        have ek : kindF p .unit [n] = if (p.units.map (·.1)).contains n = true then 2 else if p.units.length = 6 then 5 else 0 := by
          show (if (p.units.map (·.1)).contains n = true then 2 else if (p.units.map (·.1)).length = 6 then 5 else 0) = _
          rw [List.length_map]
        show _ = if kindF p .unit [n] = 0 then Except.ok (toW k (p.addNew n ([val c].sum) .unit)) else Except.error (kindF p .unit [n])
        rw [ek]; rfl
end
end Bw
end

section
set_option autoImplicit false
set_option linter.all false
/-! The works' lines of claims, takes, gives and doings. -/
namespace Bw
open Vbwbab (Book)
open Bm
section
variable {k : Book} {p : PS}
/-- a name looked up -/
def lk (l : List (List Nat)) (b : List Nat) (f : Nat → Vbwbzz.Read Vbwbzz.Works) : Vbwbzz.Read Vbwbzz.Works := match idx l b with
  | none => .error 3
  | some i => f i
def lkD (l : List (List Nat)) (b : List Nat) (f : Nat → Vbwbzz.Read Vbwbzz.Doing) : Vbwbzz.Read Vbwbzz.Doing := match idx l b with
  | none => .error 3
  | some i => f i
structure Nm (k : Book) (p : PS) : Prop where
  r : Vbwbab.recipeNames k = p.bk.names
  s : Vbwbab.stepNames k = p.bk.snames
def Pr.wh : Pr → Wh
  | .claim => .recipe | .take => .step | .give => .step
theorem pair_spec (N : Nm k p) (x : Pr) (a u n : List Nat) : Vbwbzz.lineOf (toW k p) [kw x.f.s, a, u, n] = if (Vbwbab.isName a && Vbwbab.isName u) = true then (if numB 1 99 n = true then lk (p.told x.wh) a (fun i => lk (p.told .unit) u fun j => if ((p.prs x).any fun y => y.1 == i && y.2.1 == j) = true then .error 2 else if 60 ≤ (p.prs x).length then .error 5 else .ok (toW k (p.addPair i j (val n) x))) else .error 1) else .error 1 := by
  cases x with
  | claim =>
    simp only [Vbwbzz.lineOf, T_claim, T_take, T_give, T_empty, Pr.f, kw_iff, reduceCtorEq, if_false, if_true, Vbwbzz.unitLine, namesOk_eq, number_eq, List.all_cons, List.all_nil, Bool.and_true]
    show (if _ then (if _ then Vbwbzz.told (Vbwbab.recipeNames k) a _ else _) else _) = _
    rw [N.r]; rfl
  | take =>
    simp only [Vbwbzz.lineOf, T_claim, T_take, T_give, T_empty, Pr.f, kw_iff, reduceCtorEq, if_false, if_true, Vbwbzz.unitLine, namesOk_eq, number_eq, List.all_cons, List.all_nil, Bool.and_true]
    show (if _ then (if _ then Vbwbzz.told (Vbwbab.stepNames k) a _ else _) else _) = _
    rw [N.s]; rfl
  | give =>
    simp only [Vbwbzz.lineOf, T_claim, T_take, T_give, T_empty, Pr.f, kw_iff, reduceCtorEq, if_false, if_true, Vbwbzz.unitLine, namesOk_eq, number_eq, List.all_cons, List.all_nil, Bool.and_true]
    show (if _ then (if _ then Vbwbzz.told (Vbwbab.stepNames k) a _ else _) else _) = _
    rw [N.s]; rfl
theorem Pr.names_eq (x : Pr) : x.f.names = [x.wh, .unit] := by cases x <;> rfl
theorem Pr.nums_eq (x : Pr) : x.f.nums = [99] := by cases x <;> rfl
theorem line_pair (F : Fits p) (N : Nm k p) (x : Pr) (r : List (List Nat)) (hl : r.length = x.f.names.length + x.f.nums.length) : LineOk k p (kw x.f.s :: r) := by
  rw [x.names_eq, x.nums_eq] at hl
  match r, hl with
  | [a, u, n], _ =>
    have eL := pair_spec N x a u n
    have ef : formed (kw x.f.s :: [a, u, n]) = ((Vbwbab.isName a && Vbwbab.isName u) && numB 1 99 n) := by
      rw [formed_eq, x.names_eq, x.nums_eq]
      have : decide (x.f ≠ .turn) = true := by cases x <;> decide
      simp [this]
    have h60 := F.prs x
    refine lineOk_of (f := x.f) (fun e => ?_) fun e => ?_
    · rw [ef] at e
      rw [eL]
      cases h1 : (Vbwbab.isName a && Vbwbab.isName u) with
      | false => rfl
      | true =>
        rw [h1, Bool.true_and] at e
        rw [if_pos rfl, e]; rfl
    · rw [ef, Bool.and_eq_true] at e
      rw [eL, if_pos e.1, if_pos e.2, x.names_eq]
      show lk _ a _ = if kindF p x.f [a, u] = 0 then Except.ok (toW k (takeF p x.f [a, u] [val n])) else Except.error (kindF p x.f [a, u])
      have hg : grp x.f = .pair x := by cases x <;> rfl
      have kf : kindF p x.f [a, u] = kindPair p x [a, u] := by unfold kindF; rw [hg]
      have tf : takeF p x.f [a, u] [val n] = p.addPair ((numsOf p x.f [a, u]).getD 0 0) ((numsOf p x.f [a, u]).getD 1 0) (val n) x := by unfold takeF; rw [hg]; rfl
      have et : toldAll p x.f [a, u] = ((idx (p.told x.wh) a).isSome && (idx (p.told .unit) u).isSome) := by
        unfold toldAll
        rw [x.names_eq]
        simp
      have en : numsOf p x.f [a, u] = [(idx (p.told x.wh) a).getD 0, (idx (p.told .unit) u).getD 0] := by
        unfold numsOf
        rw [x.names_eq]
        simp
      rw [kf, tf]
      unfold kindPair
      rw [et, en]
      unfold lk
      cases e1 : idx (p.told x.wh) a with
      | none => rfl
      | some i =>
        cases e2 : idx (p.told .unit) u with
        | none => rfl
        | some j =>
          simp only [Option.isSome_some, Bool.and_self, if_true, Option.getD_some, List.getD_cons_zero, List.getD_cons_succ]
          rw [pairAt_any]
          exact end_new h60
theorem end_doing {o : Vbwbzz.Works} {n : Nat} (h : n ≤ 60) : (if 60 ≤ n then Except.error 5 else Except.ok o : Vbwbzz.Read Vbwbzz.Works) = if (if n = 60 then 5 else 0) = 0 then .ok o else .error (if n = 60 then 5 else 0) := by
  by_cases e : n = 60
  · subst e; rfl
  · have e2 : ¬ 60 ≤ n := by omega
    simp [e, e2]
/-- a doing's line -/
def dl (k : Book) (p : PS) (s : List Nat) (f : Nat → Vbwbzz.Read Vbwbzz.Doing) : Vbwbzz.Read Vbwbzz.Works := lk (p.told .step) s fun i => match f i with
  | .error e => .error e
  | .ok d => if 60 ≤ p.doings.length then .error 5 else .ok (toW k { p with doings := p.doings ++ [(i, d)] })
theorem dl_eq (N : Nm k p) (s : List Nat) (f : Nat → Vbwbzz.Read Vbwbzz.Doing) : Vbwbzz.doingLine (toW k p) s f = dl k p s f := by
  unfold Vbwbzz.doingLine dl lk
  show (match Vbwbzz.indexOf (Vbwbab.stepNames k) s with | none => _ | some i => _) = _
  rw [N.s]; rfl
theorem vin_eq (b : List Nat) (f : Nat → Vbwbzz.Read Vbwbzz.Doing) : Vbwbzz.vesselIn (toW k p) b f = lkD (p.told .vessel) b f := rfl
theorem sin_eq (b : List Nat) (f : Nat → Vbwbzz.Read Vbwbzz.Doing) : Vbwbzz.stuffIn (toW k p) b f = lkD (p.told .stuff) b f := rfl
theorem doing_case (F : Fits p) {f : Fm} {r : List (List Nat)} (hg : grp f = .doing) {ns xs : List (List Nat)} {s : List Nat} {g : Nat → Vbwbzz.Read Vbwbzz.Doing}
    (hns : r.take f.names.length = s :: ns) (hxs : r.drop f.names.length = xs)
    (eL : Vbwbzz.lineOf (toW k p) (kw f.s :: r) = if formed (kw f.s :: r) = true then dl k p s g else .error 1)
    (hT : f.names.head? = some .step)
    (hG : ∀ i, g i = if ((f.names.drop 1).zip ns).all (fun x => (idx (p.told x.1) x.2).isSome) = true then (if twice f (s :: ns) = true then .error 4 else .ok (doingOf (i :: ((f.names.drop 1).zip ns).map fun x => (idx (p.told x.1) x.2).getD 0) (xs.map val) f)) else .error 3) : LineOk k p (kw f.s :: r) := by
  refine lineOk_of (fun e => by rw [eL, e]; rfl) fun e => ?_
  rw [eL, if_pos e, hns, hxs]
  have kf : kindF p f (s :: ns) = kindDoing p f (s :: ns) := by unfold kindF; rw [hg]
  have tf : takeF p f (s :: ns) (xs.map val) = { p with doings := p.doings ++ [((numsOf p f (s :: ns)).getD 0 0, doingOf (numsOf p f (s :: ns)) (xs.map val) f)] } := by unfold takeF; rw [hg]
  obtain ⟨q, hq⟩ : ∃ q, f.names = .step :: q := by
    cases h : f.names with
    | nil => rw [h] at hT; cases hT
    | cons a q => rw [h] at hT; cases hT; exact ⟨q, rfl⟩
  have et : toldAll p f (s :: ns) = ((idx (p.told .step) s).isSome && ((f.names.drop 1).zip ns).all (fun x => (idx (p.told x.1) x.2).isSome)) := by
    unfold toldAll
    rw [hq]; rfl
  have en : numsOf p f (s :: ns) = (idx (p.told .step) s).getD 0 :: ((f.names.drop 1).zip ns).map fun x => (idx (p.told x.1) x.2).getD 0 := by
    unfold numsOf
    rw [hq]; rfl
  rw [kf, tf]
  unfold kindDoing dl lk
  rw [et, en]
  cases e1 : idx (p.told .step) s with
  | none => rfl
  | some i =>
    dsimp only
    rw [hG]
    simp only [Option.isSome_some, Bool.true_and, Option.getD_some, List.getD_cons_zero]
    cases ((f.names.drop 1).zip ns).all (fun x => (idx (p.told x.1) x.2).isSome) with
    | false => rfl
    | true =>
      simp only [if_true]
      cases twice f (s :: ns) with
      | true => rfl
      | false =>
        simp only [Bool.false_eq_true, if_false]
        exact end_doing F.d
theorem line_doing (F : Fits p) (N : Nm k p) (f : Fm) (hd : f.does = true) (r : List (List Nat)) (hl : r.length = f.names.length + f.nums.length) : LineOk k p (kw f.s :: r) := by
  cases f with
  | charge =>
    match r, hl with
    | [s, v, x, n], _ =>
      have ef : formed (kw Fm.charge.s :: [s, v, x, n]) = ((Vbwbab.isName s && (Vbwbab.isName v && Vbwbab.isName x)) && numB 1 1000000 n) := by
        rw [formed_eq]; simp [Fm.names, Fm.nums]
      refine doing_case F (ns := [v, x]) (xs := [n]) (s := s) (g := fun _ => lkD (p.told .vessel) v fun i => lkD (p.told .stuff) x fun j => .ok (.charge i j (val n))) rfl rfl rfl ?_ rfl fun i => ?_
      · rw [ef]
        simp only [Vbwbzz.lineOf, T_charge, if_true, namesOk_eq, List.all_cons, List.all_nil, Bool.and_true, num_iff, dl_eq N, vin_eq, sin_eq]
        cases (Vbwbab.isName s && (Vbwbab.isName v && Vbwbab.isName x)) with
        | false => rfl
        | true => cases numB 1 1000000 n <;> rfl
      · unfold lkD
        simp only [Fm.names, List.drop_succ_cons, List.drop_zero, List.zip_cons_cons, List.zip_nil_right, List.all_cons, List.all_nil, List.map_cons, List.map_nil]
        cases e1 : idx (p.told .vessel) v with
        | none => rfl
        | some a =>
          cases e2 : idx (p.told .stuff) x with
          | none => rfl
          | some b => rfl
  | pour =>
    match r, hl with
    | [s, v, x, n], _ =>
      have ef : formed (kw Fm.pour.s :: [s, v, x, n]) = ((Vbwbab.isName s && (Vbwbab.isName v && Vbwbab.isName x)) && numB 1 1000000 n) := by
        rw [formed_eq]; simp [Fm.names, Fm.nums]
      refine doing_case F (ns := [v, x]) (xs := [n]) (s := s) (g := fun _ => lkD (p.told .vessel) v fun i => lkD (p.told .vessel) x fun j => if i = j then .error 4 else .ok (.pour i j (val n))) rfl rfl rfl ?_ rfl fun i => ?_
      · rw [ef]
        simp only [Vbwbzz.lineOf, T_charge, T_pour, kw_iff, reduceCtorEq, if_false, if_true, namesOk_eq, List.all_cons, List.all_nil, Bool.and_true, num_iff, dl_eq N, vin_eq, sin_eq]
        cases (Vbwbab.isName s && (Vbwbab.isName v && Vbwbab.isName x)) with
        | false => rfl
        | true => cases numB 1 1000000 n <;> rfl
      · unfold lkD
        simp only [Fm.names, List.drop_succ_cons, List.drop_zero, List.zip_cons_cons, List.zip_nil_right, List.all_cons, List.all_nil, List.map_cons, List.map_nil]
        cases e1 : idx (p.told .vessel) v with
        | none => rfl
        | some a =>
          cases e2 : idx (p.told .vessel) x with
          | none => rfl
          | some b =>
            have et : twice .pour [s, v, x] = decide (v = x) := by unfold twice; rfl
            rw [et]
            simp only [Option.isSome_some, Bool.and_self, if_true, Option.getD_some]
            by_cases c : a = b
            · rw [if_pos c, decide_eq_true ((idx_eq e1 e2).mp c)]; rfl
            · rw [if_neg c, decide_eq_false (fun z => c ((idx_eq e1 e2).mpr z))]; rfl
  | empty =>
    match r, hl with
    | [s, v, x], _ =>
      have ef : formed (kw Fm.empty.s :: [s, v, x]) = (Vbwbab.isName s && (Vbwbab.isName v && Vbwbab.isName x)) := by
        rw [formed_eq]; simp [Fm.names, Fm.nums]
      refine doing_case F (ns := [v, x]) (xs := []) (s := s) (g := fun _ => lkD (p.told .vessel) v fun i => lkD (p.told .vessel) x fun j => if i = j then .error 4 else .ok (.empty i j)) rfl rfl rfl ?_ rfl fun i => ?_
      · rw [ef]
        simp only [Vbwbzz.lineOf, T_claim, T_take, T_give, T_empty, kw_iff, reduceCtorEq, if_false, if_true, namesOk_eq, List.all_cons, List.all_nil, Bool.and_true, dl_eq N, vin_eq]
      · unfold lkD
        simp only [Fm.names, List.drop_succ_cons, List.drop_zero, List.zip_cons_cons, List.zip_nil_right, List.all_cons, List.all_nil, List.map_cons, List.map_nil]
        cases e1 : idx (p.told .vessel) v with
        | none => rfl
        | some a =>
          cases e2 : idx (p.told .vessel) x with
          | none => rfl
          | some b =>
            have et : twice .empty [s, v, x] = decide (v = x) := by unfold twice; rfl
            rw [et]
            simp only [Option.isSome_some, Bool.and_self, if_true, Option.getD_some]
            by_cases c : a = b
            · rw [if_pos c, decide_eq_true ((idx_eq e1 e2).mp c)]; rfl
            · rw [if_neg c, decide_eq_false (fun z => c ((idx_eq e1 e2).mpr z))]; rfl
  | turn =>
    match r, hl with
    | [s, v, a, b, n, d], _ =>
      have ef : formed (kw Fm.turn.s :: [s, v, a, b, n, d]) = ((Vbwbab.isName s && (Vbwbab.isName v && (Vbwbab.isName a && Vbwbab.isName b))) && ((numB 1 1000 n && numB 1 1000 d) && decide (val n ≤ val d))) := by
        rw [formed_eq]; simp [Fm.names, Fm.nums]
      refine doing_case F (ns := [v, a, b]) (xs := [n, d]) (s := s) (g := fun _ => lkD (p.told .vessel) v fun i => lkD (p.told .stuff) a fun x => lkD (p.told .stuff) b fun y => if x = y then .error 4 else .ok (.turn i x y (val n) (val d))) rfl rfl rfl ?_ rfl fun i => ?_
      · rw [ef]
        simp only [Vbwbzz.lineOf, T_turn, if_true, namesOk_eq, List.all_cons, List.all_nil, Bool.and_true, num_iff, dl_eq N, vin_eq, sin_eq]
        cases (Vbwbab.isName s && (Vbwbab.isName v && (Vbwbab.isName a && Vbwbab.isName b))) with
        | false => rfl
        | true =>
          cases numB 1 1000 n with
          | false => rfl
          | true =>
            cases numB 1 1000 d with
            | false => rfl
            | true =>
              by_cases c : val n ≤ val d
              · have c2 : ¬ val d < val n := by omega
                simp [c, c2]
              · have c2 : val d < val n := by omega
                simp [c, c2]
      · unfold lkD
        simp only [Fm.names, List.drop_succ_cons, List.drop_zero, List.zip_cons_cons, List.zip_nil_right, List.all_cons, List.all_nil, List.map_cons, List.map_nil]
        cases e1 : idx (p.told .vessel) v with
        | none => rfl
        | some i1 =>
          cases e2 : idx (p.told .stuff) a with
          | none => rfl
          | some x =>
            cases e3 : idx (p.told .stuff) b with
            | none => rfl
            | some y =>
              have et : twice .turn [s, v, a, b] = decide (a = b) := by unfold twice; rfl
              rw [et]
              simp only [Option.isSome_some, Bool.and_self, if_true, Option.getD_some]
              by_cases c : x = y
              · rw [if_pos c, decide_eq_true ((idx_eq e2 e3).mp c)]; rfl
              · rw [if_neg c, decide_eq_false (fun z => c ((idx_eq e2 e3).mpr z))]; rfl
  | ship =>
    match r, hl with
    | [s, v], _ =>
      have ef : formed (kw Fm.ship.s :: [s, v]) = (Vbwbab.isName s && Vbwbab.isName v) := by
        rw [formed_eq]; simp [Fm.names, Fm.nums]
      refine doing_case F (ns := [v]) (xs := []) (s := s) (g := fun _ => lkD (p.told .vessel) v fun i => .ok (.ship i)) rfl rfl rfl ?_ rfl fun i => ?_
      · rw [ef]
        simp only [Vbwbzz.lineOf, T_vessel, T_unit, T_ship, kw_iff, reduceCtorEq, if_false, if_true, namesOk_eq, List.all_cons, List.all_nil, Bool.and_true, dl_eq N, vin_eq]
      · unfold lkD
        simp only [Fm.names, List.drop_succ_cons, List.drop_zero, List.zip_cons_cons, List.zip_nil_right, List.all_cons, List.all_nil, List.map_cons, List.map_nil]
        cases e1 : idx (p.told .vessel) v with
        | none => rfl
        | some a => rfl
  | _ => cases hd
/-- **A line**: as the specification reads it -/
theorem line_ok (F : Fits p) (N : Nm k p) (ws : List (List Nat)) (hne : ws ≠ []) : LineOk k p ws := by
  cases ws with
  | nil => exact absurd rfl hne
  | cons w r =>
    have bad : kindL p (w :: r) = 1 → Vbwbzz.lineOf (toW k p) (w :: r) = .error 1 → LineOk k p (w :: r) := fun h1 h2 => by
      unfold LineOk
      rw [h1, if_neg (by decide)]; exact h2
    cases e : fmOf w with
    | none =>
      refine bad ?_ (line_none _ e r)
      have hf : formed (w :: r) = false := by unfold formed; dsimp only; rw [e]
      unfold kindL
      rw [hf, if_neg (by simp)]
    | some f =>
      have := fmOf_some e
      subst this
      by_cases hl : r.length = f.names.length + f.nums.length
      · cases hg : grp f with
        | new x =>
          obtain rfl := grp_new hg
          exact line_new F x r hl
        | pair x =>
          obtain rfl := grp_pair hg
          exact line_pair F N x r hl
        | doing =>
          have hd : f.does = true := by cases f <;> first | rfl | (cases hg; done)
          exact line_doing F N f hd r hl
      · refine bad ?_ (line_bad _ f r hl)
        have hf : formed (kw f.s :: r) = false := by
          rw [formed_eq, decide_eq_false hl]; rfl
        unfold kindL
        rw [hf, if_neg (by simp)]
end
end Bw
end

section
set_option autoImplicit false
set_option linter.all false
/-! All lines. -/
namespace Bw
open Vbwbab (Book)
open Bm
theorem takeL_nm {k : Book} {p : PS} (N : Nm k p) (ws : List (List Nat)) : Nm k (takeL p ws) := ⟨by rw [takeL_bk]; exact N.r, by rw [takeL_bk]; exact N.s⟩
theorem lines_out {k : Book} : ∀ (ls : List (List Nat)) (n : Nat) (p : PS), Fits p → Nm k p →
    (∃ i kd, Vbwbzz.readFrom (toW k p) n ls = .error (i, kd) ∧ linesRun p ((numbered n ls).map fun l => (l.1, l.2.map (List.map sg))) = .error (-1000 - (100 * (i : Int) + (kd : Int)))) ∨
    (∃ p', Vbwbzz.readFrom (toW k p) n ls = .ok (toW k p') ∧ linesRun p ((numbered n ls).map fun l => (l.1, l.2.map (List.map sg))) = .ok p' ∧ p'.bk = p.bk ∧ Fits p')
  | [], n, p, F, N => .inr ⟨p, rfl, rfl, rfl, F⟩
  | l :: r, n, p, F, N => by
    have ew : Vbwbzz.wordsOf l = lwords l := wordsOf_eq l
    by_cases h : lwords l = []
    · have e1 : Vbwbzz.readFrom (toW k p) n (l :: r) = Vbwbzz.readFrom (toW k p) (n + 1) r := by
        conv => lhs; unfold Vbwbzz.readFrom
        rw [ew, h]; rfl
      have e2 : numbered n (l :: r) = numbered (n + 1) r := by
        conv => lhs; unfold numbered
        rw [if_pos h]
      rw [e1, e2]
      exact lines_out r (n + 1) p F N
    · have e2 : numbered n (l :: r) = (n, lwords l) :: numbered (n + 1) r := by
        conv => lhs; unfold numbered
        rw [if_neg h]
      have O := line_ok F N (lwords l) h
      unfold LineOk at O
      obtain ⟨s1, s2⟩ := line_sg p (lwords l)
      rw [e2, List.map_cons]
      by_cases c : kindL p (lwords l) = 0
      · rw [if_pos c] at O
        have e1 : Vbwbzz.readFrom (toW k p) n (l :: r) = Vbwbzz.readFrom (toW k (takeL p (lwords l))) (n + 1) r := by
          conv => lhs; unfold Vbwbzz.readFrom
          rw [ew, O]
        have e3 : linesRun p ((n, (lwords l).map (List.map sg)) :: (numbered (n + 1) r).map fun l => (l.1, l.2.map (List.map sg))) = linesRun (takeL p (lwords l)) ((numbered (n + 1) r).map fun l => (l.1, l.2.map (List.map sg))) := by
          conv => lhs; unfold linesRun
          rw [if_pos (by rw [s1]; exact c), s2 c]
        rw [e1, e3]
        rcases lines_out r (n + 1) (takeL p (lwords l)) (kind_fits F c) (takeL_nm N _) with h | ⟨p', h1, h2, h3, h4⟩
        · exact .inl h
        · exact .inr ⟨p', h1, h2, h3.trans (takeL_bk _ _), h4⟩
      · rw [if_neg c] at O
        refine .inl ⟨n, kindL p (lwords l), ?_, ?_⟩
        · unfold Vbwbzz.readFrom
          rw [ew, O]
        · unfold linesRun
          rw [if_neg (by rw [s1]; exact c), s1]
end Bw
end

section
set_option autoImplicit false
/-! What a block's net can come to: no place is ever marked twice. -/
namespace Bm
open Bw
open Vbwbab (Block Move)
abbrev St1 := Nat → Prop
def only (a : Nat) (S : St1) : Prop := ∀ p, S p ↔ p = a
def updS (S : St1) (pre post : List Nat) : St1 := fun p => (S p ∧ p ∉ pre) ∨ p ∈ post
/-- markings within a block from a to b; P + j is the place of its first move, if that is a step and begun -/
def Val (P : Nat) : Block → Nat → Nat → Nat → Nat → St1 → Prop
  | .skip, a, b, _, _, S => only a S ∨ only b S
  | .call _, a, b, _, _, S => only a S ∨ only b S
  | .step _, a, b, _, j, S => only a S ∨ only b S ∨ only (P + j) S
  | .seq x y, a, b, n, j, S => Val P x a n (n + 1) j S ∨ Val P y n b (Vbwbab.netOf x a n (n + 1)).2 (j + (Vbwbab.netOf x a n (n + 1)).1.length) S
  | .cond _ x y, a, b, n, j, S => only a S ∨ Val P x n b (n + 2) (j + 2) S ∨ Val P y (n + 1) b (Vbwbab.netOf x n b (n + 2)).2 (j + 2 + (Vbwbab.netOf x n b (n + 2)).1.length) S
  | .either x y, a, b, n, j, S => only a S ∨ Val P x n b (n + 2) (j + 2) S ∨ Val P y (n + 1) b (Vbwbab.netOf x n b (n + 2)).2 (j + 2 + (Vbwbab.netOf x n b (n + 2)).1.length) S
  | .both x y, a, b, n, j, S => only a S ∨ only b S ∨ ∃ S1 S2, Val P x n (n + 2) (n + 4) (j + 1) S1 ∧ Val P y (n + 1) (n + 3) (Vbwbab.netOf x n (n + 2) (n + 4)).2 (j + 1 + (Vbwbab.netOf x n (n + 2) (n + 4)).1.length) S2 ∧ ∀ p, S p ↔ S1 p ∨ S2 p
  | .loop x _, a, b, n, j, S => only a S ∨ only b S ∨ Val P x n (n + 1) (n + 2) (j + 1) S
/-- an action: a move made, a step's begin, a step's end -/
def Act (P : Nat) (ms : List Move) (j : Nat) (pre post : List Nat) : Prop := ∃ i mv, ms[i]? = some mv ∧ ((Vbwbzz.isStep mv.letter = false ∧ pre = mv.pre ∧ post = mv.post) ∨ (Vbwbzz.isStep mv.letter = true ∧ ((pre = mv.pre ∧ post = [P + (j + i)]) ∨ (pre = [P + (j + i)] ∧ post = mv.post))))
theorem act_cons {P : Nat} {mv : Move} {ms : List Move} {j : Nat} {pre post : List Nat} (h : Act P (mv :: ms) j pre post) :
    ((Vbwbzz.isStep mv.letter = false ∧ pre = mv.pre ∧ post = mv.post) ∨ (Vbwbzz.isStep mv.letter = true ∧ ((pre = mv.pre ∧ post = [P + j]) ∨ (pre = [P + j] ∧ post = mv.post)))) ∨ Act P ms (j + 1) pre post := by
  obtain ⟨i, m, hi, h⟩ := h
  cases i with
  | zero =>
    simp at hi; subst hi
    exact .inl h
  | succ i =>
    simp at hi
    refine .inr ⟨i, m, hi, ?_⟩
    rw [show j + 1 + i = j + (i + 1) by omega]; exact h
theorem act_append {P : Nat} {ms ns : List Move} {j : Nat} {pre post : List Nat} (h : Act P (ms ++ ns) j pre post) : Act P ms j pre post ∨ Act P ns (j + ms.length) pre post := by
  obtain ⟨i, m, hi, h⟩ := h
  by_cases c : i < ms.length
  · rw [List.getElem?_append_left c] at hi
    exact .inl ⟨i, m, hi, h⟩
  · rw [List.getElem?_append_right (by omega)] at hi
    refine .inr ⟨i - ms.length, m, hi, ?_⟩
    rw [show j + ms.length + (i - ms.length) = j + i by omega]; exact h
theorem act_nil {P j : Nat} {pre post : List Nat} (h : Act P [] j pre post) : False := by
  obtain ⟨i, m, hi, _⟩ := h
  simp at hi
theorem act_quiet {P : Nat} {j : Nat} {l : Nat} {pre post : List Nat} {A B : List Nat} (hl : Vbwbzz.isStep l = false) (h : (Vbwbzz.isStep (Move.mk l A B).letter = false ∧ pre = (Move.mk l A B).pre ∧ post = (Move.mk l A B).post) ∨ (Vbwbzz.isStep (Move.mk l A B).letter = true ∧ ((pre = (Move.mk l A B).pre ∧ post = [P + j]) ∨ (pre = [P + j] ∧ post = (Move.mk l A B).post)))) : pre = A ∧ post = B := by
  rcases h with ⟨_, h1, h2⟩ | ⟨h, _⟩
  · exact ⟨h1, h2⟩
  · have : Vbwbzz.isStep l = true := h
    rw [hl] at this; cases this
theorem act_step {P : Nat} {a b j s : Nat} {pre post : List Nat} (h : (Vbwbzz.isStep (Move.mk (Vbwbab.stepLetter s) [a] [b]).letter = false ∧ pre = (Move.mk (Vbwbab.stepLetter s) [a] [b]).pre ∧ post = (Move.mk (Vbwbab.stepLetter s) [a] [b]).post) ∨ (Vbwbzz.isStep (Move.mk (Vbwbab.stepLetter s) [a] [b]).letter = true ∧ ((pre = (Move.mk (Vbwbab.stepLetter s) [a] [b]).pre ∧ post = [P + j]) ∨ (pre = [P + j] ∧ post = (Move.mk (Vbwbab.stepLetter s) [a] [b]).post)))) : (pre = [a] ∧ post = [P + j]) ∨ (pre = [P + j] ∧ post = [b]) := by
  rcases h with ⟨h, _⟩ | ⟨_, h⟩
  · have h' : Vbwbzz.isStep (Vbwbab.stepLetter s) = false := h
    unfold Vbwbzz.isStep Vbwbab.stepLetter at h'
    rw [show (1 + 3 * s) % 3 = 1 by omega] at h'
    cases h'
  · exact h
theorem st0 : Vbwbzz.isStep 0 = false := by decide
theorem stY (c : Nat) : Vbwbzz.isStep (Vbwbab.yes c) = false := by
  unfold Vbwbzz.isStep Vbwbab.yes
  rw [show (2 + 3 * c) % 3 = 2 by omega]; decide
theorem stN (c : Nat) : Vbwbzz.isStep (Vbwbab.no_ c) = false := by
  unfold Vbwbzz.isStep Vbwbab.no_
  rw [show (3 + 3 * c) % 3 = 0 by omega]; decide
theorem stS (s : Nat) : Vbwbzz.isStep (Vbwbab.stepLetter s) = true := by
  unfold Vbwbzz.isStep Vbwbab.stepLetter
  rw [show (1 + 3 * s) % 3 = 1 by omega]; decide
/-- numbers grow -/
theorem net_up : ∀ (x : Block) (a b n : Nat), n ≤ (Vbwbab.netOf x a b n).2
  | .skip, _, _, n => Nat.le_refl n
  | .step _, _, _, n => Nat.le_refl n
  | .call _, _, _, n => Nat.le_refl n
  | .seq x y, a, b, n => by
    have h1 := net_up x a n (n + 1)
    have h2 := net_up y n b (Vbwbab.netOf x a n (n + 1)).2
    simp only [Vbwbab.netOf]; omega
  | .cond c x y, a, b, n => by
    have h1 := net_up x n b (n + 2)
    have h2 := net_up y (n + 1) b (Vbwbab.netOf x n b (n + 2)).2
    simp only [Vbwbab.netOf]; omega
  | .either x y, a, b, n => by
    have h1 := net_up x n b (n + 2)
    have h2 := net_up y (n + 1) b (Vbwbab.netOf x n b (n + 2)).2
    simp only [Vbwbab.netOf]; omega
  | .both x y, a, b, n => by
    have h1 := net_up x n (n + 2) (n + 4)
    have h2 := net_up y (n + 1) (n + 3) (Vbwbab.netOf x n (n + 2) (n + 4)).2
    simp only [Vbwbab.netOf]; omega
  | .loop x c, a, b, n => by
    have h1 := net_up x n (n + 1) (n + 2)
    simp only [Vbwbab.netOf]; omega
/-- a place within: the outer ones apart -/
def In (P n n' j len p : Nat) : Prop := (n ≤ p ∧ p < n') ∨ (P + j ≤ p ∧ p < P + (j + len))
theorem In.up {P n n' j len m m' i l p : Nat} (h : In P n n' j len p) (h1 : m ≤ n) (h2 : n' ≤ m') (h3 : i ≤ j) (h4 : j + len ≤ i + l) : In P m m' i l p := by
  rcases h with h | h
  · exact .inl ⟨by omega, by omega⟩
  · exact .inr ⟨by omega, by omega⟩
/-- where an action's places lie -/
theorem act_in {P : Nat} : ∀ (x : Block) (a b n j : Nat) (pre post : List Nat), Act P (Vbwbab.netOf x a b n).1 j pre post → pre ≠ [] ∧ (∀ p ∈ pre, p = a ∨ In P n (Vbwbab.netOf x a b n).2 j (Vbwbab.netOf x a b n).1.length p) ∧ (∀ p ∈ post, p = b ∨ In P n (Vbwbab.netOf x a b n).2 j (Vbwbab.netOf x a b n).1.length p)
  | .skip, a, b, n, j, pre, post, h => by
    rcases act_cons h with h | h
    · obtain ⟨rfl, rfl⟩ := act_quiet st0 h
      exact ⟨by simp, by simp, by simp⟩
    · exact (act_nil h).elim
  | .call _, a, b, n, j, pre, post, h => by
    rcases act_cons h with h | h
    · obtain ⟨rfl, rfl⟩ := act_quiet st0 h
      exact ⟨by simp, by simp, by simp⟩
    · exact (act_nil h).elim
  | .step s, a, b, n, j, pre, post, h => by
    rcases act_cons h with h | h
    · rcases act_step h with ⟨rfl, rfl⟩ | ⟨rfl, rfl⟩
      · refine ⟨by simp, by simp, fun p hp => ?_⟩
        rw [List.mem_singleton] at hp
        exact .inr (.inr ⟨by omega, by show p < P + (j + 1); omega⟩)
      · refine ⟨by simp, fun p hp => ?_, by simp⟩
        rw [List.mem_singleton] at hp
        exact .inr (.inr ⟨by omega, by show p < P + (j + 1); omega⟩)
    · exact (act_nil h).elim
  | .seq x y, a, b, n, j, pre, post, h => by
    have u1 := net_up x a n (n + 1)
    have u2 := net_up y n b (Vbwbab.netOf x a n (n + 1)).2
    have el : (Vbwbab.netOf (.seq x y) a b n).1.length = (Vbwbab.netOf x a n (n + 1)).1.length + (Vbwbab.netOf y n b (Vbwbab.netOf x a n (n + 1)).2).1.length := List.length_append
    have e2 : (Vbwbab.netOf (.seq x y) a b n).2 = (Vbwbab.netOf y n b (Vbwbab.netOf x a n (n + 1)).2).2 := rfl
    rw [el, e2]
    rcases act_append (ms := (Vbwbab.netOf x a n (n + 1)).1) (ns := (Vbwbab.netOf y n b (Vbwbab.netOf x a n (n + 1)).2).1) h with h | h
    · obtain ⟨h1, h2, h3⟩ := act_in x a n (n + 1) j pre post h
      refine ⟨h1, fun p hp => ?_, fun p hp => .inr ?_⟩
      · rcases h2 p hp with e | e
        · exact .inl e
        · exact .inr (e.up (by omega) (by omega) (by omega) (by omega))
      · rcases h3 p hp with e | e
        · exact .inl ⟨by omega, by omega⟩
        · exact e.up (by omega) (by omega) (by omega) (by omega)
    · obtain ⟨h1, h2, h3⟩ := act_in y n b (Vbwbab.netOf x a n (n + 1)).2 _ pre post h
      refine ⟨h1, fun p hp => .inr ?_, fun p hp => ?_⟩
      · rcases h2 p hp with e | e
        · exact .inl ⟨by omega, by omega⟩
        · exact e.up (by omega) (by omega) (by omega) (by omega)
      · rcases h3 p hp with e | e
        · exact .inl e
        · exact .inr (e.up (by omega) (by omega) (by omega) (by omega))
  | .cond c x y, a, b, n, j, pre, post, h => by
    have u1 := net_up x n b (n + 2)
    have u2 := net_up y (n + 1) b (Vbwbab.netOf x n b (n + 2)).2
    have el : (Vbwbab.netOf (.cond c x y) a b n).1.length = (Vbwbab.netOf x n b (n + 2)).1.length + (Vbwbab.netOf y (n + 1) b (Vbwbab.netOf x n b (n + 2)).2).1.length + 2 := by
      show (_ :: _ :: (_ ++ _)).length = _
      simp
    have e2 : (Vbwbab.netOf (.cond c x y) a b n).2 = (Vbwbab.netOf y (n + 1) b (Vbwbab.netOf x n b (n + 2)).2).2 := rfl
    rw [el, e2]
    rcases act_cons h with h | h
    · obtain ⟨rfl, rfl⟩ := act_quiet (stY c) h
      refine ⟨by simp, fun p hp => .inl (by simpa using hp), fun p hp => .inr (.inl ?_)⟩
      rw [List.mem_singleton] at hp; exact ⟨by omega, by omega⟩
    rcases act_cons h with h | h
    · obtain ⟨rfl, rfl⟩ := act_quiet (stN c) h
      refine ⟨by simp, fun p hp => .inl (by simpa using hp), fun p hp => .inr (.inl ?_)⟩
      rw [List.mem_singleton] at hp; exact ⟨by omega, by omega⟩
    rcases act_append (ms := (Vbwbab.netOf x n b (n + 2)).1) (ns := (Vbwbab.netOf y (n + 1) b (Vbwbab.netOf x n b (n + 2)).2).1) h with h | h
    · obtain ⟨h1, h2, h3⟩ := act_in x n b (n + 2) _ pre post h
      refine ⟨h1, fun p hp => .inr ?_, fun p hp => ?_⟩
      · rcases h2 p hp with e | e
        · exact .inl ⟨by omega, by omega⟩
        · exact e.up (by omega) (by omega) (by omega) (by omega)
      · rcases h3 p hp with e | e
        · exact .inl e
        · exact .inr (e.up (by omega) (by omega) (by omega) (by omega))
    · obtain ⟨h1, h2, h3⟩ := act_in y (n + 1) b (Vbwbab.netOf x n b (n + 2)).2 _ pre post h
      refine ⟨h1, fun p hp => .inr ?_, fun p hp => ?_⟩
      · rcases h2 p hp with e | e
        · exact .inl ⟨by omega, by omega⟩
        · exact e.up (by omega) (by omega) (by omega) (by omega)
      · rcases h3 p hp with e | e
        · exact .inl e
        · exact .inr (e.up (by omega) (by omega) (by omega) (by omega))
  | .either x y, a, b, n, j, pre, post, h => by
    have u1 := net_up x n b (n + 2)
    have u2 := net_up y (n + 1) b (Vbwbab.netOf x n b (n + 2)).2
    have el : (Vbwbab.netOf (.either x y) a b n).1.length = (Vbwbab.netOf x n b (n + 2)).1.length + (Vbwbab.netOf y (n + 1) b (Vbwbab.netOf x n b (n + 2)).2).1.length + 2 := by
      show (_ :: _ :: (_ ++ _)).length = _
      simp
    have e2 : (Vbwbab.netOf (.either x y) a b n).2 = (Vbwbab.netOf y (n + 1) b (Vbwbab.netOf x n b (n + 2)).2).2 := rfl
    rw [el, e2]
    rcases act_cons h with h | h
    · obtain ⟨rfl, rfl⟩ := act_quiet st0 h
      refine ⟨by simp, fun p hp => .inl (by simpa using hp), fun p hp => .inr (.inl ?_)⟩
      rw [List.mem_singleton] at hp; exact ⟨by omega, by omega⟩
    rcases act_cons h with h | h
    · obtain ⟨rfl, rfl⟩ := act_quiet st0 h
      refine ⟨by simp, fun p hp => .inl (by simpa using hp), fun p hp => .inr (.inl ?_)⟩
      rw [List.mem_singleton] at hp; exact ⟨by omega, by omega⟩
    rcases act_append (ms := (Vbwbab.netOf x n b (n + 2)).1) (ns := (Vbwbab.netOf y (n + 1) b (Vbwbab.netOf x n b (n + 2)).2).1) h with h | h
    · obtain ⟨h1, h2, h3⟩ := act_in x n b (n + 2) _ pre post h
      refine ⟨h1, fun p hp => .inr ?_, fun p hp => ?_⟩
      · rcases h2 p hp with e | e
        · exact .inl ⟨by omega, by omega⟩
        · exact e.up (by omega) (by omega) (by omega) (by omega)
      · rcases h3 p hp with e | e
        · exact .inl e
        · exact .inr (e.up (by omega) (by omega) (by omega) (by omega))
    · obtain ⟨h1, h2, h3⟩ := act_in y (n + 1) b (Vbwbab.netOf x n b (n + 2)).2 _ pre post h
      refine ⟨h1, fun p hp => .inr ?_, fun p hp => ?_⟩
      · rcases h2 p hp with e | e
        · exact .inl ⟨by omega, by omega⟩
        · exact e.up (by omega) (by omega) (by omega) (by omega)
      · rcases h3 p hp with e | e
        · exact .inl e
        · exact .inr (e.up (by omega) (by omega) (by omega) (by omega))
  | .both x y, a, b, n, j, pre, post, h => by
    have u1 := net_up x n (n + 2) (n + 4)
    have u2 := net_up y (n + 1) (n + 3) (Vbwbab.netOf x n (n + 2) (n + 4)).2
    have el : (Vbwbab.netOf (.both x y) a b n).1.length = (Vbwbab.netOf x n (n + 2) (n + 4)).1.length + (Vbwbab.netOf y (n + 1) (n + 3) (Vbwbab.netOf x n (n + 2) (n + 4)).2).1.length + 2 := by
      show (_ :: (_ ++ (_ ++ [_]))).length = _
      simp; omega
    have e2 : (Vbwbab.netOf (.both x y) a b n).2 = (Vbwbab.netOf y (n + 1) (n + 3) (Vbwbab.netOf x n (n + 2) (n + 4)).2).2 := rfl
    rw [el, e2]
    rcases act_cons h with h | h
    · obtain ⟨rfl, rfl⟩ := act_quiet st0 h
      refine ⟨by simp, fun p hp => .inl (by simpa using hp), fun p hp => .inr (.inl ?_)⟩
      simp only [List.mem_cons, List.not_mem_nil, or_false] at hp
      exact ⟨by omega, by omega⟩
    rcases act_append (ms := (Vbwbab.netOf x n (n + 2) (n + 4)).1) (ns := (Vbwbab.netOf y (n + 1) (n + 3) (Vbwbab.netOf x n (n + 2) (n + 4)).2).1 ++ [⟨0, [n + 2, n + 3], [b]⟩]) h with h | h
    · obtain ⟨h1, h2, h3⟩ := act_in x n (n + 2) (n + 4) _ pre post h
      refine ⟨h1, fun p hp => .inr ?_, fun p hp => .inr ?_⟩
      · rcases h2 p hp with e | e
        · exact .inl ⟨by omega, by omega⟩
        · exact e.up (by omega) (by omega) (by omega) (by omega)
      · rcases h3 p hp with e | e
        · exact .inl ⟨by omega, by omega⟩
        · exact e.up (by omega) (by omega) (by omega) (by omega)
    rcases act_append h with h | h
    · obtain ⟨h1, h2, h3⟩ := act_in y (n + 1) (n + 3) (Vbwbab.netOf x n (n + 2) (n + 4)).2 _ pre post h
      refine ⟨h1, fun p hp => .inr ?_, fun p hp => .inr ?_⟩
      · rcases h2 p hp with e | e
        · exact .inl ⟨by omega, by omega⟩
        · exact e.up (by omega) (by omega) (by omega) (by omega)
      · rcases h3 p hp with e | e
        · exact .inl ⟨by omega, by omega⟩
        · exact e.up (by omega) (by omega) (by omega) (by omega)
    rcases act_cons h with h | h
    · obtain ⟨rfl, rfl⟩ := act_quiet st0 h
      refine ⟨by simp, fun p hp => .inr (.inl ?_), fun p hp => .inl (by simpa using hp)⟩
      simp only [List.mem_cons, List.not_mem_nil, or_false] at hp
      exact ⟨by omega, by omega⟩
    · exact (act_nil h).elim
  | .loop x c, a, b, n, j, pre, post, h => by
    have u1 := net_up x n (n + 1) (n + 2)
    have el : (Vbwbab.netOf (.loop x c) a b n).1.length = (Vbwbab.netOf x n (n + 1) (n + 2)).1.length + 3 := by
      show (_ :: (_ ++ [_, _])).length = _
      simp
    have e2 : (Vbwbab.netOf (.loop x c) a b n).2 = (Vbwbab.netOf x n (n + 1) (n + 2)).2 := rfl
    rw [el, e2]
    rcases act_cons h with h | h
    · obtain ⟨rfl, rfl⟩ := act_quiet st0 h
      refine ⟨by simp, fun p hp => .inl (by simpa using hp), fun p hp => .inr (.inl ?_)⟩
      rw [List.mem_singleton] at hp; exact ⟨by omega, by omega⟩
    rcases act_append (ms := (Vbwbab.netOf x n (n + 1) (n + 2)).1) (ns := [⟨Vbwbab.no_ c, [n + 1], [n]⟩, ⟨Vbwbab.yes c, [n + 1], [b]⟩]) h with h | h
    · obtain ⟨h1, h2, h3⟩ := act_in x n (n + 1) (n + 2) _ pre post h
      refine ⟨h1, fun p hp => .inr ?_, fun p hp => .inr ?_⟩
      · rcases h2 p hp with e | e
        · exact .inl ⟨by omega, by omega⟩
        · exact e.up (by omega) (by omega) (by omega) (by omega)
      · rcases h3 p hp with e | e
        · exact .inl ⟨by omega, by omega⟩
        · exact e.up (by omega) (by omega) (by omega) (by omega)
    rcases act_cons h with h | h
    · obtain ⟨rfl, rfl⟩ := act_quiet (stN c) h
      refine ⟨by simp, fun p hp => .inr (.inl ?_), fun p hp => .inr (.inl ?_)⟩
      · rw [List.mem_singleton] at hp; exact ⟨by omega, by omega⟩
      · rw [List.mem_singleton] at hp; exact ⟨by omega, by omega⟩
    rcases act_cons h with h | h
    · obtain ⟨rfl, rfl⟩ := act_quiet (stY c) h
      refine ⟨by simp, fun p hp => .inr (.inl ?_), fun p hp => .inl (by simpa using hp)⟩
      rw [List.mem_singleton] at hp; exact ⟨by omega, by omega⟩
    · exact (act_nil h).elim
end Bm
end

section
set_option autoImplicit false
/-! No place is ever marked twice: the markings are closed under what can be done. -/
namespace Bm
open Bw
open Vbwbab (Block Move)
theorem only_congr {a : Nat} {S S' : St1} (e : ∀ p, S p ↔ S' p) (h : only a S) : only a S' := fun p => (e p).symm.trans (h p)
theorem val_congr {P : Nat} : ∀ (x : Block) (a b n j : Nat) (S S' : St1), (∀ p, S p ↔ S' p) → Val P x a b n j S → Val P x a b n j S'
  | .skip, a, b, n, j, S, S', e, h => h.imp (only_congr e) (only_congr e)
  | .call _, a, b, n, j, S, S', e, h => h.imp (only_congr e) (only_congr e)
  | .step _, a, b, n, j, S, S', e, h => h.imp (only_congr e) (.imp (only_congr e) (only_congr e))
  | .seq x y, a, b, n, j, S, S', e, h => h.imp (val_congr x _ _ _ _ S S' e) (val_congr y _ _ _ _ S S' e)
  | .cond _ x y, a, b, n, j, S, S', e, h => h.imp (only_congr e) (.imp (val_congr x _ _ _ _ S S' e) (val_congr y _ _ _ _ S S' e))
  | .either x y, a, b, n, j, S, S', e, h => h.imp (only_congr e) (.imp (val_congr x _ _ _ _ S S' e) (val_congr y _ _ _ _ S S' e))
  | .both x y, a, b, n, j, S, S', e, h => h.imp (only_congr e) (.imp (only_congr e) fun ⟨S1, S2, h1, h2, h3⟩ => ⟨S1, S2, h1, h2, fun p => (e p).symm.trans (h3 p)⟩)
  | .loop x _, a, b, n, j, S, S', e, h => h.imp (only_congr e) (.imp (only_congr e) (val_congr x _ _ _ _ S S' e))
theorem val_entry {P : Nat} : ∀ (x : Block) (a b n j : Nat) (S : St1), only a S → Val P x a b n j S
  | .skip, a, b, n, j, S, h => .inl h
  | .call _, a, b, n, j, S, h => .inl h
  | .step _, a, b, n, j, S, h => .inl h
  | .seq x y, a, b, n, j, S, h => .inl (val_entry x _ _ _ _ S h)
  | .cond _ x y, a, b, n, j, S, h => .inl h
  | .either x y, a, b, n, j, S, h => .inl h
  | .both x y, a, b, n, j, S, h => .inl h
  | .loop x _, a, b, n, j, S, h => .inl h
theorem val_exit {P : Nat} : ∀ (x : Block) (a b n j : Nat) (S : St1), only b S → Val P x a b n j S
  | .skip, a, b, n, j, S, h => .inr h
  | .call _, a, b, n, j, S, h => .inr h
  | .step _, a, b, n, j, S, h => .inr (.inl h)
  | .seq x y, a, b, n, j, S, h => .inr (val_exit y _ _ _ _ S h)
  | .cond _ x y, a, b, n, j, S, h => .inr (.inl (val_exit x _ _ _ _ S h))
  | .either x y, a, b, n, j, S, h => .inr (.inl (val_exit x _ _ _ _ S h))
  | .both x y, a, b, n, j, S, h => .inr (.inl h)
  | .loop x _, a, b, n, j, S, h => .inr (.inl h)
section
variable (x y : Block) (c a b n : Nat)
theorem nl_seq : (Vbwbab.netOf (.seq x y) a b n).1.length = (Vbwbab.netOf x a n (n + 1)).1.length + (Vbwbab.netOf y n b (Vbwbab.netOf x a n (n + 1)).2).1.length := List.length_append
theorem nl_cond : (Vbwbab.netOf (.cond c x y) a b n).1.length = (Vbwbab.netOf x n b (n + 2)).1.length + (Vbwbab.netOf y (n + 1) b (Vbwbab.netOf x n b (n + 2)).2).1.length + 2 := by
  show (_ :: _ :: (_ ++ _)).length = _
  simp
theorem nl_either : (Vbwbab.netOf (.either x y) a b n).1.length = (Vbwbab.netOf x n b (n + 2)).1.length + (Vbwbab.netOf y (n + 1) b (Vbwbab.netOf x n b (n + 2)).2).1.length + 2 := by
  show (_ :: _ :: (_ ++ _)).length = _
  simp
theorem nl_both : (Vbwbab.netOf (.both x y) a b n).1.length = (Vbwbab.netOf x n (n + 2) (n + 4)).1.length + (Vbwbab.netOf y (n + 1) (n + 3) (Vbwbab.netOf x n (n + 2) (n + 4)).2).1.length + 2 := by
  show (_ :: (_ ++ (_ ++ [_]))).length = _
  simp; omega
theorem nl_loop : (Vbwbab.netOf (.loop x c) a b n).1.length = (Vbwbab.netOf x n (n + 1) (n + 2)).1.length + 3 := by
  show (_ :: (_ ++ [_, _])).length = _
  simp
end
/-- where a marking's places lie -/
theorem val_in {P : Nat} : ∀ (x : Block) (a b n j : Nat) (S : St1), Val P x a b n j S → ∀ p, S p → p = a ∨ p = b ∨ In P n (Vbwbab.netOf x a b n).2 j (Vbwbab.netOf x a b n).1.length p
  | .skip, a, b, n, j, S, h, p, hp => h.elim (fun h => .inl ((h p).mp hp)) fun h => .inr (.inl ((h p).mp hp))
  | .call _, a, b, n, j, S, h, p, hp => h.elim (fun h => .inl ((h p).mp hp)) fun h => .inr (.inl ((h p).mp hp))
  | .step _, a, b, n, j, S, h, p, hp => h.elim (fun h => .inl ((h p).mp hp)) fun h => h.elim (fun h => .inr (.inl ((h p).mp hp))) fun h => .inr (.inr (.inr (by
      have := (h p).mp hp
      exact ⟨by omega, by show p < P + (j + 1); omega⟩)))
  | .seq x y, a, b, n, j, S, h, p, hp => by
    have u1 := net_up x a n (n + 1)
    have u2 := net_up y n b (Vbwbab.netOf x a n (n + 1)).2
    rw [nl_seq, show (Vbwbab.netOf (.seq x y) a b n).2 = (Vbwbab.netOf y n b (Vbwbab.netOf x a n (n + 1)).2).2 from rfl]
    rcases h with h | h
    · rcases val_in x _ _ _ _ S h p hp with e | e | e
      · exact .inl e
      · exact .inr (.inr (.inl ⟨by omega, by omega⟩))
      · exact .inr (.inr (e.up (by omega) (by omega) (by omega) (by omega)))
    · rcases val_in y _ _ _ _ S h p hp with e | e | e
      · exact .inr (.inr (.inl ⟨by omega, by omega⟩))
      · exact .inr (.inl e)
      · exact .inr (.inr (e.up (by omega) (by omega) (by omega) (by omega)))
  | .cond c x y, a, b, n, j, S, h, p, hp => by
    have u1 := net_up x n b (n + 2)
    have u2 := net_up y (n + 1) b (Vbwbab.netOf x n b (n + 2)).2
    rw [nl_cond, show (Vbwbab.netOf (.cond c x y) a b n).2 = (Vbwbab.netOf y (n + 1) b (Vbwbab.netOf x n b (n + 2)).2).2 from rfl]
    rcases h with h | h | h
    · exact .inl ((h p).mp hp)
    · rcases val_in x _ _ _ _ S h p hp with e | e | e
      · exact .inr (.inr (.inl ⟨by omega, by omega⟩))
      · exact .inr (.inl e)
      · exact .inr (.inr (e.up (by omega) (by omega) (by omega) (by omega)))
    · rcases val_in y _ _ _ _ S h p hp with e | e | e
      · exact .inr (.inr (.inl ⟨by omega, by omega⟩))
      · exact .inr (.inl e)
      · exact .inr (.inr (e.up (by omega) (by omega) (by omega) (by omega)))
  | .either x y, a, b, n, j, S, h, p, hp => by
    have u1 := net_up x n b (n + 2)
    have u2 := net_up y (n + 1) b (Vbwbab.netOf x n b (n + 2)).2
    rw [nl_either, show (Vbwbab.netOf (.either x y) a b n).2 = (Vbwbab.netOf y (n + 1) b (Vbwbab.netOf x n b (n + 2)).2).2 from rfl]
    rcases h with h | h | h
    · exact .inl ((h p).mp hp)
    · rcases val_in x _ _ _ _ S h p hp with e | e | e
      · exact .inr (.inr (.inl ⟨by omega, by omega⟩))
      · exact .inr (.inl e)
      · exact .inr (.inr (e.up (by omega) (by omega) (by omega) (by omega)))
    · rcases val_in y _ _ _ _ S h p hp with e | e | e
      · exact .inr (.inr (.inl ⟨by omega, by omega⟩))
      · exact .inr (.inl e)
      · exact .inr (.inr (e.up (by omega) (by omega) (by omega) (by omega)))
  | .both x y, a, b, n, j, S, h, p, hp => by
    have u1 := net_up x n (n + 2) (n + 4)
    have u2 := net_up y (n + 1) (n + 3) (Vbwbab.netOf x n (n + 2) (n + 4)).2
    rw [nl_both, show (Vbwbab.netOf (.both x y) a b n).2 = (Vbwbab.netOf y (n + 1) (n + 3) (Vbwbab.netOf x n (n + 2) (n + 4)).2).2 from rfl]
    rcases h with h | h | ⟨S1, S2, h1, h2, h3⟩
    · exact .inl ((h p).mp hp)
    · exact .inr (.inl ((h p).mp hp))
    · rcases (h3 p).mp hp with hp | hp
      · rcases val_in x _ _ _ _ S1 h1 p hp with e | e | e
        · exact .inr (.inr (.inl ⟨by omega, by omega⟩))
        · exact .inr (.inr (.inl ⟨by omega, by omega⟩))
        · exact .inr (.inr (e.up (by omega) (by omega) (by omega) (by omega)))
      · rcases val_in y _ _ _ _ S2 h2 p hp with e | e | e
        · exact .inr (.inr (.inl ⟨by omega, by omega⟩))
        · exact .inr (.inr (.inl ⟨by omega, by omega⟩))
        · exact .inr (.inr (e.up (by omega) (by omega) (by omega) (by omega)))
  | .loop x c, a, b, n, j, S, h, p, hp => by
    have u1 := net_up x n (n + 1) (n + 2)
    rw [nl_loop, show (Vbwbab.netOf (.loop x c) a b n).2 = (Vbwbab.netOf x n (n + 1) (n + 2)).2 from rfl]
    rcases h with h | h | h
    · exact .inl ((h p).mp hp)
    · exact .inr (.inl ((h p).mp hp))
    · rcases val_in x _ _ _ _ S h p hp with e | e | e
      · exact .inr (.inr (.inl ⟨by omega, by omega⟩))
      · exact .inr (.inr (.inl ⟨by omega, by omega⟩))
      · exact .inr (.inr (e.up (by omega) (by omega) (by omega) (by omega)))
/-- at the entry, at the exit there's nothing else -/
theorem val_only {P : Nat} : ∀ (x : Block) (a b n j : Nat) (S : St1), a < n → b < n → a ≠ b → (Vbwbab.netOf x a b n).2 ≤ P → Val P x a b n j S → (S a → only a S) ∧ (S b → only b S)
  | .skip, a, b, n, j, S, ha, hb, hab, hP, h => by
    rcases h with h | h
    · exact ⟨fun _ => h, fun z => absurd ((h b).mp z) (Ne.symm hab)⟩
    · exact ⟨fun z => absurd ((h a).mp z) hab, fun _ => h⟩
  | .call _, a, b, n, j, S, ha, hb, hab, hP, h => by
    rcases h with h | h
    · exact ⟨fun _ => h, fun z => absurd ((h b).mp z) (Ne.symm hab)⟩
    · exact ⟨fun z => absurd ((h a).mp z) hab, fun _ => h⟩
  | .step _, a, b, n, j, S, ha, hb, hab, hP, h => by
    have hP' : n ≤ P := hP
    rcases h with h | h | h
    · exact ⟨fun _ => h, fun z => absurd ((h b).mp z) (Ne.symm hab)⟩
    · exact ⟨fun z => absurd ((h a).mp z) hab, fun _ => h⟩
    · exact ⟨fun z => by have := (h a).mp z; omega, fun z => by have := (h b).mp z; omega⟩
  | .seq x y, a, b, n, j, S, ha, hb, hab, hP, h => by
    have u1 := net_up x a n (n + 1)
    have u2 := net_up y n b (Vbwbab.netOf x a n (n + 1)).2
    have hP' : (Vbwbab.netOf y n b (Vbwbab.netOf x a n (n + 1)).2).2 ≤ P := hP
    rcases h with h | h
    · have i1 := val_only x a n (n + 1) j S (by omega) (by omega) (by omega) (by omega) h
      refine ⟨i1.1, fun z => ?_⟩
      rcases val_in x _ _ _ _ S h b z with e | e | e | e <;> omega
    · have i1 := val_only y n b (Vbwbab.netOf x a n (n + 1)).2 _ S (by omega) (by omega) (by omega) (by omega) h
      refine ⟨fun z => ?_, i1.2⟩
      rcases val_in y _ _ _ _ S h a z with e | e | e | e <;> omega
  | .cond c x y, a, b, n, j, S, ha, hb, hab, hP, h => by
    have u1 := net_up x n b (n + 2)
    have u2 := net_up y (n + 1) b (Vbwbab.netOf x n b (n + 2)).2
    have hP' : (Vbwbab.netOf y (n + 1) b (Vbwbab.netOf x n b (n + 2)).2).2 ≤ P := hP
    rcases h with h | h | h
    · exact ⟨fun _ => h, fun z => absurd ((h b).mp z) (Ne.symm hab)⟩
    · refine ⟨fun z => ?_, (val_only x n b (n + 2) _ S (by omega) (by omega) (by omega) (by omega) h).2⟩
      rcases val_in x _ _ _ _ S h a z with e | e | e | e <;> omega
    · refine ⟨fun z => ?_, (val_only y (n + 1) b _ _ S (by omega) (by omega) (by omega) (by omega) h).2⟩
      rcases val_in y _ _ _ _ S h a z with e | e | e | e <;> omega
  | .either x y, a, b, n, j, S, ha, hb, hab, hP, h => by
    have u1 := net_up x n b (n + 2)
    have u2 := net_up y (n + 1) b (Vbwbab.netOf x n b (n + 2)).2
    have hP' : (Vbwbab.netOf y (n + 1) b (Vbwbab.netOf x n b (n + 2)).2).2 ≤ P := hP
    rcases h with h | h | h
    · exact ⟨fun _ => h, fun z => absurd ((h b).mp z) (Ne.symm hab)⟩
    · refine ⟨fun z => ?_, (val_only x n b (n + 2) _ S (by omega) (by omega) (by omega) (by omega) h).2⟩
      rcases val_in x _ _ _ _ S h a z with e | e | e | e <;> omega
    · refine ⟨fun z => ?_, (val_only y (n + 1) b _ _ S (by omega) (by omega) (by omega) (by omega) h).2⟩
      rcases val_in y _ _ _ _ S h a z with e | e | e | e <;> omega
  | .both x y, a, b, n, j, S, ha, hb, hab, hP, h => by
    have u1 := net_up x n (n + 2) (n + 4)
    have u2 := net_up y (n + 1) (n + 3) (Vbwbab.netOf x n (n + 2) (n + 4)).2
    have hP' : (Vbwbab.netOf y (n + 1) (n + 3) (Vbwbab.netOf x n (n + 2) (n + 4)).2).2 ≤ P := hP
    rcases h with h | h | ⟨S1, S2, h1, h2, h3⟩
    · exact ⟨fun _ => h, fun z => absurd ((h b).mp z) (Ne.symm hab)⟩
    · exact ⟨fun z => absurd ((h a).mp z) hab, fun _ => h⟩
    · refine ⟨fun z => ?_, fun z => ?_⟩
      · rcases (h3 a).mp z with z | z
        · rcases val_in x _ _ _ _ S1 h1 a z with e | e | e | e <;> omega
        · rcases val_in y _ _ _ _ S2 h2 a z with e | e | e | e <;> omega
      · rcases (h3 b).mp z with z | z
        · rcases val_in x _ _ _ _ S1 h1 b z with e | e | e | e <;> omega
        · rcases val_in y _ _ _ _ S2 h2 b z with e | e | e | e <;> omega
  | .loop x c, a, b, n, j, S, ha, hb, hab, hP, h => by
    have u1 := net_up x n (n + 1) (n + 2)
    have hP' : (Vbwbab.netOf x n (n + 1) (n + 2)).2 ≤ P := hP
    rcases h with h | h | h
    · exact ⟨fun _ => h, fun z => absurd ((h b).mp z) (Ne.symm hab)⟩
    · exact ⟨fun z => absurd ((h a).mp z) hab, fun _ => h⟩
    · refine ⟨fun z => ?_, fun z => ?_⟩
      · rcases val_in x _ _ _ _ S h a z with e | e | e | e <;> omega
      · rcases val_in x _ _ _ _ S h b z with e | e | e | e <;> omega
/-- from one place to one place -/
theorem upd_only {a q : Nat} {S : St1} (h : only a S) : only q (updS S [a] [q]) := fun p => by
  unfold updS
  simp only [List.mem_singleton]
  constructor
  · rintro (⟨h1, h2⟩ | h1)
    · exact absurd ((h p).mp h1) h2
    · exact h1
  · exact .inr
theorem fresh_only {a q : Nat} {S : St1} (h : only a S) (hq : q ≠ a) : ∀ p ∈ [q], S p → p ∈ [a] := fun p hp hs => by
  rw [List.mem_singleton] at hp
  subst hp
  exact absurd ((h p).mp hs) hq
/-- **What can be done leads to another such marking, and marks nothing twice** -/
theorem val_act {P : Nat} : ∀ (x : Block) (a b n j : Nat) (S : St1) (pre post : List Nat), a < n → b < n → a ≠ b → (Vbwbab.netOf x a b n).2 ≤ P → Val P x a b n j S → Act P (Vbwbab.netOf x a b n).1 j pre post → (∀ p ∈ pre, S p) →
    (∀ q ∈ post, S q → q ∈ pre) ∧ Val P x a b n j (updS S pre post)
  | .skip, a, b, n, j, S, pre, post, ha, hb, hab, hP, h, hA, hS => by
    rcases act_cons hA with hA | hA
    · obtain ⟨rfl, rfl⟩ := act_quiet st0 hA
      have o := (val_only (P := P) .skip a b n j S ha hb hab hP h).1 (hS a (by simp))
      exact ⟨fresh_only o (Ne.symm hab), .inr (upd_only o)⟩
    · exact (act_nil hA).elim
  | .call r, a, b, n, j, S, pre, post, ha, hb, hab, hP, h, hA, hS => by
    rcases act_cons hA with hA | hA
    · obtain ⟨rfl, rfl⟩ := act_quiet st0 hA
      have o := (val_only (P := P) (.call r) a b n j S ha hb hab hP h).1 (hS a (by simp))
      exact ⟨fresh_only o (Ne.symm hab), .inr (upd_only o)⟩
    · exact (act_nil hA).elim
  | .step s, a, b, n, j, S, pre, post, ha, hb, hab, hP, h, hA, hS => by
    have hP' : n ≤ P := hP
    rcases act_cons hA with hA | hA
    · rcases act_step hA with ⟨rfl, rfl⟩ | ⟨rfl, rfl⟩
      · have o := (val_only (P := P) (.step s) a b n j S ha hb hab hP h).1 (hS a (by simp))
        exact ⟨fresh_only o (by omega), .inr (.inr (upd_only o))⟩
      · have hj := hS (P + j) (by simp)
        have o : only (P + j) S := by
          rcases h with h | h | h
          · have := (h _).mp hj; omega
          · have := (h _).mp hj; omega
          · exact h
        exact ⟨fresh_only o (by omega), .inr (.inl (upd_only o))⟩
    · exact (act_nil hA).elim
  | .seq x y, a, b, n, j, S, pre, post, ha, hb, hab, hP, h, hA, hS => by
    have u1 := net_up x a n (n + 1)
    have u2 := net_up y n b (Vbwbab.netOf x a n (n + 1)).2
    have hP' : (Vbwbab.netOf y n b (Vbwbab.netOf x a n (n + 1)).2).2 ≤ P := hP
    rcases act_append (ms := (Vbwbab.netOf x a n (n + 1)).1) (ns := (Vbwbab.netOf y n b (Vbwbab.netOf x a n (n + 1)).2).1) hA with hA | hA
    · obtain ⟨i1, i2, i3⟩ := act_in x _ _ _ _ pre post hA
      obtain ⟨q, hq⟩ := List.exists_mem_of_ne_nil pre i1
      rcases h with h | h
      · have r := val_act x a n (n + 1) j S pre post (by omega) (by omega) (by omega) (by omega) h hA hS
        exact ⟨r.1, .inl r.2⟩
      · have k1 := i2 q hq
        have k2 := val_in y _ _ _ _ S h q (hS q hq)
        unfold In at k1 k2
        omega
    · obtain ⟨i1, i2, i3⟩ := act_in y _ _ _ _ pre post hA
      have hV : Val P y n b (Vbwbab.netOf x a n (n + 1)).2 (j + (Vbwbab.netOf x a n (n + 1)).1.length) S := by
        rcases h with h | h
        · obtain ⟨q, hq⟩ := List.exists_mem_of_ne_nil pre i1
          have k1 := i2 q hq
          have k2 := val_in x _ _ _ _ S h q (hS q hq)
          have e : q = n := by unfold In at k1 k2; omega
          have := hS q hq
          rw [e] at this
          exact val_entry y _ _ _ _ S ((val_only x a n (n + 1) j S (by omega) (by omega) (by omega) (by omega) h).2 this)
        · exact h
      have r := val_act y n b _ _ S pre post (by omega) (by omega) (by omega) (by omega) hV hA hS
      exact ⟨r.1, .inr r.2⟩
  | .cond c x y, a, b, n, j, S, pre, post, ha, hb, hab, hP, h, hA, hS => by
    have u1 := net_up x n b (n + 2)
    have u2 := net_up y (n + 1) b (Vbwbab.netOf x n b (n + 2)).2
    have hP' : (Vbwbab.netOf y (n + 1) b (Vbwbab.netOf x n b (n + 2)).2).2 ≤ P := hP
    have oa := (val_only (P := P) (.cond c x y) a b n j S ha hb hab hP h).1
    rcases act_cons hA with hA | hA
    · obtain ⟨rfl, rfl⟩ := act_quiet (stY c) hA
      have o := oa (hS a (by simp))
      exact ⟨fresh_only o (by omega), .inr (.inl (val_entry x _ _ _ _ _ (upd_only o)))⟩
    rcases act_cons hA with hA | hA
    · obtain ⟨rfl, rfl⟩ := act_quiet (stN c) hA
      have o := oa (hS a (by simp))
      exact ⟨fresh_only o (by omega), .inr (.inr (val_entry y _ _ _ _ _ (upd_only o)))⟩
    rcases act_append (ms := (Vbwbab.netOf x n b (n + 2)).1) (ns := (Vbwbab.netOf y (n + 1) b (Vbwbab.netOf x n b (n + 2)).2).1) hA with hA | hA
    · obtain ⟨i1, i2, i3⟩ := act_in x _ _ _ _ pre post hA
      obtain ⟨q, hq⟩ := List.exists_mem_of_ne_nil pre i1
      have k1 := i2 q hq
      have k3 := hS q hq
      rcases h with h | h | h
      · have := (h q).mp k3
        unfold In at k1; omega
      · have r := val_act x n b (n + 2) _ S pre post (by omega) (by omega) (by omega) (by omega) h hA hS
        exact ⟨r.1, .inr (.inl r.2)⟩
      · have k2 := val_in y _ _ _ _ S h q k3
        unfold In at k1 k2; omega
    · obtain ⟨i1, i2, i3⟩ := act_in y _ _ _ _ pre post hA
      obtain ⟨q, hq⟩ := List.exists_mem_of_ne_nil pre i1
      have k1 := i2 q hq
      have k3 := hS q hq
      rcases h with h | h | h
      · have := (h q).mp k3
        unfold In at k1; omega
      · have k2 := val_in x _ _ _ _ S h q k3
        unfold In at k1 k2; omega
      · have r := val_act y (n + 1) b _ _ S pre post (by omega) (by omega) (by omega) (by omega) h (by rw [show j + 2 = j + 1 + 1 from rfl]; exact hA) hS
        exact ⟨r.1, .inr (.inr r.2)⟩
  | .either x y, a, b, n, j, S, pre, post, ha, hb, hab, hP, h, hA, hS => by
    have u1 := net_up x n b (n + 2)
    have u2 := net_up y (n + 1) b (Vbwbab.netOf x n b (n + 2)).2
    have hP' : (Vbwbab.netOf y (n + 1) b (Vbwbab.netOf x n b (n + 2)).2).2 ≤ P := hP
    have oa := (val_only (P := P) (.either x y) a b n j S ha hb hab hP h).1
    rcases act_cons hA with hA | hA
    · obtain ⟨rfl, rfl⟩ := act_quiet st0 hA
      have o := oa (hS a (by simp))
      exact ⟨fresh_only o (by omega), .inr (.inl (val_entry x _ _ _ _ _ (upd_only o)))⟩
    rcases act_cons hA with hA | hA
    · obtain ⟨rfl, rfl⟩ := act_quiet st0 hA
      have o := oa (hS a (by simp))
      exact ⟨fresh_only o (by omega), .inr (.inr (val_entry y _ _ _ _ _ (upd_only o)))⟩
    rcases act_append (ms := (Vbwbab.netOf x n b (n + 2)).1) (ns := (Vbwbab.netOf y (n + 1) b (Vbwbab.netOf x n b (n + 2)).2).1) hA with hA | hA
    · obtain ⟨i1, i2, i3⟩ := act_in x _ _ _ _ pre post hA
      obtain ⟨q, hq⟩ := List.exists_mem_of_ne_nil pre i1
      have k1 := i2 q hq
      have k3 := hS q hq
      rcases h with h | h | h
      · have := (h q).mp k3
        unfold In at k1; omega
      · have r := val_act x n b (n + 2) _ S pre post (by omega) (by omega) (by omega) (by omega) h hA hS
        exact ⟨r.1, .inr (.inl r.2)⟩
      · have k2 := val_in y _ _ _ _ S h q k3
        unfold In at k1 k2; omega
    · obtain ⟨i1, i2, i3⟩ := act_in y _ _ _ _ pre post hA
      obtain ⟨q, hq⟩ := List.exists_mem_of_ne_nil pre i1
      have k1 := i2 q hq
      have k3 := hS q hq
      rcases h with h | h | h
      · have := (h q).mp k3
        unfold In at k1; omega
      · have k2 := val_in x _ _ _ _ S h q k3
        unfold In at k1 k2; omega
      · have r := val_act y (n + 1) b _ _ S pre post (by omega) (by omega) (by omega) (by omega) h (by rw [show j + 2 = j + 1 + 1 from rfl]; exact hA) hS
        exact ⟨r.1, .inr (.inr r.2)⟩
  | .both x y, a, b, n, j, S, pre, post, ha, hb, hab, hP, h, hA, hS => by
    have u1 := net_up x n (n + 2) (n + 4)
    have u2 := net_up y (n + 1) (n + 3) (Vbwbab.netOf x n (n + 2) (n + 4)).2
    have hP' : (Vbwbab.netOf y (n + 1) (n + 3) (Vbwbab.netOf x n (n + 2) (n + 4)).2).2 ≤ P := hP
    rcases act_cons hA with hA | hA
    · obtain ⟨rfl, rfl⟩ := act_quiet st0 hA
      have o := (val_only (P := P) (.both x y) a b n j S ha hb hab hP h).1 (hS a (by simp))
      refine ⟨fun q hq hs => ?_, .inr (.inr ⟨fun p => p = n, fun p => p = n + 1, val_entry x _ _ _ _ _ (fun p => Iff.rfl), val_entry y _ _ _ _ _ (fun p => Iff.rfl), fun p => ?_⟩)⟩
      · have := (o q).mp hs
        simp only [List.mem_cons, List.not_mem_nil, or_false] at hq
        omega
      · unfold updS
        simp only [List.mem_cons, List.not_mem_nil, or_false]
        constructor
        · rintro (⟨h1, h2⟩ | h1)
          · exact absurd ((o p).mp h1) h2
          · exact h1
        · exact .inr
    rcases act_append (ms := (Vbwbab.netOf x n (n + 2) (n + 4)).1) (ns := (Vbwbab.netOf y (n + 1) (n + 3) (Vbwbab.netOf x n (n + 2) (n + 4)).2).1 ++ [⟨0, [n + 2, n + 3], [b]⟩]) hA with hA | hA
    · obtain ⟨i1, i2, i3⟩ := act_in x _ _ _ _ pre post hA
      obtain ⟨q, hq⟩ := List.exists_mem_of_ne_nil pre i1
      rcases h with h | h | ⟨S1, S2, h1, h2, h3⟩
      · have k1 := i2 q hq
        have := (h q).mp (hS q hq)
        unfold In at k1; omega
      · have k1 := i2 q hq
        have := (h q).mp (hS q hq)
        unfold In at k1; omega
      · have off : ∀ p, S2 p → p ∉ pre ∧ p ∉ post := fun p hp => by
          have k2 := val_in y _ _ _ _ S2 h2 p hp
          constructor
          · intro hp
            have k1 := i2 p hp
            unfold In at k1 k2; omega
          · intro hp
            have k1 := i3 p hp
            unfold In at k1 k2; omega
        have hS1 : ∀ p ∈ pre, S1 p := fun p hp => by
          rcases (h3 p).mp (hS p hp) with z | z
          · exact z
          · exact absurd hp (off p z).1
        have r := val_act x n (n + 2) (n + 4) _ S1 pre post (by omega) (by omega) (by omega) (by omega) h1 hA hS1
        refine ⟨fun p hp hs => ?_, .inr (.inr ⟨updS S1 pre post, S2, r.2, h2, fun p => ?_⟩)⟩
        · rcases (h3 p).mp hs with z | z
          · exact r.1 p hp z
          · exact absurd hp (off p z).2
        · unfold updS
          rw [h3 p]
          constructor
          · rintro (⟨z | z, z2⟩ | z)
            · exact .inl (.inl ⟨z, z2⟩)
            · exact .inr z
            · exact .inl (.inr z)
          · rintro ((⟨z, z2⟩ | z) | z)
            · exact .inl ⟨.inl z, z2⟩
            · exact .inr z
            · exact .inl ⟨.inr z, (off p z).1⟩
    rcases act_append hA with hA | hA
    · obtain ⟨i1, i2, i3⟩ := act_in y _ _ _ _ pre post hA
      obtain ⟨q, hq⟩ := List.exists_mem_of_ne_nil pre i1
      rcases h with h | h | ⟨S1, S2, h1, h2, h3⟩
      · have k1 := i2 q hq
        have := (h q).mp (hS q hq)
        unfold In at k1; omega
      · have k1 := i2 q hq
        have := (h q).mp (hS q hq)
        unfold In at k1; omega
      · have off : ∀ p, S1 p → p ∉ pre ∧ p ∉ post := fun p hp => by
          have k2 := val_in x _ _ _ _ S1 h1 p hp
          constructor
          · intro hp
            have k1 := i2 p hp
            unfold In at k1 k2; omega
          · intro hp
            have k1 := i3 p hp
            unfold In at k1 k2; omega
        have hS2 : ∀ p ∈ pre, S2 p := fun p hp => by
          rcases (h3 p).mp (hS p hp) with z | z
          · exact absurd hp (off p z).1
          · exact z
        have r := val_act y (n + 1) (n + 3) _ _ S2 pre post (by omega) (by omega) (by omega) (by omega) h2 hA hS2
        refine ⟨fun p hp hs => ?_, .inr (.inr ⟨S1, updS S2 pre post, h1, r.2, fun p => ?_⟩)⟩
        · rcases (h3 p).mp hs with z | z
          · exact absurd hp (off p z).2
          · exact r.1 p hp z
        · unfold updS
          rw [h3 p]
          constructor
          · rintro (⟨z | z, z2⟩ | z)
            · exact .inl z
            · exact .inr (.inl ⟨z, z2⟩)
            · exact .inr (.inr z)
          · rintro (z | ⟨z, z2⟩ | z)
            · exact .inl ⟨.inl z, (off p z).1⟩
            · exact .inl ⟨.inr z, z2⟩
            · exact .inr z
    rcases act_cons hA with hA | hA
    · obtain ⟨rfl, rfl⟩ := act_quiet st0 hA
      have z2 := hS (n + 2) (by simp)
      have z3 := hS (n + 3) (by simp)
      rcases h with h | h | ⟨S1, S2, h1, h2, h3⟩
      · have := (h _).mp z2; omega
      · have := (h _).mp z2; omega
      · have o1 : only (n + 2) S1 := by
          rcases (h3 _).mp z2 with z | z
          · exact (val_only x n (n + 2) (n + 4) _ S1 (by omega) (by omega) (by omega) (by omega) h1).2 z
          · have k2 := val_in y _ _ _ _ S2 h2 _ z
            unfold In at k2; omega
        have o2 : only (n + 3) S2 := by
          rcases (h3 _).mp z3 with z | z
          · have k2 := val_in x _ _ _ _ S1 h1 _ z
            unfold In at k2; omega
          · exact (val_only y (n + 1) (n + 3) _ _ S2 (by omega) (by omega) (by omega) (by omega) h2).2 z
        have oS : ∀ p, S p ↔ p = n + 2 ∨ p = n + 3 := fun p => by rw [h3 p, o1 p, o2 p]
        refine ⟨fun q hq hs => ?_, .inr (.inl fun p => ?_)⟩
        · rw [List.mem_singleton] at hq
          have := (oS q).mp hs; omega
        · unfold updS
          rw [oS p]
          simp only [List.mem_cons, List.not_mem_nil, or_false]
          constructor
          · rintro (⟨z, z2⟩ | z)
            · exact absurd z z2
            · exact z
          · exact .inr
    · exact (act_nil hA).elim
  | .loop x c, a, b, n, j, S, pre, post, ha, hb, hab, hP, h, hA, hS => by
    have u1 := net_up x n (n + 1) (n + 2)
    have hP' : (Vbwbab.netOf x n (n + 1) (n + 2)).2 ≤ P := hP
    rcases act_cons hA with hA | hA
    · obtain ⟨rfl, rfl⟩ := act_quiet st0 hA
      have o := (val_only (P := P) (.loop x c) a b n j S ha hb hab hP h).1 (hS a (by simp))
      exact ⟨fresh_only o (by omega), .inr (.inr (val_entry x _ _ _ _ _ (upd_only o)))⟩
    rcases act_append (ms := (Vbwbab.netOf x n (n + 1) (n + 2)).1) (ns := [⟨Vbwbab.no_ c, [n + 1], [n]⟩, ⟨Vbwbab.yes c, [n + 1], [b]⟩]) hA with hA | hA
    · obtain ⟨i1, i2, i3⟩ := act_in x _ _ _ _ pre post hA
      obtain ⟨q, hq⟩ := List.exists_mem_of_ne_nil pre i1
      have k1 := i2 q hq
      have k3 := hS q hq
      rcases h with h | h | h
      · have := (h q).mp k3
        unfold In at k1; omega
      · have := (h q).mp k3
        unfold In at k1; omega
      · have r := val_act x n (n + 1) (n + 2) _ S pre post (by omega) (by omega) (by omega) (by omega) h hA hS
        exact ⟨r.1, .inr (.inr r.2)⟩
    have on : S (n + 1) → only (n + 1) S := fun z => by
      rcases h with h | h | h
      · have := (h _).mp z; omega
      · have := (h _).mp z; omega
      · exact (val_only x n (n + 1) (n + 2) _ S (by omega) (by omega) (by omega) (by omega) h).2 z
    rcases act_cons hA with hA | hA
    · obtain ⟨rfl, rfl⟩ := act_quiet (stN c) hA
      have o := on (hS _ (by simp))
      exact ⟨fresh_only o (by omega), .inr (.inr (val_entry x _ _ _ _ _ (upd_only o)))⟩
    rcases act_cons hA with hA | hA
    · obtain ⟨rfl, rfl⟩ := act_quiet (stY c) hA
      have o := on (hS _ (by simp))
      exact ⟨fresh_only o (by omega), .inr (.inl (upd_only o))⟩
    · exact (act_nil hA).elim
end Bm
end

section
set_option autoImplicit false
/-! Spots of a net that stay within its markings. -/
namespace Bm
open Bw
open Vbwbab (Block Move)
/-- places are below the next number -/
theorem net_lt : ∀ (x : Block) (a b n : Nat), a < n → b < n → ∀ mv ∈ (Vbwbab.netOf x a b n).1, (∀ p ∈ mv.pre, p < (Vbwbab.netOf x a b n).2) ∧ (∀ p ∈ mv.post, p < (Vbwbab.netOf x a b n).2) ∧ mv.pre.Nodup ∧ mv.post.Nodup
  | .skip, a, b, n, ha, hb, mv, h => by
    simp [Vbwbab.netOf] at h; subst h
    simp [Vbwbab.netOf, ha, hb]
  | .step _, a, b, n, ha, hb, mv, h => by
    simp [Vbwbab.netOf] at h; subst h
    simp [Vbwbab.netOf, ha, hb]
  | .call _, a, b, n, ha, hb, mv, h => by
    simp [Vbwbab.netOf] at h; subst h
    simp [Vbwbab.netOf, ha, hb]
  | .seq x y, a, b, n, ha, hb, mv, h => by
    have u1 := net_up x a n (n + 1)
    have u2 := net_up y n b (Vbwbab.netOf x a n (n + 1)).2
    have e2 : (Vbwbab.netOf (.seq x y) a b n).2 = (Vbwbab.netOf y n b (Vbwbab.netOf x a n (n + 1)).2).2 := rfl
    rw [e2]
    rcases List.mem_append.mp (show mv ∈ (Vbwbab.netOf x a n (n + 1)).1 ++ (Vbwbab.netOf y n b (Vbwbab.netOf x a n (n + 1)).2).1 from h) with h | h
    · have r := net_lt x a n (n + 1) (by omega) (by omega) mv h
      exact ⟨fun p hp => by have := r.1 p hp; omega, fun p hp => by have := r.2.1 p hp; omega, r.2.2⟩
    · have r := net_lt y n b _ (by omega) (by omega) mv h
      exact ⟨fun p hp => by have := r.1 p hp; omega, fun p hp => by have := r.2.1 p hp; omega, r.2.2⟩
  | .cond c x y, a, b, n, ha, hb, mv, h => by
    have u1 := net_up x n b (n + 2)
    have u2 := net_up y (n + 1) b (Vbwbab.netOf x n b (n + 2)).2
    have e2 : (Vbwbab.netOf (.cond c x y) a b n).2 = (Vbwbab.netOf y (n + 1) b (Vbwbab.netOf x n b (n + 2)).2).2 := rfl
    rw [e2]
    rcases List.mem_cons.mp (show mv ∈ _ :: _ :: ((Vbwbab.netOf x n b (n + 2)).1 ++ (Vbwbab.netOf y (n + 1) b (Vbwbab.netOf x n b (n + 2)).2).1) from h) with h | h
    · subst h
      refine ⟨fun p hp => ?_, fun p hp => ?_, by simp, by simp⟩ <;> (simp at hp; omega)
    rcases List.mem_cons.mp h with h | h
    · subst h
      refine ⟨fun p hp => ?_, fun p hp => ?_, by simp, by simp⟩ <;> (simp at hp; omega)
    rcases List.mem_append.mp h with h | h
    · have r := net_lt x n b (n + 2) (by omega) (by omega) mv h
      exact ⟨fun p hp => by have := r.1 p hp; omega, fun p hp => by have := r.2.1 p hp; omega, r.2.2⟩
    · have r := net_lt y (n + 1) b _ (by omega) (by omega) mv h
      exact ⟨fun p hp => by have := r.1 p hp; omega, fun p hp => by have := r.2.1 p hp; omega, r.2.2⟩
  | .either x y, a, b, n, ha, hb, mv, h => by
    have u1 := net_up x n b (n + 2)
    have u2 := net_up y (n + 1) b (Vbwbab.netOf x n b (n + 2)).2
    have e2 : (Vbwbab.netOf (.either x y) a b n).2 = (Vbwbab.netOf y (n + 1) b (Vbwbab.netOf x n b (n + 2)).2).2 := rfl
    rw [e2]
    rcases List.mem_cons.mp (show mv ∈ _ :: _ :: ((Vbwbab.netOf x n b (n + 2)).1 ++ (Vbwbab.netOf y (n + 1) b (Vbwbab.netOf x n b (n + 2)).2).1) from h) with h | h
    · subst h
      refine ⟨fun p hp => ?_, fun p hp => ?_, by simp, by simp⟩ <;> (simp at hp; omega)
    rcases List.mem_cons.mp h with h | h
    · subst h
      refine ⟨fun p hp => ?_, fun p hp => ?_, by simp, by simp⟩ <;> (simp at hp; omega)
    rcases List.mem_append.mp h with h | h
    · have r := net_lt x n b (n + 2) (by omega) (by omega) mv h
      exact ⟨fun p hp => by have := r.1 p hp; omega, fun p hp => by have := r.2.1 p hp; omega, r.2.2⟩
    · have r := net_lt y (n + 1) b _ (by omega) (by omega) mv h
      exact ⟨fun p hp => by have := r.1 p hp; omega, fun p hp => by have := r.2.1 p hp; omega, r.2.2⟩
  | .both x y, a, b, n, ha, hb, mv, h => by
    have u1 := net_up x n (n + 2) (n + 4)
    have u2 := net_up y (n + 1) (n + 3) (Vbwbab.netOf x n (n + 2) (n + 4)).2
    have e2 : (Vbwbab.netOf (.both x y) a b n).2 = (Vbwbab.netOf y (n + 1) (n + 3) (Vbwbab.netOf x n (n + 2) (n + 4)).2).2 := rfl
    rw [e2]
    rcases List.mem_cons.mp (show mv ∈ _ :: ((Vbwbab.netOf x n (n + 2) (n + 4)).1 ++ ((Vbwbab.netOf y (n + 1) (n + 3) (Vbwbab.netOf x n (n + 2) (n + 4)).2).1 ++ [⟨0, [n + 2, n + 3], [b]⟩])) from h) with h | h
    · subst h
      refine ⟨fun p hp => ?_, fun p hp => ?_, by simp, by simp⟩ <;> (simp at hp; omega)
    rcases List.mem_append.mp h with h | h
    · have r := net_lt x n (n + 2) (n + 4) (by omega) (by omega) mv h
      exact ⟨fun p hp => by have := r.1 p hp; omega, fun p hp => by have := r.2.1 p hp; omega, r.2.2⟩
    rcases List.mem_append.mp h with h | h
    · have r := net_lt y (n + 1) (n + 3) _ (by omega) (by omega) mv h
      exact ⟨fun p hp => by have := r.1 p hp; omega, fun p hp => by have := r.2.1 p hp; omega, r.2.2⟩
    · rw [List.mem_singleton] at h
      subst h
      refine ⟨fun p hp => ?_, fun p hp => ?_, by simp, by simp⟩ <;> (simp at hp; omega)
  | .loop x c, a, b, n, ha, hb, mv, h => by
    have u1 := net_up x n (n + 1) (n + 2)
    have e2 : (Vbwbab.netOf (.loop x c) a b n).2 = (Vbwbab.netOf x n (n + 1) (n + 2)).2 := rfl
    rw [e2]
    rcases List.mem_cons.mp (show mv ∈ _ :: ((Vbwbab.netOf x n (n + 1) (n + 2)).1 ++ [⟨Vbwbab.no_ c, [n + 1], [n]⟩, ⟨Vbwbab.yes c, [n + 1], [b]⟩]) from h) with h | h
    · subst h
      refine ⟨fun p hp => ?_, fun p hp => ?_, by simp, by simp⟩ <;> (simp at hp; omega)
    rcases List.mem_append.mp h with h | h
    · have r := net_lt x n (n + 1) (n + 2) (by omega) (by omega) mv h
      exact ⟨fun p hp => by have := r.1 p hp; omega, fun p hp => by have := r.2.1 p hp; omega, r.2.2⟩
    · simp only [List.mem_cons, List.not_mem_nil, or_false] at h
      rcases h with h | h <;> subst h <;> (refine ⟨fun p hp => ?_, fun p hp => ?_, by simp, by simp⟩ <;> (simp at hp; omega))
/-! ### markings as rising lists -/
theorem putIn_mem (x p : Nat) : ∀ l : List Nat, p ∈ Vbwbab.putIn x l ↔ p = x ∨ p ∈ l
  | [] => by simp [Vbwbab.putIn]
  | y :: r => by
    unfold Vbwbab.putIn
    split
    · simp
    · split
      · rename_i e; subst e; simp
      · rw [List.mem_cons, putIn_mem x p r, List.mem_cons]
        constructor
        · rintro (h | h | h)
          · exact .inr (.inl h)
          · exact .inl h
          · exact .inr (.inr h)
        · rintro (h | h | h)
          · exact .inr (.inl h)
          · exact .inl h
          · exact .inr (.inr h)
theorem putIn_sorted (x : Nat) : ∀ l : List Nat, l.Pairwise (· < ·) → (Vbwbab.putIn x l).Pairwise (· < ·)
  | [], _ => by simp [Vbwbab.putIn]
  | y :: r, h => by
    have h' := List.pairwise_cons.mp h
    unfold Vbwbab.putIn
    split
    · rename_i c
      refine List.pairwise_cons.mpr ⟨fun z hz => ?_, h⟩
      rcases List.mem_cons.mp hz with e | hz
      · subst e; exact c
      · have := h'.1 z hz; omega
    · split
      · exact h
      · refine List.pairwise_cons.mpr ⟨fun z hz => ?_, putIn_sorted x r h'.2⟩
        rcases (putIn_mem x z r).mp hz with e | hz
        · subst e; omega
        · exact h'.1 z hz
theorem sorted_fold : ∀ (l a : List Nat), a.Pairwise (· < ·) → (l.foldl (fun a x => Vbwbab.putIn x a) a).Pairwise (· < ·) ∧ ∀ p, p ∈ l.foldl (fun a x => Vbwbab.putIn x a) a ↔ p ∈ l ∨ p ∈ a
  | [], a, h => ⟨h, fun p => by simp⟩
  | x :: l, a, h => by
    have ih := sorted_fold l (Vbwbab.putIn x a) (putIn_sorted x a h)
    rw [List.foldl_cons]
    refine ⟨ih.1, fun p => ?_⟩
    rw [ih.2 p, putIn_mem, List.mem_cons]
    constructor
    · rintro (h | h | h)
      · exact .inl (.inr h)
      · exact .inl (.inl h)
      · exact .inr h
    · rintro ((h | h) | h)
      · exact .inr (.inl h)
      · exact .inl h
      · exact .inr (.inr h)
theorem sorted_rises (l : List Nat) : (Vbwbab.sorted l).Pairwise (· < ·) := (sorted_fold l [] List.Pairwise.nil).1
theorem sorted_mem (l : List Nat) (p : Nat) : p ∈ Vbwbab.sorted l ↔ p ∈ l := by
  have := (sorted_fold l [] List.Pairwise.nil).2 p
  unfold Vbwbab.sorted
  rw [this]; simp
theorem rises_ext {l m : List Nat} (hl : l.Pairwise (· < ·)) (hm : m.Pairwise (· < ·)) (h : ∀ p, p ∈ l ↔ p ∈ m) : l = m := by
  have nl : l.Nodup := hl.imp fun h => Nat.ne_of_lt h
  have nm : m.Nodup := hm.imp fun h => Nat.ne_of_lt h
  exact List.Perm.eq_of_pairwise (le := (· < ·)) (fun a b _ _ h1 h2 => by omega) hl hm ((List.perm_ext_iff_of_nodup nl nm).mpr h)
/-- what's marked behind a move that finds its places free -/
theorem go_some {m pre post : List Nat} {l : Nat} (h : ∀ q ∈ post, q ∈ m → q ∈ pre) : Vbwbab.go m ⟨l, pre, post⟩ = some (Vbwbab.sorted ((m.filter fun p => !(pre.contains p)) ++ post)) ∧
    ∀ p, p ∈ Vbwbab.sorted ((m.filter fun p => !(pre.contains p)) ++ post) ↔ updS (fun p => p ∈ m) pre post p := by
  constructor
  · unfold Vbwbab.go
    dsimp only
    rw [if_neg]
    intro z
    obtain ⟨q, hq, hc⟩ := List.any_eq_true.mp z
    have := List.contains_iff_mem.mp hc
    rw [List.mem_filter] at this
    have h2 := h q hq this.1
    simp [h2] at this
  · intro p
    rw [sorted_mem, List.mem_append, List.mem_filter]
    unfold updS
    simp
/-! ### good spots -/
open Vbwbzz (Works Spot)
abbrev pl (x : Block) : Nat := (Vbwbab.compiled x).places
abbrev mvs (x : Block) : List Move := (Vbwbab.compiled x).moves
theorem pl_eq (x : Block) : pl x = (Vbwbab.netOf x 0 1 2).2 := rfl
theorem mvs_eq (x : Block) : mvs x = (Vbwbab.netOf x 0 1 2).1 := rfl
structure Good (w : Works) (x : Block) (s : Spot) : Prop where
  up : s.mark.Pairwise (· < ·)
  val : Val (pl x) x 0 1 2 0 (fun p => p ∈ s.mark)
  steps : ∀ q ∈ s.mark, pl x ≤ q → ∃ mv, (mvs x)[q - pl x]? = some mv ∧ Vbwbzz.isStep mv.letter = true
  len : s.holds.length = w.units.length
theorem vec_len (w : Works) (l : List (Nat × Nat × Nat)) (i : Nat) : (Vbwbzz.vecOf w l i).length = w.units.length := by unfold Vbwbzz.vecOf; simp
theorem go_good {w : Works} {x : Block} {s : Spot} (g : Good w x s) {pre post : List Nat} {l : Nat} (hA : Act (pl x) (mvs x) 0 pre post) (hS : ∀ p ∈ pre, p ∈ s.mark) (hp : ∀ q ∈ post, pl x ≤ q → ∃ mv, (mvs x)[q - pl x]? = some mv ∧ Vbwbzz.isStep mv.letter = true) (h : List Nat) (hh : h.length = w.units.length) :
    ∃ m, Vbwbab.go s.mark ⟨l, pre, post⟩ = some m ∧ Good w x ⟨m, h⟩ ∧ (∀ p, p ∈ m ↔ updS (fun p => p ∈ s.mark) pre post p) ∧ (∀ q ∈ post, q ∈ s.mark → q ∈ pre) := by
  have r := val_act (P := pl x) x 0 1 2 0 (fun p => p ∈ s.mark) pre post (by decide) (by decide) (by decide) (Nat.le_refl _) g.val hA hS
  obtain ⟨g1, g2⟩ := go_some (l := l) r.1
  refine ⟨_, g1, ⟨sorted_rises _, val_congr x _ _ _ _ _ _ (fun p => (g2 p).symm) r.2, fun q hq hq2 => ?_, hh⟩, g2, r.1⟩
  rcases (g2 q).mp hq with ⟨z, _⟩ | z
  · exact g.steps q z hq2
  · exact hp q z hq2
theorem start_good (w : Works) (x : Block) : Good w x ⟨Vbwbab.start0, Vbwbzz.zeroOf w⟩ := by
  have u := net_up x 0 1 2
  refine ⟨by simp [Vbwbab.start0], val_entry x _ _ _ _ _ (fun p => by simp [Vbwbab.start0]), fun q hq hq2 => ?_, by simp [Vbwbzz.zeroOf]⟩
  have : q = 0 := by simpa [Vbwbab.start0] using hq
  have : pl x = (Vbwbab.netOf x 0 1 2).2 := rfl
  omega
end Bm
end

section
set_option autoImplicit false
set_option linter.all false
/-! The program's spots are the specification's. -/
namespace Bm
open Bw
open Vbwbab (Block Move)
open Vbwbzz (Works Spot)
def phi (P : Nat) (s : Spot) : Spt := ⟨intL (s.mark.filter fun q => decide (q < P)), intL ((s.mark.filter fun q => decide (P ≤ q)).map (· - P)), intL s.holds⟩
theorem intL_inj {a b : List Nat} (h : intL a = intL b) : a = b := by
  unfold intL at h
  exact (List.map_inj_right (f := fun n : Nat => (n : Int)) fun x y e => Int.ofNat.inj e).mp h
theorem phi_inj {P : Nat} {s t : Spot} (hs : s.mark.Pairwise (· < ·)) (ht : t.mark.Pairwise (· < ·)) (h : phi P s = phi P t) : s = t := by
  unfold phi at h
  injection h with h1 h2 h3
  have e1 := intL_inj h1
  have e2 := intL_inj h2
  have e3 := intL_inj h3
  have em : s.mark = t.mark := by
    refine rises_ext hs ht fun p => ?_
    by_cases c : p < P
    · have m1 : p ∈ s.mark.filter (fun q => decide (q < P)) ↔ p ∈ s.mark := by simp [c]
      have m2 : p ∈ t.mark.filter (fun q => decide (q < P)) ↔ p ∈ t.mark := by simp [c]
      rw [← m1, ← m2, e1]
    · have m1 : (p - P) ∈ (s.mark.filter fun q => decide (P ≤ q)).map (· - P) ↔ p ∈ s.mark := by
        rw [List.mem_map]
        constructor
        · rintro ⟨q, hq, e⟩
          rw [List.mem_filter] at hq
          have := of_decide_eq_true hq.2
          have : q = p := by omega
          rw [← this]; exact hq.1
        · intro hp
          exact ⟨p, List.mem_filter.mpr ⟨hp, decide_eq_true (by omega)⟩, rfl⟩
      have m2 : (p - P) ∈ (t.mark.filter fun q => decide (P ≤ q)).map (· - P) ↔ p ∈ t.mark := by
        rw [List.mem_map]
        constructor
        · rintro ⟨q, hq, e⟩
          rw [List.mem_filter] at hq
          have := of_decide_eq_true hq.2
          have : q = p := by omega
          rw [← this]; exact hq.1
        · intro hp
          exact ⟨p, List.mem_filter.mpr ⟨hp, decide_eq_true (by omega)⟩, rfl⟩
      rw [← m1, ← m2, e2]
  obtain ⟨m1, h1⟩ := s
  obtain ⟨m2, h2⟩ := t
  cases em; cases e3; rfl
theorem intL_app (a b : List Nat) : intL (a ++ b) = intL a ++ intL b := by unfold intL; rw [List.map_append]
theorem intL_mem {a : List Nat} {p : Nat} : (p : Int) ∈ intL a ↔ p ∈ a := by
  unfold intL
  rw [List.mem_map]
  constructor
  · rintro ⟨q, hq, e⟩
    have : q = p := by omega
    rw [← this]; exact hq
  · exact fun h => ⟨p, h, rfl⟩
theorem intL_has {a : List Nat} {p : Nat} : (intL a).contains (p : Int) = a.contains p := by
  rw [Bool.eq_iff_iff, List.contains_iff_mem, List.contains_iff_mem, intL_mem]
theorem intL_filter (a : List Nat) (g : Int → Bool) : (intL a).filter g = intL (a.filter fun p => g (p : Int)) := by
  unfold intL
  rw [List.filter_map]; rfl
theorem srt_is {l l' : List Nat} (hl : l.Nodup) (hs : l'.Pairwise (· < ·)) (h : ∀ p, p ∈ l' ↔ p ∈ l) : srt (intL l) = intL l' := by
  have np : l'.Nodup := hs.imp fun h => Nat.ne_of_lt h
  have p : l'.Perm l := (List.perm_ext_iff_of_nodup np hl).mpr h
  refine (srt_of (p.map _) ?_).symm
  show (l'.map _).Pairwise _
  rw [List.pairwise_map]
  exact hs.imp fun h => by omega
section
variable {k : Vbwbab.Book} {p : PS} {x : Block}
theorem vec_same (pr : Pr) (i : Nat) : Vbwbzz.vecOf (toW k p) (p.prs pr) i = vec p pr i := rfl
theorem step_num {a : Nat} (h : Vbwbzz.isStep a = true) : Vbwbzz.stepOf a = mvNum a := by
  unfold Vbwbzz.isStep at h
  unfold Vbwbzz.stepOf mvNum
  have : a % 3 = 1 := by simpa using h
  omega
theorem zip_add (a b : List Nat) : List.zipWith (fun x y => x + y) (intL a) (intL b) = intL (List.zipWith (fun x y => x + y) a b) := by
  unfold intL
  rw [List.zipWith_map, List.map_zipWith]
  rfl
theorem zip_sub : ∀ (a b : List Nat), Vbwbad.within b a = true → List.zipWith (fun x y => x - y) (intL a) (intL b) = intL (List.zipWith (fun x y => x - y) a b)
  | [], _, _ => by simp [intL]
  | _ :: _, [], _ => by simp [intL]
  | x :: a, y :: b, h => by
    have h' : (decide (y ≤ x) && Vbwbad.within b a) = true := h
    rw [Bool.and_eq_true] at h'
    have ih := zip_sub a b h'.2
    have hx := of_decide_eq_true h'.1
    show ((x : Int) - y) :: List.zipWith (fun x y => x - y) (intL a) (intL b) = ((x - y : Nat) : Int) :: intL (List.zipWith (fun x y => x - y) a b)
    rw [ih]
    congr 1
    omega
theorem zip_neg : ∀ (a b : List Nat), Vbwbad.within b a = false → ∃ z ∈ List.zipWith (fun x y => x - y) (intL a) (intL b), z < 0
  | [], [], h => by cases h
  | [], _ :: _, h => by cases h
  | _ :: _, [], h => by cases h
  | x :: a, y :: b, h => by
    have h' : (decide (y ≤ x) && Vbwbad.within b a) = false := h
    by_cases c : y ≤ x
    · rw [decide_eq_true c, Bool.true_and] at h'
      obtain ⟨z, hz, h0⟩ := zip_neg a b h'
      exact ⟨z, List.mem_cons_of_mem _ hz, h0⟩
    · exact ⟨(x : Int) - y, List.mem_cons_self .., by omega⟩
theorem can_same {s : Spot} {mv : Move} (hmv : mv ∈ mvs x) : canB mv (phi (pl x) s).m = Vbwbab.can s.mark mv := by
  unfold canB Vbwbab.can phi
  dsimp only
  have hl := (net_lt x 0 1 2 (by decide) (by decide) mv hmv).1
  rw [Bool.eq_iff_iff, List.all_eq_true, List.all_eq_true]
  constructor
  · intro h q hq
    have := h q hq
    rw [intL_has, List.contains_iff_mem, List.mem_filter] at this
    exact List.contains_iff_mem.mpr this.1
  · intro h q hq
    have := List.contains_iff_mem.mp (h q hq)
    rw [intL_has, List.contains_iff_mem, List.mem_filter]
    exact ⟨this, decide_eq_true (hl q hq)⟩
theorem begun_same {s : Spot} {i : Nat} : (phi (pl x) s).b.contains (i : Int) = s.mark.contains (pl x + i) := by
  unfold phi
  dsimp only
  rw [intL_has, Bool.eq_iff_iff, List.contains_iff_mem, List.contains_iff_mem, List.mem_map]
  constructor
  · rintro ⟨q, hq, e⟩
    rw [List.mem_filter] at hq
    have := of_decide_eq_true hq.2
    have : q = pl x + i := by omega
    rw [← this]; exact hq.1
  · intro h
    exact ⟨_, List.mem_filter.mpr ⟨h, decide_eq_true (by omega)⟩, by omega⟩
/-- a move made or begun, both ways -/
theorem moved_same {s : Spot} (g : Good (toW k p) x s) {i : Nat} {mv : Move} (hi : (mvs x)[i]? = some mv) (hc : Vbwbab.can s.mark mv = true) :
    ∃ s', (if Vbwbzz.isStep mv.letter = true then (Vbwbab.go s.mark ⟨0, mv.pre, [pl x + i]⟩).map fun m => (⟨m, Vbwbad.plus s.holds (Vbwbzz.vecOf (toW k p) (toW k p).takes (Vbwbzz.stepOf mv.letter))⟩ : Spot) else (Vbwbab.go s.mark mv).map fun m => ⟨m, s.holds⟩) = some s' ∧ Good (toW k p) x s' ∧ spMoved p (phi (pl x) s) i mv = phi (pl x) s' := by
  have hmv := List.mem_of_getElem? hi
  obtain ⟨l1, l2, l3, l4⟩ := net_lt x 0 1 2 (by decide) (by decide) mv hmv
  have hS : ∀ q ∈ mv.pre, q ∈ s.mark := fun q hq => List.contains_iff_mem.mp (List.all_eq_true.mp hc q hq)
  have nm : s.mark.Nodup := g.up.imp fun h => Nat.ne_of_lt h
  have pre_lt : ∀ q ∈ mv.pre, q < pl x := l1
  by_cases hst : Vbwbzz.isStep mv.letter = true
  · rw [if_pos hst]
    have hA : Act (pl x) (mvs x) 0 mv.pre [pl x + i] := ⟨i, mv, hi, .inr ⟨hst, .inl ⟨rfl, by rw [Nat.zero_add]⟩⟩⟩
    have hh : (Vbwbad.plus s.holds (Vbwbzz.vecOf (toW k p) (toW k p).takes (Vbwbzz.stepOf mv.letter))).length = (toW k p).units.length := by
      unfold Vbwbad.plus
      rw [List.length_zipWith, vec_len, g.len]; simp
    obtain ⟨m, e1, e2, e3, e4⟩ := go_good (l := 0) g hA hS (fun q hq hq2 => by
      rw [List.mem_singleton] at hq
      subst hq
      exact ⟨mv, by rw [Nat.add_sub_cancel_left]; exact hi, hst⟩) _ hh
    refine ⟨_, by rw [e1]; rfl, e2, ?_⟩
    have hnot : pl x + i ∉ s.mark := fun z => by
      have := pre_lt _ (e4 _ (by simp) z); omega
    unfold spMoved phi
    simp only [if_pos hst]
    congr 1
    · rw [intL_filter]
      congr 1
      refine rises_ext ((g.up.filter _).filter _) (e2.up.filter _) fun q => ?_
      rw [List.mem_filter, List.mem_filter, List.mem_filter, e3 q]
      have : ((intL mv.pre).contains (q : Int)) = mv.pre.contains q := intL_has
      unfold updS
      simp only [this, decide_eq_true_eq, Bool.not_eq_true', List.mem_singleton]
      constructor
      · rintro ⟨⟨h1, h2⟩, h3⟩
        exact ⟨.inl ⟨h1, by simpa using h3⟩, h2⟩
      · rintro ⟨h1 | h1, h2⟩
        · exact ⟨⟨h1.1, h2⟩, by simpa using h1.2⟩
        · omega
    · have : ([((i : Nat) : Int)] : List Int) = intL [i] := rfl
      rw [this, ← intL_app]
      refine srt_is ?_ ?_ fun q => ?_
      · refine List.nodup_append.mpr ⟨?_, by simp, fun a ha b hb => ?_⟩
        · refine (List.Pairwise.map (R := fun a b : Nat => a < b ∧ pl x ≤ a) _ (fun a b h => by omega) ?_)
          refine List.Pairwise.imp_of_mem (R := (· < ·)) (fun {a b} ha hb h => ⟨h, ?_⟩) (g.up.filter _)
          rw [List.mem_filter] at ha
          exact of_decide_eq_true ha.2
        · rw [List.mem_singleton] at hb
          obtain ⟨q, hq, e⟩ := List.mem_map.mp ha
          rw [List.mem_filter] at hq
          have := of_decide_eq_true hq.2
          intro e2
          have : q = pl x + i := by omega
          rw [this] at hq
          exact hnot hq.1
      · rw [List.pairwise_map]
        refine List.Pairwise.imp_of_mem (R := (· < ·)) (fun {a b} ha hb h => ?_) (e2.up.filter _)
        rw [List.mem_filter] at ha
        have := of_decide_eq_true ha.2
        omega
      · rw [List.mem_map, List.mem_append, List.mem_map, List.mem_singleton]
        constructor
        · rintro ⟨r, hr, e⟩
          rw [List.mem_filter, e3 r] at hr
          have h2 := of_decide_eq_true hr.2
          rcases hr.1 with ⟨h1, _⟩ | h1
          · exact .inl ⟨r, List.mem_filter.mpr ⟨h1, hr.2⟩, e⟩
          · rw [List.mem_singleton] at h1; exact .inr (by omega)
        · rintro (⟨r, hr, e⟩ | e)
          · rw [List.mem_filter] at hr
            refine ⟨r, ?_, e⟩
            rw [List.mem_filter, e3 r]
            refine ⟨.inl ⟨hr.1, fun z => ?_⟩, hr.2⟩
            have := pre_lt r z
            have := of_decide_eq_true hr.2
            omega
          · refine ⟨pl x + i, ?_, by omega⟩
            rw [List.mem_filter, e3]
            exact ⟨.inr (by simp), decide_eq_true (by omega)⟩
    · rw [zip_add, ← step_num hst]; rfl
  · have hst' : Vbwbzz.isStep mv.letter = false := by simpa using hst
    rw [if_neg hst]
    have hA : Act (pl x) (mvs x) 0 mv.pre mv.post := ⟨i, mv, hi, .inl ⟨hst', rfl, rfl⟩⟩
    have post_lt : ∀ q ∈ mv.post, q < pl x := l2
    obtain ⟨m, e1, e2, e3, e4⟩ := go_good (l := mv.letter) g hA hS (fun q hq hq2 => by have := post_lt q hq; omega) s.holds g.len
    refine ⟨_, by rw [show (mv : Move) = ⟨mv.letter, mv.pre, mv.post⟩ from rfl, e1]; rfl, e2, ?_⟩
    unfold spMoved phi
    simp only [if_neg hst]
    congr 1
    · rw [intL_filter, ← intL_app]
      refine srt_is ?_ (e2.up.filter _) fun q => ?_
      · refine List.nodup_append.mpr ⟨(nm.filter _).filter _, l4, fun a ha b hb => ?_⟩
        rw [List.mem_filter, List.mem_filter] at ha
        rintro rfl
        have := e4 a hb ha.1.1
        have hc : ((intL mv.pre).contains (a : Int)) = true := by rw [intL_has]; exact List.contains_iff_mem.mpr this
        rw [hc] at ha
        exact absurd ha.2 (by simp)
      · rw [List.mem_filter, e3 q, List.mem_append, List.mem_filter, List.mem_filter]
        have : ((intL mv.pre).contains (q : Int)) = mv.pre.contains q := intL_has
        unfold updS
        simp only [this, decide_eq_true_eq, Bool.not_eq_true']
        constructor
        · rintro ⟨h1 | h1, h2⟩
          · exact .inl ⟨⟨h1.1, h2⟩, by simpa using h1.2⟩
          · exact .inr h1
        · rintro (⟨⟨h1, h2⟩, h3⟩ | h1)
          · exact ⟨.inl ⟨h1, by simpa using h3⟩, h2⟩
          · exact ⟨.inr h1, post_lt q h1⟩
    · congr 2
      refine rises_ext (g.up.filter _) (e2.up.filter _) fun q => ?_
      rw [List.mem_filter, List.mem_filter, e3 q]
      unfold updS
      simp only [decide_eq_true_eq]
      constructor
      · rintro ⟨h1, h2⟩
        exact ⟨.inl ⟨h1, fun z => by have := pre_lt q z; omega⟩, h2⟩
      · rintro ⟨h1 | h1, h2⟩
        · exact ⟨h1.1, h2⟩
        · have := post_lt q h1; omega
/-- a step ended, both ways -/
theorem ended_same {s : Spot} (g : Good (toW k p) x s) {i : Nat} {mv : Move} (hi : (mvs x)[i]? = some mv) (hst : Vbwbzz.isStep mv.letter = true) (hb : s.mark.contains (pl x + i) = true) (hw : Vbwbad.within (Vbwbzz.vecOf (toW k p) (toW k p).gives (Vbwbzz.stepOf mv.letter)) s.holds = true) :
    ∃ s', ((Vbwbab.go s.mark ⟨0, [pl x + i], mv.post⟩).map fun m => (⟨m, Vbwbad.minus s.holds (Vbwbzz.vecOf (toW k p) (toW k p).gives (Vbwbzz.stepOf mv.letter))⟩ : Spot)) = some s' ∧ Good (toW k p) x s' ∧ spEnded p (phi (pl x) s) i mv = phi (pl x) s' := by
  have hmv := List.mem_of_getElem? hi
  obtain ⟨l1, l2, l3, l4⟩ := net_lt x 0 1 2 (by decide) (by decide) mv hmv
  have nm : s.mark.Nodup := g.up.imp fun h => Nat.ne_of_lt h
  have post_lt : ∀ q ∈ mv.post, q < pl x := l2
  have hA : Act (pl x) (mvs x) 0 [pl x + i] mv.post := ⟨i, mv, hi, .inr ⟨hst, .inr ⟨by rw [Nat.zero_add], rfl⟩⟩⟩
  have hh : (Vbwbad.minus s.holds (Vbwbzz.vecOf (toW k p) (toW k p).gives (Vbwbzz.stepOf mv.letter))).length = (toW k p).units.length := by
    unfold Vbwbad.minus
    rw [List.length_zipWith, vec_len, g.len]; simp
  obtain ⟨m, e1, e2, e3, e4⟩ := go_good (l := 0) g hA (fun q hq => by rw [List.mem_singleton] at hq; subst hq; exact List.contains_iff_mem.mp hb) (fun q hq hq2 => by have := post_lt q hq; omega) _ hh
  refine ⟨_, by rw [e1]; rfl, e2, ?_⟩
  unfold spEnded phi
  dsimp only
  congr 1
  · rw [← intL_app]
    refine srt_is ?_ (e2.up.filter _) fun q => ?_
    · refine List.nodup_append.mpr ⟨nm.filter _, l4, fun a ha b hb => ?_⟩
      rw [List.mem_filter] at ha
      rintro rfl
      have := e4 a hb ha.1
      rw [List.mem_singleton] at this
      have := post_lt a hb
      omega
    · rw [List.mem_filter, e3 q, List.mem_append, List.mem_filter]
      unfold updS
      simp only [decide_eq_true_eq, List.mem_singleton]
      constructor
      · rintro ⟨h1 | h1, h2⟩
        · exact .inl ⟨h1.1, h2⟩
        · exact .inr h1
      · rintro (⟨h1, h2⟩ | h1)
        · exact ⟨.inl ⟨h1, by omega⟩, h2⟩
        · exact ⟨.inr h1, post_lt q h1⟩
  · rw [intL_filter]
    congr 1
    refine rises_ext ?_ ?_ fun q => ?_
    · refine List.Pairwise.filter _ ?_
      rw [List.pairwise_map]
      refine List.Pairwise.imp_of_mem (R := (· < ·)) (fun {a b} ha hb h => ?_) (g.up.filter _)
      rw [List.mem_filter] at ha
      have := of_decide_eq_true ha.2
      omega
    · rw [List.pairwise_map]
      refine List.Pairwise.imp_of_mem (R := (· < ·)) (fun {a b} ha hb h => ?_) (e2.up.filter _)
      rw [List.mem_filter] at ha
      have := of_decide_eq_true ha.2
      omega
    · rw [List.mem_filter, List.mem_map, List.mem_map]
      constructor
      · rintro ⟨⟨r, hr, e⟩, h2⟩
        rw [List.mem_filter] at hr
        have h3 := of_decide_eq_true h2
        have h4 := of_decide_eq_true hr.2
        refine ⟨r, ?_, e⟩
        rw [List.mem_filter, e3 r]
        refine ⟨.inl ⟨hr.1, fun z => ?_⟩, hr.2⟩
        rw [List.mem_singleton] at z
        exact h3 (by omega)
      · rintro ⟨r, hr, e⟩
        rw [List.mem_filter, e3 r] at hr
        have h4 := of_decide_eq_true hr.2
        rcases hr.1 with ⟨h1, h2⟩ | h1
        · refine ⟨⟨r, List.mem_filter.mpr ⟨h1, hr.2⟩, e⟩, decide_eq_true fun z => h2 ?_⟩
          rw [List.mem_singleton]; omega
        · have := post_lt r h1; omega
  · have := zip_sub s.holds _ hw
    rw [← step_num hst]
    exact this
end
end Bm
end

section
set_option autoImplicit false
set_option linter.all false
/-! All spots: the program finds those of the specification. -/
namespace Bm
open Bw
open Vbwbab (Block Move)
open Vbwbzz (Works Spot)
section
variable {k : Vbwbab.Book} {p : PS} {x : Block}
abbrev nx (k : Vbwbab.Book) (p : PS) (x : Block) (s : Spot) : List (Option Spot) := Vbwbzz.spotNexts (toW k p) (Vbwbab.compiled x) s
def rMoved (k : Vbwbab.Book) (p : PS) (x : Block) (s : Spot) (i : Nat) (mv : Move) : Option Spot := if Vbwbzz.isStep mv.letter = true then (Vbwbab.go s.mark ⟨0, mv.pre, [pl x + i]⟩).map fun m => ⟨m, Vbwbad.plus s.holds (Vbwbzz.vecOf (toW k p) (toW k p).takes (Vbwbzz.stepOf mv.letter))⟩ else (Vbwbab.go s.mark mv).map fun m => ⟨m, s.holds⟩
def rEnded (k : Vbwbab.Book) (p : PS) (x : Block) (s : Spot) (i : Nat) (mv : Move) : Option Spot := if Vbwbad.within (Vbwbzz.vecOf (toW k p) (toW k p).gives (Vbwbzz.stepOf mv.letter)) s.holds = true then (Vbwbab.go s.mark ⟨0, [pl x + i], mv.post⟩).map fun m => ⟨m, Vbwbad.minus s.holds (Vbwbzz.vecOf (toW k p) (toW k p).gives (Vbwbzz.stepOf mv.letter))⟩ else none
theorem zip_range {α : Type} {l : List α} {y : α × Nat} : y ∈ l.zip (List.range l.length) ↔ l[y.2]? = some y.1 := by
  obtain ⟨a, i⟩ := y
  rw [List.mem_iff_getElem?]
  constructor
  · rintro ⟨j, hj⟩
    obtain ⟨h1, h2⟩ := List.getElem?_zip_eq_some.mp hj
    have hl := (List.getElem?_eq_some_iff.mp h1).1
    rw [List.getElem?_range hl] at h2
    cases h2
    exact h1
  · intro h
    have hl := (List.getElem?_eq_some_iff.mp h).1
    exact ⟨i, List.getElem?_zip_eq_some.mpr ⟨h, List.getElem?_range hl⟩⟩
theorem nx_mem {s : Spot} {r : Option Spot} : r ∈ nx k p x s ↔ ∃ i mv, (mvs x)[i]? = some mv ∧ ((Vbwbab.can s.mark mv = true ∧ r = rMoved k p x s i mv) ∨ (Vbwbzz.isStep mv.letter = true ∧ s.mark.contains (pl x + i) = true ∧ r = rEnded k p x s i mv)) := by
  show r ∈ _ ++ _ ↔ _
  rw [List.mem_append, List.mem_filterMap, List.mem_filterMap]
  constructor
  · rintro (⟨y, hy, e⟩ | ⟨y, hy, e⟩)
    · have := zip_range.mp hy
      split at e
      · rename_i c
        exact ⟨y.2, y.1, this, .inl ⟨c, (Option.some.inj e).symm⟩⟩
      · cases e
    · have := zip_range.mp hy
      split at e
      · rename_i c
        exact ⟨y.2, y.1, this, .inr ⟨c.1, c.2, (Option.some.inj e).symm⟩⟩
      · cases e
  · rintro ⟨i, mv, hi, ⟨c, e⟩ | ⟨c, c2, e⟩⟩
    · refine .inl ⟨(mv, i), zip_range.mpr hi, ?_⟩
      dsimp only
      rw [if_pos c, e]; rfl
    · refine .inr ⟨(mv, i), zip_range.mpr hi, ?_⟩
      dsimp only
      rw [if_pos ⟨c, c2⟩, e]; rfl
theorem beh_mem {s : Spt} {c : Spt} : c ∈ behindN p s (mvs x) (mvs x).length ↔ ∃ (i : Nat) (mv : Move), (mvs x)[i]? = some mv ∧ ((canB mv s.m = true ∧ c = spMoved p s i mv) ∨ (s.b.contains (i : Int) = true ∧ c = spEnded p s i mv)) := by
  unfold behindN
  rw [List.mem_flatMap]
  constructor
  · rintro ⟨i, hi, h⟩
    unfold behindI at h
    cases e : (mvs x)[i]? with
    | none => rw [e] at h; cases h
    | some mv =>
      rw [e] at h
      dsimp only at h
      rcases List.mem_append.mp h with h | h
      · split at h
        · rename_i c; rw [List.mem_singleton] at h; exact ⟨i, mv, e, .inl ⟨c, h⟩⟩
        · cases h
      · split at h
        · rename_i c; rw [List.mem_singleton] at h; exact ⟨i, mv, e, .inr ⟨c, h⟩⟩
        · cases h
  · rintro ⟨i, mv, hi, h⟩
    refine ⟨i, List.mem_range.mpr (List.getElem?_eq_some_iff.mp hi).1, ?_⟩
    unfold behindI
    rw [hi]
    dsimp only
    rcases h with ⟨c, rfl⟩ | ⟨c, rfl⟩
    · rw [if_pos c]; simp
    · rw [if_pos c]; simp
/-- a spot's nexts, in the specification and in the program -/
theorem nx_to {s : Spot} (g : Good (toW k p) x s) {r : Option Spot} (h : r ∈ nx k p x s) : (∃ s', r = some s' ∧ Good (toW k p) x s' ∧ phi (pl x) s' ∈ behindN p (phi (pl x) s) (mvs x) (mvs x).length) ∨ (r = none ∧ ∃ c ∈ behindN p (phi (pl x) s) (mvs x) (mvs x).length, ∃ z ∈ c.h, z < 0) := by
  obtain ⟨i, mv, hi, ⟨c, e⟩ | ⟨c, c2, e⟩⟩ := nx_mem.mp h
  · obtain ⟨s', e1, e2, e3⟩ := moved_same g hi c
    refine .inl ⟨s', e.trans e1, e2, beh_mem.mpr ⟨i, mv, hi, .inl ⟨?_, e3.symm⟩⟩⟩
    rw [can_same (List.mem_of_getElem? hi)]; exact c
  · cases hw : Vbwbad.within (Vbwbzz.vecOf (toW k p) (toW k p).gives (Vbwbzz.stepOf mv.letter)) s.holds with
    | true =>
      obtain ⟨s', e1, e2, e3⟩ := ended_same g hi c c2 hw
      refine .inl ⟨s', ?_, e2, beh_mem.mpr ⟨i, mv, hi, .inr ⟨?_, e3.symm⟩⟩⟩
      · rw [e]; unfold rEnded; rw [if_pos hw]; exact e1
      · rw [begun_same]; exact c2
    | false =>
      refine .inr ⟨?_, spEnded p (phi (pl x) s) i mv, beh_mem.mpr ⟨i, mv, hi, .inr ⟨by rw [begun_same]; exact c2, rfl⟩⟩, ?_⟩
      · rw [e]; unfold rEnded; rw [hw]; rfl
      · have := zip_neg s.holds _ hw
        rw [step_num c] at this
        exact this
theorem nx_of {s : Spot} (g : Good (toW k p) x s) {c : Spt} (h : c ∈ behindN p (phi (pl x) s) (mvs x) (mvs x).length) : (∃ s', some s' ∈ nx k p x s ∧ Good (toW k p) x s' ∧ c = phi (pl x) s') ∨ none ∈ nx k p x s := by
  obtain ⟨i, mv, hi, ⟨c1, e⟩ | ⟨c1, e⟩⟩ := beh_mem.mp h
  · rw [can_same (List.mem_of_getElem? hi)] at c1
    obtain ⟨s', e1, e2, e3⟩ := moved_same g hi c1
    exact .inl ⟨s', nx_mem.mpr ⟨i, mv, hi, .inl ⟨c1, e1.symm⟩⟩, e2, e.trans e3⟩
  · rw [begun_same] at c1
    obtain ⟨mv2, hm2, hst⟩ := g.steps (pl x + i) (List.contains_iff_mem.mp c1) (by omega)
    rw [Nat.add_sub_cancel_left, hi] at hm2
    cases hm2
    cases hw : Vbwbad.within (Vbwbzz.vecOf (toW k p) (toW k p).gives (Vbwbzz.stepOf mv.letter)) s.holds with
    | true =>
      obtain ⟨s', e1, e2, e3⟩ := ended_same g hi hst c1 hw
      refine .inl ⟨s', nx_mem.mpr ⟨i, mv, hi, .inr ⟨hst, c1, ?_⟩⟩, e2, e.trans e3⟩
      unfold rEnded; rw [if_pos hw]; exact e1.symm
    | false =>
      refine .inr (nx_mem.mpr ⟨i, mv, hi, .inr ⟨hst, c1, ?_⟩⟩)
      unfold rEnded; rw [hw]; rfl
/-! ### what can be come to -/
inductive Reach (k : Vbwbab.Book) (p : PS) (x : Block) : Spot → Prop
  | start : Reach k p x ⟨Vbwbab.start0, Vbwbzz.zeroOf (toW k p)⟩
  | next {s s' : Spot} (h : Reach k p x s) (hn : some s' ∈ nx k p x s) : Reach k p x s'
theorem Reach.good {s : Spot} (h : Reach k p x s) : Good (toW k p) x s := by
  induction h with
  | start => exact start_good _ x
  | next h hn ih =>
    rcases nx_to ih hn with ⟨s', e, g, _⟩ | ⟨e, _⟩
    · cases e; exact g
    · cases e
theorem eqSpot_iff {a b : Spot} : Vbwbzz.eqSpot a b = true ↔ a = b := by
  obtain ⟨m1, h1⟩ := a
  obtain ⟨m2, h2⟩ := b
  unfold Vbwbzz.eqSpot
  rw [Bool.and_eq_true, beq_iff_eq, beq_iff_eq]
  constructor
  · rintro ⟨rfl, rfl⟩; rfl
  · intro e; cases e; exact ⟨rfl, rfl⟩
def addU (a : List Spot) (y : Spot) : List Spot := if (a.any fun z => Vbwbzz.eqSpot z y) = true then a else a ++ [y]
theorem addU_mem {a : List Spot} {y z : Spot} : z ∈ addU a y ↔ z ∈ a ∨ z = y := by
  unfold addU
  split
  · rename_i h
    obtain ⟨t, ht, e⟩ := List.any_eq_true.mp h
    have := eqSpot_iff.mp e
    subst this
    constructor
    · exact .inl
    · rintro (h | rfl)
      · exact h
      · exact ht
  · simp
theorem addU_nodup {a : List Spot} {y : Spot} (h : a.Nodup) : (addU a y).Nodup := by
  unfold addU
  split
  · exact h
  · rename_i hc
    refine List.nodup_append.mpr ⟨h, by simp, fun u hu v hv => ?_⟩
    rw [List.mem_singleton] at hv
    subst hv
    rintro rfl
    exact hc (List.any_eq_true.mpr ⟨u, hu, eqSpot_iff.mpr rfl⟩)
theorem addsU : ∀ (l a : List Spot), (∀ z, z ∈ l.foldl addU a ↔ z ∈ a ∨ z ∈ l) ∧ (a.Nodup → (l.foldl addU a).Nodup) ∧ ∃ m, l.foldl addU a = a ++ m
  | [], a => ⟨fun z => by simp, fun h => h, [], by simp⟩
  | y :: l, a => by
    obtain ⟨h1, h2, m, h3⟩ := addsU l (addU a y)
    rw [List.foldl_cons]
    refine ⟨fun z => by rw [h1 z, addU_mem, List.mem_cons, or_assoc], fun h => h2 (addU_nodup h), ?_⟩
    unfold addU at h3 ⊢
    split at h3
    · rename_i c; rw [if_pos c]; exact ⟨m, h3⟩
    · rename_i c; rw [if_neg c]; exact ⟨y :: m, by rw [h3]; simp⟩
/-- the specification's looking round -/
theorem spotsFrom_eq (n i : Nat) (l : List Spot) : Vbwbzz.spotsFrom (toW k p) (Vbwbab.compiled x) (n + 1) i l = (match l[i]? with
    | none => some l
    | some s => if ((nx k p x s).any fun y => y.isNone) = true then none else
        if 600 < (((nx k p x s).filterMap fun y => y).foldl addU l).length then none else Vbwbzz.spotsFrom (toW k p) (Vbwbab.compiled x) n (i + 1) (((nx k p x s).filterMap fun y => y).foldl addU l)) := by
  conv => lhs; unfold Vbwbzz.spotsFrom
  rfl
structure Looked (k : Vbwbab.Book) (p : PS) (x : Block) (i : Nat) (l : List Spot) : Prop where
  reach : ∀ s ∈ l, Reach k p x s
  nd : l.Nodup
  st : ⟨Vbwbab.start0, Vbwbzz.zeroOf (toW k p)⟩ ∈ l
  few : l.length ≤ 600
  closed : ∀ j s, j < i → l[j]? = some s → ∀ r ∈ nx k p x s, ∃ s', r = some s' ∧ s' ∈ l
theorem looked_out : ∀ (n i : Nat) (l : List Spot), Looked k p x i l → i ≤ l.length → n + i = 602 →
    (∃ l', Vbwbzz.spotsFrom (toW k p) (Vbwbab.compiled x) n i l = some l' ∧ Looked k p x l'.length l') ∨
    (Vbwbzz.spotsFrom (toW k p) (Vbwbab.compiled x) n i l = none ∧ ((∃ s, Reach k p x s ∧ none ∈ nx k p x s) ∨ ∃ m : List Spot, m.Nodup ∧ 600 < m.length ∧ ∀ s ∈ m, Reach k p x s))
  | 0, i, l, L, hi, hn => by have := L.few; omega
  | n + 1, i, l, L, hi, hn => by
    rw [spotsFrom_eq]
    cases e : l[i]? with
    | none =>
      refine .inl ⟨l, rfl, L.reach, L.nd, L.st, L.few, fun j s hj hs => ?_⟩
      have := List.getElem?_eq_none_iff.mp e
      exact L.closed j s (by omega) hs
    | some s =>
      have hs := L.reach s (List.mem_of_getElem? e)
      have hl := (List.getElem?_eq_some_iff.mp e).1
      dsimp only
      by_cases c : ((nx k p x s).any fun y => y.isNone) = true
      · rw [if_pos c]
        obtain ⟨r, hr, h⟩ := List.any_eq_true.mp c
        have : r = none := by simpa using h
        subst this
        exact .inr ⟨rfl, .inl ⟨s, hs, hr⟩⟩
      · rw [if_neg c]
        obtain ⟨a1, a2, m, a3⟩ := addsU ((nx k p x s).filterMap fun y => y) l
        have hm : ∀ z, z ∈ (nx k p x s).filterMap (fun y => y) ↔ some z ∈ nx k p x s := fun z => by
          rw [List.mem_filterMap]
          constructor
          · rintro ⟨y, hy, rfl⟩; exact hy
          · exact fun h => ⟨_, h, rfl⟩
        have hr : ∀ z ∈ ((nx k p x s).filterMap fun y => y).foldl addU l, Reach k p x z := fun z hz => by
          rcases (a1 z).mp hz with h | h
          · exact L.reach z h
          · exact .next hs ((hm z).mp h)
        by_cases c2 : 600 < (((nx k p x s).filterMap fun y => y).foldl addU l).length
        · rw [if_pos c2]
          exact .inr ⟨rfl, .inr ⟨_, a2 L.nd, c2, hr⟩⟩
        · rw [if_neg c2]
          refine looked_out n (i + 1) _ ⟨hr, a2 L.nd, (a1 _).mpr (.inl L.st), by omega, fun j t hj ht r hrr => ?_⟩ ?_ (by omega)
          · rw [a3] at ht
            by_cases cj : j < l.length
            · rw [List.getElem?_append_left cj] at ht
              by_cases ci : j < i
              · obtain ⟨s', e1, e2⟩ := L.closed j t ci ht r hrr
                exact ⟨s', e1, (a1 s').mpr (.inl e2)⟩
              · have : j = i := by omega
                subst this
                rw [e] at ht
                cases ht
                cases r with
                | none => exact absurd (List.any_eq_true.mpr ⟨none, hrr, rfl⟩) c
                | some s' => exact ⟨s', rfl, (a1 s').mpr (.inr ((hm s').mpr hrr))⟩
            · omega
          · rw [a3, List.length_append]; omega
/-- the program's looking round -/
structure LookedC (p : PS) (x : Block) (i : Nat) (f : List Spt) : Prop where
  nd : f.Nodup
  st : firstS p ∈ f
  closed : ∀ j s, j < i → f[j]? = some s → ∀ c ∈ behindN p s (mvs x) (mvs x).length, c ∈ f
theorem foldN : ∀ (l f : List Spt), (∀ z, z ∈ l.foldl addN f ↔ z ∈ f ∨ z ∈ l) ∧ ∃ m, l.foldl addN f = f ++ m
  | [], f => ⟨fun z => by simp, [], by simp⟩
  | y :: l, f => by
    obtain ⟨h1, m, h2⟩ := foldN l (addN f y)
    rw [List.foldl_cons]
    have e : ∀ z, z ∈ addN f y ↔ z ∈ f ∨ z = y := fun z => by
      unfold addN
      split
      · rename_i h
        have := List.contains_iff_mem.mp h
        constructor
        · exact .inl
        · rintro (h | rfl)
          · exact h
          · exact this
      · simp
    refine ⟨fun z => by rw [h1 z, e z, List.mem_cons, or_assoc], ?_⟩
    unfold addN at h2 ⊢
    split at h2
    · rename_i c; rw [if_pos c]; exact ⟨m, h2⟩
    · rename_i c; rw [if_neg c]; exact ⟨y :: m, by rw [h2]; simp⟩
theorem loop_out : ∀ (n i : Nat) (f : List Spt), LookedC p x i f → i ≤ f.length → n + i = 601 → (∀ Q : Spt → Prop, (∀ c ∈ f, Q c) → (∀ s, Q s → ∀ c ∈ behindN p s (mvs x) (mvs x).length, Q c) → ∀ c ∈ loopS p (mvs x) n i f, Q c) ∧ (loopS p (mvs x) n i f).Nodup ∧ (600 < (loopS p (mvs x) n i f).length ∨ LookedC p x (loopS p (mvs x) n i f).length (loopS p (mvs x) n i f))
  | 0, i, f, L, hi, hn => ⟨fun Q h _ => h, L.nd, .inl (by show 600 < f.length; omega)⟩
  | n + 1, i, f, L, hi, hn => by
    unfold loopS
    by_cases c : i < f.length ∧ f.length ≤ 600
    · rw [if_pos c]
      have e : f[i]? = some f[i] := List.getElem?_eq_getElem c.1
      have es : stepS p (mvs x) f i = (behindN p f[i] (mvs x) (mvs x).length).foldl addN f := by
        unfold stepS
        rw [e]
      obtain ⟨a1, m, a2⟩ := foldN (behindN p f[i] (mvs x) (mvs x).length) f
      rw [es]
      have ih := loop_out n (i + 1) ((behindN p f[i] (mvs x) (mvs x).length).foldl addN f) ⟨fold_nodup _ _ L.nd, (a1 _).mpr (.inl L.st), fun j s hj hs cc hc => ?_⟩ (by rw [a2, List.length_append]; omega) (by omega)
      · refine ⟨fun Q h1 h2 => ih.1 Q (fun cc hc => ?_) h2, ih.2⟩
        rcases (a1 cc).mp hc with h | h
        · exact h1 cc h
        · exact h2 _ (h1 _ (List.getElem_mem c.1)) cc h
      · rw [a2] at hs
        by_cases cj : j < f.length
        · rw [List.getElem?_append_left cj] at hs
          by_cases ci : j < i
          · exact (a1 cc).mpr (.inl (L.closed j s ci hs cc hc))
          · have : j = i := by omega
            subst this
            rw [e] at hs
            cases hs
            exact (a1 cc).mpr (.inr hc)
        · omega
    · rw [if_neg c]
      refine ⟨fun Q h _ => h, L.nd, ?_⟩
      by_cases c2 : f.length ≤ 600
      · have : i = f.length := by omega
        subst this
        exact .inr L
      · exact .inl (by omega)
theorem first_same : firstS p = phi (pl x) ⟨Vbwbab.start0, Vbwbzz.zeroOf (toW k p)⟩ := by
  have u := net_up x 0 1 2
  have hp : pl x = (Vbwbab.netOf x 0 1 2).2 := rfl
  unfold firstS phi Vbwbab.start0 Vbwbzz.zeroOf
  have h1 : ([0] : List Nat).filter (fun q => decide (q < pl x)) = [0] := by
    rw [List.filter_cons_of_pos (by rw [decide_eq_true_eq]; omega)]; rfl
  have h2 : ([0] : List Nat).filter (fun q => decide (pl x ≤ q)) = [] := by
    rw [List.filter_cons_of_neg (by rw [decide_eq_true_eq]; omega)]; rfl
  rw [h1, h2]
  have h3 : List.replicate p.units.length (0 : Int) = intL ((toW k p).units.map fun _ => 0) := by
    unfold intL
    rw [List.map_map]
    show _ = p.units.map fun _ => ((0 : Nat) : Int)
    rw [List.map_const']; rfl
  rw [h3]; rfl
theorem start_looked : Looked k p x 0 [⟨Vbwbab.start0, Vbwbzz.zeroOf (toW k p)⟩] :=
  ⟨fun s hs => by rw [List.mem_singleton] at hs; subst hs; exact .start, by simp, by simp, by simp, fun j s hj => absurd hj (Nat.not_lt_zero _)⟩
theorem start_lookedC : LookedC p x 0 [firstS p] := ⟨by simp, by simp, fun j s hj => absurd hj (Nat.not_lt_zero _)⟩
theorem len_sub {α : Type} [DecidableEq α] : ∀ {l m : List α}, l.Nodup → (∀ y ∈ l, y ∈ m) → l.length ≤ m.length
  | [], m, _, _ => Nat.zero_le _
  | a :: l, m, h, hs => by
    have h' := List.nodup_cons.mp h
    have ha := hs a (List.mem_cons_self ..)
    have ih := len_sub (m := m.erase a) h'.2 fun y hy => (List.mem_erase_of_ne (by rintro rfl; exact h'.1 hy)).mpr (hs y (List.mem_cons_of_mem _ hy))
    rw [List.length_erase_of_mem ha] at ih
    have := List.length_pos_of_mem ha
    rw [List.length_cons]; omega
/-- **All spots**: the same in the program and in the specification, or the program's list shows what's wrong -/
theorem spots_same (k : Vbwbab.Book) (p : PS) (x : Block) :
    (∃ l, Vbwbzz.spots (toW k p) x = some l ∧ (spotsL p (mvs x)).Perm (l.map (phi (pl x))) ∧ l.length ≤ 600 ∧ (∀ s ∈ l, Good (toW k p) x s)) ∨
    (Vbwbzz.spots (toW k p) x = none ∧ (600 < (spotsL p (mvs x)).length ∨ ∃ c ∈ spotsL p (mvs x), ∃ z ∈ c.h, z < 0)) := by
  obtain ⟨q1, q2, q3⟩ := loop_out (p := p) (x := x) 601 0 [firstS p] start_lookedC (by simp) rfl
  rcases looked_out (k := k) (p := p) (x := x) 602 0 _ start_looked (by simp) rfl with ⟨l, e, L⟩ | ⟨e, h⟩
  · left
    have hcl : ∀ s ∈ l, ∀ r ∈ nx k p x s, ∃ s', r = some s' ∧ s' ∈ l := fun s hs r hr => by
      obtain ⟨j, hj⟩ := List.mem_iff_getElem?.mp hs
      exact L.closed j s (List.getElem?_eq_some_iff.mp hj).1 hj r hr
    have hgood : ∀ s ∈ l, Good (toW k p) x s := fun s hs => (L.reach s hs).good
    have sub : ∀ c ∈ spotsL p (mvs x), c ∈ l.map (phi (pl x)) := by
      refine q1 (fun c => c ∈ l.map (phi (pl x))) (fun c hc => ?_) fun s hs c hc => ?_
      · rw [List.mem_singleton] at hc
        subst hc
        rw [first_same (k := k) (x := x)]
        exact List.mem_map.mpr ⟨_, L.st, rfl⟩
      · obtain ⟨t, ht, rfl⟩ := List.mem_map.mp hs
        rcases nx_of (hgood t ht) hc with ⟨s', hn, g, rfl⟩ | hn
        · obtain ⟨s2, e2, h2⟩ := hcl t ht _ hn
          cases e2
          exact List.mem_map.mpr ⟨s', h2, rfl⟩
        · obtain ⟨s2, e2, h2⟩ := hcl t ht _ hn
          cases e2
    have ndm : (l.map (phi (pl x))).Nodup := by
      rw [List.Nodup, List.pairwise_map]
      refine List.Pairwise.imp_of_mem (R := (· ≠ ·)) (fun {a b} ha hb h e => h (phi_inj (hgood a ha).up (hgood b hb).up e)) L.nd
    have hle : (spotsL p (mvs x)).length ≤ l.length := by
      have := len_sub q2 sub
      rw [List.length_map] at this
      exact this
    have few := L.few
    rcases q3 with h | LC
    · have h' : 600 < (spotsL p (mvs x)).length := h
      omega
    · have sup : ∀ s, Reach k p x s → phi (pl x) s ∈ spotsL p (mvs x) := fun s hs => by
        induction hs with
        | start =>
          rw [← first_same (k := k) (x := x)]
          exact LC.st
        | next h hn ih =>
          rcases nx_to h.good hn with ⟨s', e2, g, hb⟩ | ⟨e2, _⟩
          · cases e2
            obtain ⟨j, hj⟩ := List.mem_iff_getElem?.mp ih
            exact LC.closed j _ (List.getElem?_eq_some_iff.mp hj).1 hj _ hb
          · cases e2
      refine ⟨l, e, (List.perm_ext_iff_of_nodup q2 ndm).mpr fun c => ⟨sub c, fun hc => ?_⟩, few, hgood⟩
      obtain ⟨t, ht, rfl⟩ := List.mem_map.mp hc
      exact sup t (L.reach t ht)
  · right
    refine ⟨e, ?_⟩
    rcases q3 with h2 | LC
    · exact .inl h2
    · have sup : ∀ s, Reach k p x s → phi (pl x) s ∈ spotsL p (mvs x) := fun s hs => by
        induction hs with
        | start =>
          rw [← first_same (k := k) (x := x)]
          exact LC.st
        | next h hn ih =>
          rcases nx_to h.good hn with ⟨s', e2, g, hb⟩ | ⟨e2, _⟩
          · cases e2
            obtain ⟨j, hj⟩ := List.mem_iff_getElem?.mp ih
            exact LC.closed j _ (List.getElem?_eq_some_iff.mp hj).1 hj _ hb
          · cases e2
      rcases h with ⟨s, hs, hn⟩ | ⟨m, m1, m2, m3⟩
      · rcases nx_to hs.good hn with ⟨s', e2, _⟩ | ⟨_, c, hc, hz⟩
        · cases e2
        · obtain ⟨j, hj⟩ := List.mem_iff_getElem?.mp (sup s hs)
          exact .inr ⟨c, LC.closed j _ (List.getElem?_eq_some_iff.mp hj).1 hj _ hc, hz⟩
      · left
        have ndm : (m.map (phi (pl x))).Nodup := by
          rw [List.Nodup, List.pairwise_map]
          exact List.Pairwise.imp_of_mem (R := (· ≠ ·)) (fun {a b} ha hb h e => h (phi_inj (m3 a ha).good.up (m3 b hb).good.up e)) m1
        have := len_sub ndm (m := spotsL p (mvs x)) fun c hc => by
          obtain ⟨t, ht, rfl⟩ := List.mem_map.mp hc
          exact sup t (m3 t ht)
        rw [List.length_map] at this
        omega
end
end Bm
end

section
set_option autoImplicit false
set_option linter.all false
/-! The works read: as the specification reads it. -/
namespace Bm
open Bw
open Vbwbab (Block Move)
open Vbwbzz (Works Spot)
theorem within_int (a b : List Nat) : ((intL a).zip (intL b)).all (fun x => decide (x.1 ≤ x.2)) = Vbwbad.within a b := by
  unfold Vbwbad.within intL
  rw [List.zip_map, List.all_map]
  congr 1
  funext x
  show decide ((x.1 : Int) ≤ (x.2 : Int)) = decide (x.1 ≤ x.2)
  rw [decide_eq_decide]; omega
theorem within_ok (a b : List Nat) : ((intL a).zip (intL b)).all okPair = Vbwbad.within a b := by
  unfold Vbwbad.within intL
  rw [List.zip_map, List.all_map]
  congr 1
  funext x
  show (!(decide ((x.1 : Int) < 0) || decide ((x.2 : Int) < (x.1 : Int)))) = decide (x.1 ≤ x.2)
  have : decide ((x.1 : Int) < 0) = false := decide_eq_false (by omega)
  rw [this, Bool.false_or]
  by_cases c : x.1 ≤ x.2
  · rw [decide_eq_true c, decide_eq_false (by omega)]; rfl
  · rw [decide_eq_false c, decide_eq_true (by omega)]; rfl
theorem within_max : ∀ (a b c : List Nat), a.length = b.length → Vbwbad.within (List.zipWith max a b) c = (Vbwbad.within a c && Vbwbad.within b c)
  | [], [], _, _ => rfl
  | [], _ :: _, _, h => by cases h
  | _ :: _, [], _, h => by cases h
  | x :: a, y :: b, [], _ => rfl
  | x :: a, y :: b, z :: c, h => by
    have ih := within_max a b c (by simpa using h)
    show (decide (max x y ≤ z) && Vbwbad.within (List.zipWith max a b) c) = ((decide (x ≤ z) && Vbwbad.within a c) && (decide (y ≤ z) && Vbwbad.within b c))
    rw [ih]
    have : decide (max x y ≤ z) = (decide (x ≤ z) && decide (y ≤ z)) := by
      rw [Bool.eq_iff_iff, Bool.and_eq_true, decide_eq_true_eq, decide_eq_true_eq, decide_eq_true_eq]
      exact Nat.max_le
    rw [this]
    cases decide (x ≤ z) <;> cases decide (y ≤ z) <;> cases Vbwbad.within a c <;> cases Vbwbad.within b c <;> rfl
theorem within_fold (c : List Nat) (n : Nat) : ∀ (l : List Spot) (v : List Nat), v.length = n → (∀ s ∈ l, s.holds.length = n) → (l.foldl (fun v s => List.zipWith max v s.holds) v).length = n ∧ Vbwbad.within (l.foldl (fun v s => List.zipWith max v s.holds) v) c = (Vbwbad.within v c && l.all fun s => Vbwbad.within s.holds c)
  | [], v, hv, _ => ⟨hv, by simp⟩
  | s :: l, v, hv, hs => by
    have h1 := hs s (List.mem_cons_self ..)
    obtain ⟨i1, i2⟩ := within_fold c n l (List.zipWith max v s.holds) (by rw [List.length_zipWith]; omega) fun t ht => hs t (List.mem_cons_of_mem _ ht)
    rw [List.foldl_cons]
    refine ⟨i1, ?_⟩
    rw [i2, within_max _ _ _ (by omega), List.all_cons, Bool.and_assoc]
theorem within_zero : ∀ (l : List (List Nat × Nat)) (c : List Nat), Vbwbad.within (l.map fun _ => 0) c = true
  | [], _ => rfl
  | _ :: _, [] => rfl
  | _ :: l, x :: c => by
    show (decide (0 ≤ x) && Vbwbad.within (l.map fun _ => 0) c) = true
    rw [within_zero l c, decide_eq_true (Nat.zero_le x)]; rfl
theorem sum_zero : ∀ l : List Nat, decide ((intL l).sum = 0) = l.all fun n => n == 0
  | [] => rfl
  | x :: l => by
    have ih := sum_zero l
    have hs : ∀ l : List Nat, 0 ≤ (intL l).sum := fun l => by
      induction l with
      | nil => exact Int.le_refl 0
      | cons y r ih =>
        show 0 ≤ (y : Int) + (intL r).sum
        omega
    have h0 := hs l
    show decide ((x : Int) + (intL l).sum = 0) = ((x == 0) && l.all fun n => n == 0)
    rw [← ih]
    by_cases c : x = 0
    · subst c; simp
    · have : (x == 0) = false := by simpa using c
      rw [this, Bool.false_and]
      exact decide_eq_false (by omega)
section
variable {k : Vbwbab.Book} {p : PS} {x : Block}
theorem mark_end {s : Spot} (g : Good (toW k p) x s) : (decide ((phi (pl x) s).m ≠ [1]) || (decide (0 < (phi (pl x) s).b.length) || decide ((phi (pl x) s).h.sum = 0))) = (s.mark != Vbwbab.end0 || s.holds.all fun n => n == 0) := by
  have u := net_up x 0 1 2
  have hp : pl x = (Vbwbab.netOf x 0 1 2).2 := rfl
  rw [show (phi (pl x) s).h = intL s.holds from rfl, sum_zero]
  by_cases c : s.mark = Vbwbab.end0
  · have h1 : (phi (pl x) s).m = [1] := by
      show intL (s.mark.filter fun q => decide (q < pl x)) = [1]
      rw [c]
      unfold Vbwbab.end0
      rw [List.filter_cons_of_pos (by rw [decide_eq_true_eq]; omega)]; rfl
    have h2 : (phi (pl x) s).b = [] := by
      show intL ((s.mark.filter fun q => decide (pl x ≤ q)).map (· - pl x)) = []
      rw [c]
      unfold Vbwbab.end0
      rw [List.filter_cons_of_neg (by rw [decide_eq_true_eq]; omega)]; rfl
    rw [h1, h2, c]; simp
  · have hne : (s.mark != Vbwbab.end0) = true := by simpa using c
    rw [hne, Bool.true_or]
    by_cases h1 : (phi (pl x) s).m = [1]
    · have h2 : 0 < (phi (pl x) s).b.length := by
        cases e : (phi (pl x) s).b with
        | cons => simp
        | nil =>
          exfalso
          apply c
          have e1 : s.mark.filter (fun q => decide (q < pl x)) = [1] := intL_inj (b := [1]) h1
          have e2 : (s.mark.filter fun q => decide (pl x ≤ q)) = [] := by
            have := intL_inj (b := []) e
            exact List.map_eq_nil_iff.mp this
          refine rises_ext g.up (by simp [Vbwbab.end0]) fun q => ?_
          have m1 : q ∈ s.mark.filter (fun q => decide (q < pl x)) ↔ q = 1 := by rw [e1, List.mem_singleton]
          have m2 : q ∉ s.mark.filter (fun q => decide (pl x ≤ q)) := by rw [e2]; simp
          rw [List.mem_filter] at m1 m2
          show q ∈ s.mark ↔ q ∈ [1]
          rw [List.mem_singleton]
          constructor
          · intro hq
            by_cases cq : q < pl x
            · exact m1.mp ⟨hq, decide_eq_true cq⟩
            · exact absurd ⟨hq, decide_eq_true (by omega)⟩ m2
          · exact fun hq => (m1.mpr hq).1
      rw [decide_eq_true h2]; simp
    · rw [decide_eq_true h1]; rfl
theorem rightS_same {s : Spot} (g : Good (toW k p) x s) (c : List Nat) : rightS (phi (pl x) s) (intL c) = (Vbwbad.within s.holds c && (s.mark != Vbwbab.end0 || s.holds.all fun n => n == 0)) := by
  unfold rightS
  rw [mark_end g]
  congr 1
  exact within_ok _ _
/-- what the specification asks of a recipe -/
def wrongB (w : Works) (x : Block) (i : Nat) : Bool := match Vbwbzz.spots w x with
  | none => true
  | some l => !(Vbwbad.within (Vbwbzz.greatest w l) (Vbwbzz.claimOf w i)) || (!(Vbwbzz.endsBare l) || !(Vbwbad.within (Vbwbzz.claimOf w i) (w.units.map fun u => u.2)))
theorem right_same (k : Vbwbab.Book) (p : PS) (x : Block) (i : Nat) : rightR p (mvs x) i = !(wrongB (toW k p) x i) := by
  unfold rightR wrongB
  have ec : Vbwbzz.claimOf (toW k p) i = vec p .claim i := rfl
  rw [ec, within_int]
  rcases spots_same k p x with ⟨l, e, hp, hl, hg⟩ | ⟨e, h⟩
  · rw [e]
    dsimp only
    have h1 : (spotsL p (mvs x)).length ≤ 600 := by rw [hp.length_eq, List.length_map]; exact hl
    have h2 : ((spotsL p (mvs x)).all fun s => rightS s (intL (vec p .claim i))) = l.all fun s => (Vbwbad.within s.holds (vec p .claim i) && (s.mark != Vbwbab.end0 || s.holds.all fun n => n == 0)) := by
      rw [hp.all_eq, List.all_map]
      rw [Bool.eq_iff_iff, List.all_eq_true, List.all_eq_true]
      constructor
      · intro h s hs
        rw [← rightS_same (hg s hs)]; exact h s hs
      · intro h s hs
        show rightS (phi (pl x) s) _ = true
        rw [rightS_same (hg s hs)]; exact h s hs
    have h3 := (within_fold (vec p .claim i) (toW k p).units.length l (Vbwbzz.zeroOf (toW k p)) (by simp [Vbwbzz.zeroOf]) fun s hs => (hg s hs).len).2
    have h4 : Vbwbad.within (Vbwbzz.greatest (toW k p) l) (vec p .claim i) = l.all fun s => Vbwbad.within s.holds (vec p .claim i) := by
      show Vbwbad.within (l.foldl (fun v s => List.zipWith max v s.holds) (Vbwbzz.zeroOf (toW k p))) _ = _
      rw [h3, show Vbwbad.within (Vbwbzz.zeroOf (toW k p)) (vec p .claim i) = true from within_zero _ _, Bool.true_and]
    rw [h2, h4, decide_eq_true h1, Bool.true_and]
    have h5 : (l.all fun s => (Vbwbad.within s.holds (vec p .claim i) && (s.mark != Vbwbab.end0 || s.holds.all fun n => n == 0))) = ((l.all fun s => Vbwbad.within s.holds (vec p .claim i)) && Vbwbzz.endsBare l) := by
      unfold Vbwbzz.endsBare
      rw [Bool.eq_iff_iff, Bool.and_eq_true, List.all_eq_true, List.all_eq_true, List.all_eq_true]
      constructor
      · exact fun h => ⟨fun s hs => (Bool.and_eq_true_iff.mp (h s hs)).1, fun s hs => (Bool.and_eq_true_iff.mp (h s hs)).2⟩
      · exact fun h s hs => Bool.and_eq_true_iff.mpr ⟨h.1 s hs, h.2 s hs⟩
    rw [h5]
    show (Vbwbad.within (vec p .claim i) (p.units.map (·.2)) && _) = !(_ || (_ || !(Vbwbad.within (vec p .claim i) (p.units.map fun u => u.2))))
    cases Vbwbad.within (vec p .claim i) (p.units.map (·.2)) <;> cases (l.all fun s => Vbwbad.within s.holds (vec p .claim i)) <;> cases Vbwbzz.endsBare l <;> rfl
  · rw [e]
    show _ = false
    rw [Bool.and_eq_false_iff]
    right
    rcases h with h | ⟨c, hc, z, hz, h0⟩
    · rw [Bool.and_eq_false_iff]
      exact .inl (decide_eq_false (by omega))
    · rw [Bool.and_eq_false_iff]
      by_cases c6 : (spotsL p (mvs x)).length ≤ 600
      · right
        rw [← Bool.not_eq_true, List.all_eq_true]
        intro hall
        have := hall c hc
        unfold rightS at this
        rw [Bool.and_eq_true] at this
        obtain ⟨j, hj⟩ := List.mem_iff_getElem?.mp hz
        have hl : c.h.length ≤ p.units.length := by
          obtain ⟨q1, _, _⟩ := loop_out (p := p) (x := x) 601 0 [firstS p] start_lookedC (by simp) rfl
          refine q1 (fun c => c.h.length ≤ p.units.length) (fun c hc => ?_) (fun s hs c hc => ?_) c hc
          · rw [List.mem_singleton] at hc
            subst hc
            simp [firstS]
          · obtain ⟨i, mv, _, ⟨_, rfl⟩ | ⟨_, rfl⟩⟩ := beh_mem.mp hc
            · unfold spMoved
              dsimp only
              split
              · show (List.zipWith _ _ _).length ≤ _
                rw [List.length_zipWith]; omega
              · exact hs
            · show (List.zipWith _ _ _).length ≤ _
              rw [List.length_zipWith]; omega
        have hjl := (List.getElem?_eq_some_iff.mp hj).1
        have hv : (intL (vec p .claim i)).length = p.units.length := by unfold intL vec; simp
        have hzz : (z, (intL (vec p .claim i))[j]'(by omega)) ∈ c.h.zip (intL (vec p .claim i)) := List.mem_of_getElem? (i := j) (by rw [List.getElem?_zip_eq_some]; exact ⟨hj, List.getElem?_eq_getElem _⟩)
        have ho := List.all_eq_true.mp this.1 _ hzz
        unfold okPair at ho
        rw [decide_eq_true (show z < 0 from h0)] at ho
        cases ho
      · exact .inl (decide_eq_false c6)
end
/-- the recipes' blocks, with used ones put in -/
def blOf (rs : List Int) : Nat → Block := match Vbwbab.read (Vbwbzz.nats rs) with
  | .error _ => fun _ => .skip
  | .ok k => fun i => (Vbwbab.flatAll k).getD i .skip
theorem readBook_fin (b : List Nat) : readBook b = fin ⟨toks b, [], [], Bk.empty⟩ := rfl
theorem nets_ok (rs : List Int) : NetsOk rs (blOf rs) := by
  have hb := book_out (Vbwbzz.nats rs)
  rw [← readBook_fin] at hb
  unfold blOf
  cases e : Vbwbab.read (Vbwbzz.nats rs) with
  | error p =>
    rw [e] at hb
    exact ⟨fun k hk => by rw [hb] at hk; (exact absurd hk (by simp)), fun k hk => by rw [hb] at hk; (exact absurd hk (by simp))⟩
  | ok k =>
    rw [e] at hb
    dsimp only at hb ⊢
    split at hb
    · exact ⟨fun k hk => by rw [hb] at hk; (exact absurd hk (by simp)), fun k hk => by rw [hb] at hk; (exact absurd hk (by simp))⟩
    · obtain ⟨kb, h1, R, S⟩ := hb
      refine ⟨fun k2 hk he => ?_, fun k2 hk => ?_⟩
      · rw [h1] at hk
        cases hk
        have L : Laid k kb := ⟨S, by rw [← S.ei]; exact he, R.len⟩
        refine ⟨fun i hi => ?_⟩
        obtain ⟨nm, u, b, g1, g2, g3, g4⟩ := lays_recipe L R hi
        refine ⟨⟨nm, u, b, g1, g2, g3⟩, ?_, fun mv hmv => net_few _ _ _ _ mv hmv⟩
        have := net_len ((Vbwbab.flatAll k).getD i .skip) 0 1 2
        show (Vbwbab.netOf ((Vbwbab.flatAll k).getD i .skip) 0 1 2).1.length ≤ 1000
        omega
      · rw [h1] at hk
        cases hk
        exact S.ten
/-- what is known of a works that's right -/
structure PlantOk (k : Vbwbab.Book) (p : PS) : Prop where
  rel : RelK k p.bk
  recs : RelR k p.bk
  fits : Fits p
  no : (Vbwbab.flatAll k).any Vbwbzz.hasEither = false
  right : ∀ i, i < k.recipes.length → wrongB (toW k p) ((Vbwbab.flatAll k).getD i .skip) i = false
theorem recs_same {k : Vbwbab.Book} {p : PS} {bl : Nat → Block} (hbl : bl = fun i => (Vbwbab.flatAll k).getD i .skip) (R : RelK k p.bk) (S : RelR k p.bk) (F : Fits p) :
    (∃ n, Vbwbzz.wrongRecipe (toW k p) = some n ∧ recsRun p bl = .error (-1000 - (n : Int))) ∨ (Vbwbzz.wrongRecipe (toW k p) = none ∧ recsRun p bl = .ok p ∧ PlantOk k p) := by
  have eB : Vbwbzz.blocks (toW k p) = Vbwbab.flatAll k := rfl
  have hl := R.len
  have eW : Vbwbzz.wrongRecipe (toW k p) = if (Vbwbab.flatAll k).any Vbwbzz.hasEither = true then some 6 else if (((Vbwbab.flatAll k).zip (List.range (Vbwbab.flatAll k).length)).any fun x => wrongB (toW k p) x.1 x.2) = true then some 7 else none := rfl
  rw [eW]
  unfold recsRun
  rw [S.ei]
  by_cases c : (Vbwbab.flatAll k).any Vbwbzz.hasEither = true
  · rw [if_pos c, if_pos c]
    exact .inl ⟨6, rfl, rfl⟩
  rw [if_neg c, if_neg c]
  have eA : (List.range p.bk.recs.length).all (fun i => rightR p (Vbwbab.compiled (bl i)).moves i) = !(((Vbwbab.flatAll k).zip (List.range (Vbwbab.flatAll k).length)).any fun x => wrongB (toW k p) x.1 x.2) := by
    rw [Bool.eq_iff_iff, List.all_eq_true, Bool.not_eq_true', List.any_eq_false]
    constructor
    · intro h y hy
      have hz := zip_range.mp hy
      have hlt := (List.getElem?_eq_some_iff.mp hz).1
      rw [flatAll_len, ← hl] at hlt
      have := h y.2 (List.mem_range.mpr hlt)
      rw [hbl] at this
      dsimp only at this
      rw [List.getD_eq_getElem?_getD, hz] at this
      rw [show (Vbwbab.compiled ((some y.1).getD Block.skip)).moves = mvs y.1 from rfl, right_same k p] at this
      simpa using this
    · intro h i hi
      have hlt := List.mem_range.mp hi
      rw [hl, ← flatAll_len] at hlt
      have hz : (Vbwbab.flatAll k)[i]? = some (Vbwbab.flatAll k)[i] := List.getElem?_eq_getElem hlt
      have := h ((Vbwbab.flatAll k)[i], i) (zip_range.mpr hz)
      rw [hbl]
      dsimp only
      rw [List.getD_eq_getElem?_getD, hz]
      rw [show (Vbwbab.compiled ((some (Vbwbab.flatAll k)[i]).getD Block.skip)).moves = mvs (Vbwbab.flatAll k)[i] from rfl, right_same k p]
      simpa using this
  rw [eA]
  cases e : (((Vbwbab.flatAll k).zip (List.range (Vbwbab.flatAll k).length)).any fun x => wrongB (toW k p) x.1 x.2) with
  | true =>
    left
    exact ⟨7, by rw [if_pos rfl], rfl⟩
  | false =>
    right
    refine ⟨by rw [if_neg (by simp)], rfl, ⟨R, S, F, by simpa using c, fun i hi => ?_⟩⟩
    · rw [← flatAll_len] at hi
      have hz : (Vbwbab.flatAll k)[i]? = some (Vbwbab.flatAll k)[i] := List.getElem?_eq_getElem hi
      have := List.any_eq_false.mp e ((Vbwbab.flatAll k)[i], i) (zip_range.mpr hz)
      rw [List.getD_eq_getElem?_getD, hz]
      simpa using this
/-- **The works read** -/
theorem plant_same (rs ws : List Int) :
    ((Vbwbzz.bytesOk rs 6000 && Vbwbzz.bytesOk ws 6000) = false ∧ plantR rs ws (blOf rs) = .error (-1)) ∨
    ((Vbwbzz.bytesOk rs 6000 && Vbwbzz.bytesOk ws 6000) = true ∧ ((∃ e : Nat × Nat, Vbwbzz.read (Vbwbzz.nats rs) (Vbwbzz.nats ws) = .error e ∧ plantR rs ws (blOf rs) = .error (-1000 - Int.ofNat (100 * e.1 + e.2))) ∨
      ∃ k p, Vbwbzz.read (Vbwbzz.nats rs) (Vbwbzz.nats ws) = .ok (toW k p) ∧ plantR rs ws (blOf rs) = .ok p ∧ PlantOk k p)) := by
  cases hb : (Vbwbzz.bytesOk rs 6000 && Vbwbzz.bytesOk ws 6000) with
  | false =>
    refine .inl ⟨rfl, ?_⟩
    unfold plantR
    rw [if_neg]
    rintro ⟨z1, z2⟩
    rw [z1, z2] at hb; cases hb
  | true =>
    refine .inr ⟨rfl, ?_⟩
    have ep : plantR rs ws (blOf rs) = readPlant (Vbwbzz.nats rs) (Vbwbzz.nats ws) (blOf rs) := by
      unfold plantR
      rw [if_pos (Bool.and_eq_true_iff.mp hb)]
    rw [ep]
    have eR : Vbwbzz.read (Vbwbzz.nats rs) (Vbwbzz.nats ws) = (match Vbwbab.read (Vbwbzz.nats rs) with
      | .error _ => .error (0, 8)
      | .ok k => if bigB k = true then .error (0, 8) else match Vbwbzz.readFrom (Vbwbzz.bare k) 1 (Vbwbzz.splitBy 10 (Vbwbzz.nats ws)) with
        | .error e => .error e
        | .ok w => match Vbwbzz.wrongRecipe w with
          | some k => .error (0, k)
          | none => .ok w) := rfl
    rw [eR]
    unfold readPlant
    have hO := book_out (Vbwbzz.nats rs)
    rw [← readBook_fin] at hO
    cases e : Vbwbab.read (Vbwbzz.nats rs) with
    | error q =>
      rw [e] at hO
      have hO' : readBook (Vbwbzz.nats rs) = none := hO
      rw [hO']
      exact .inl ⟨(0, 8), rfl, rfl⟩
    | ok k =>
      rw [e] at hO
      dsimp only at hO ⊢
      by_cases c : bigB k = true
      · rw [if_pos c] at hO
        rw [hO, if_pos c]
        exact .inl ⟨(0, 8), rfl, rfl⟩
      · rw [if_neg c] at hO
        obtain ⟨kb, h1, R, S⟩ := hO
        rw [h1, if_neg c]
        dsimp only
        have hbl : blOf rs = fun i => (Vbwbab.flatAll k).getD i .skip := by unfold blOf; rw [e]
        have F0 : Fits (PS.bare kb) := ⟨by show 0 ≤ 12; decide, by show 0 ≤ 12; decide, by show 0 ≤ 6; decide, by show 0 ≤ 60; decide, by show 0 ≤ 60; decide, by show 0 ≤ 60; decide, by show 0 ≤ 60; decide⟩
        have N0 : Nm k (PS.bare kb) := ⟨R.names.symm, (snames_eq R).symm⟩
        have LO := lines_out (k := k) (Vbwbzz.splitBy 10 (Vbwbzz.nats ws)) 1 (PS.bare kb) F0 N0
        have ebare : Vbwbzz.bare k = toW k (PS.bare kb) := rfl
        rw [ebare]
        unfold linesL
        rcases LO with ⟨i, kd, g1, g2⟩ | ⟨p, g1, g2, g3, g4⟩
        · rw [g1, g2]
          refine .inl ⟨(i, kd), rfl, ?_⟩
          refine congrArg Except.error ?_
          show -1000 - (100 * (i : Int) + (kd : Int)) = -1000 - ((100 * i + kd : Nat) : Int)
          omega
        · rw [g1, g2]
          dsimp only
          have eb : p.bk = kb := g3
          rcases recs_same (k := k) (p := p) hbl (by rw [eb]; exact R) (by rw [eb]; exact S) g4 with ⟨n, q1, q2⟩ | ⟨q1, q2, q3⟩
          · rw [q1, q2]
            refine .inl ⟨(0, n), rfl, ?_⟩
            refine congrArg Except.error ?_
            show -1000 - (n : Int) = -1000 - ((100 * 0 + n : Nat) : Int)
            omega
          · rw [q1, q2]
            exact .inr ⟨k, p, rfl, rfl, q3⟩
/-- a call's answer over the works -/
theorem with_works (rs ws : List Int) (g : Works → List Int) (h : PS → List Int) (hg : ∀ k p, PlantOk k p → g (toW k p) = h p) :
    Vbwbzz.withWorks rs ws g = match plantR rs ws (blOf rs) with
      | .error n => [n]
      | .ok p => h p := by
  unfold Vbwbzz.withWorks
  rcases plant_same rs ws with ⟨h1, h2⟩ | ⟨h1, ⟨e, h2, h3⟩ | ⟨k, p, h2, h3, h4⟩⟩
  · rw [if_pos (show (Vbwbzz.bytesOk rs Vbwbzz.LONG && Vbwbzz.bytesOk ws Vbwbzz.LONG) = false from h1), h2]
  · rw [if_neg (show ¬ (Vbwbzz.bytesOk rs Vbwbzz.LONG && Vbwbzz.bytesOk ws Vbwbzz.LONG) = false from by rw [show (Vbwbzz.bytesOk rs Vbwbzz.LONG && Vbwbzz.bytesOk ws Vbwbzz.LONG) = true from h1]; simp), h2, h3]
  · rw [if_neg (show ¬ (Vbwbzz.bytesOk rs Vbwbzz.LONG && Vbwbzz.bytesOk ws Vbwbzz.LONG) = false from by rw [show (Vbwbzz.bytesOk rs Vbwbzz.LONG && Vbwbzz.bytesOk ws Vbwbzz.LONG) = true from h1]; simp), h2, h3]
    exact hg k p h4
end Bm
end

section
set_option autoImplicit false
set_option linter.all false
namespace Bm
open Bw
theorem due : Due := fun rs ws _ _ => by
  refine ⟨blOf rs, nets_ok rs, ?_⟩
  have h := with_works rs ws (fun x => Vbwbzz.ints [x.book.recipes.length, x.stuffs.length, x.vessels.length, x.units.length, x.doings.length]) (fun p => [(p.bk.recs.length : Int), (p.stuffs.length : Int), (p.vessels.length : Int), (p.units.length : Int), (p.doings.length : Int)]) (fun k p hk => by
    rw [hk.rel.len]; rfl)
  show worksAns rs ws (blOf rs) = Vbwbzz.withWorks rs ws _
  rw [h]
  unfold worksAns
  rfl
end Bm
theorem PySem.Challenge.cw_batchworks_s01_works_holds : PySem.Challenge.rw_batchworks_s01_works.Holds :=
  Bw.claim_of Bm.due
#print axioms PySem.Challenge.cw_batchworks_s01_works_holds
end
