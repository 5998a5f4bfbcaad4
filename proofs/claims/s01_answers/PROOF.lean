import PyProof.Rows.All
import Wide.All
import OpenK.AllK
import Wide.FinOn
import Open.SpecLaws
import KE.OsGo
import KE.LtSeq
import KE.KDictZip
import HandS.ForSpec
import HandS.ForMost
import HandS.Walk
import HandS.Zip
import HandS.CallLocal
import HandS.Conv
import HandS.TupAny
import HandS.TupLen
import HandS.Codes
import HandS.Style
import HandS.DictTup
import HandS.WrittenGet
import KE.GoesZip
import KE.GoesMore
import KE.GoesEnum
import KE.KDictWalk
import KE.KDictSum
import KE.KDictCopyH
import HandS.More
import PyFlatLaws
import PySem.Challenge.RW_leastterm_s01_answers
/-! Mathematics A: terms in numbers. -/
set_option linter.unusedSimpArgs false
set_option linter.unusedVariables false
namespace LT
open Sm08
/-- how many terms stand behind a sign -/
def ar (s : Nat) : Nat := if s < 20 then 0 else if s < 24 then 1 else if s < 31 then 2 else 3
/-- a sign that is there -/
def there (size k s : Nat) : Bool := if 20 ≤ s then decide (s < 32) else if 2 ≤ s then decide (s - 2 < size) else decide (s < k)
/-- is_term's loop -/
def scan (size k : Nat) : Nat → List Nat → Bool
  | m, [] => m == 0
  | m, s :: r => if m = 0 then false else if there size k s = true then scan size k (m + ar s - 1) r else false
theorem code_ne (t : Term) : code t ≠ [] := by cases t <;> simp [code]
theorem code_pos (t : Term) : 0 < (code t).length := List.length_pos_iff.mpr (code_ne t)
/-- a term is good: its signs are its own form's -/
def good : Term → Bool
  | .input i => decide (i < 2)
  | .const c => decide (c < 16)
  | .one o a => decide (o < 4) && good a
  | .two o a b => decide (4 ≤ o) && (decide (o < 11) && (good a && good b))
  | .pick a b c => good a && (good b && good c)
/-- reading gives the code, and a good term -/
theorem read_code : ∀ (f : Nat) (l : List Nat) (t : Term) (r : List Nat), Sm08.read f l = some (t, r) → l = code t ++ r ∧ good t = true
  | 0, _, _, _, h => by simp [Sm08.read] at h
  | f + 1, [], _, _, h => by simp [Sm08.read] at h
  | f + 1, n :: l, t, r, h => by
    unfold Sm08.read at h
    dsimp only at h
    split at h
    · cases h; rename_i g; simp [code, good, g]
    split at h
    · cases h; rename_i g1 g2; refine ⟨?_, ?_⟩
      · simp [code]; omega
      · simp [good]; omega
    split at h
    · cases h
    split at h
    · rename_i g1 g2 g3 g4
      cases e : Sm08.read f l with
      | none => rw [e] at h; cases h
      | some x =>
        rw [e] at h
        simp only [Option.map_some, Option.some.injEq, Prod.mk.injEq] at h
        obtain ⟨rfl, rfl⟩ := h
        obtain ⟨e1, e2⟩ := read_code f l x.1 x.2 e
        refine ⟨?_, ?_⟩
        · rw [e1]; simp [code]; omega
        · simp [good, e2]; omega
    split at h
    · rename_i g1 g2 g3 g4 g5
      cases e : Sm08.read f l with
      | none => rw [e] at h; cases h
      | some x =>
        rw [e] at h
        simp only [Option.bind_some] at h
        cases e' : Sm08.read f x.2 with
        | none => rw [e'] at h; cases h
        | some y =>
          rw [e'] at h
          simp only [Option.map_some, Option.some.injEq, Prod.mk.injEq] at h
          obtain ⟨rfl, rfl⟩ := h
          obtain ⟨e1, e2⟩ := read_code f l x.1 x.2 e
          obtain ⟨e3, e4⟩ := read_code f x.2 y.1 y.2 e'
          refine ⟨?_, ?_⟩
          · rw [e1, e3]; simp [code]; omega
          · simp [good, e2, e4]; omega
    split at h
    · rename_i g1 g2 g3 g4 g5 g6
      cases e : Sm08.read f l with
      | none => rw [e] at h; cases h
      | some x =>
        rw [e] at h
        simp only [Option.bind_some] at h
        cases e' : Sm08.read f x.2 with
        | none => rw [e'] at h; cases h
        | some y =>
          rw [e'] at h
          simp only [Option.bind_some] at h
          cases e'' : Sm08.read f y.2 with
          | none => rw [e''] at h; cases h
          | some z =>
            rw [e''] at h
            simp only [Option.map_some, Option.some.injEq, Prod.mk.injEq] at h
            obtain ⟨rfl, rfl⟩ := h
            obtain ⟨e1, e2⟩ := read_code f l x.1 x.2 e
            obtain ⟨e3, e4⟩ := read_code f x.2 y.1 y.2 e'
            obtain ⟨e5, e6⟩ := read_code f y.2 z.1 z.2 e''
            refine ⟨?_, ?_⟩
            · rw [e1, e3, e5]; simp [code]; omega
            · simp [good, e2, e4, e6]
    · cases h
/-- a good term is read back -/
theorem read_of : ∀ (t : Term), good t = true → ∀ (f : Nat) (r : List Nat), (code t).length ≤ f → Sm08.read f (code t ++ r) = some (t, r)
  | t, hg, 0, r, h => by have := code_pos t; omega
  | .input i, hg, f + 1, r, h => by
    simp [good] at hg
    simp [Sm08.read, code, hg]
  | .const c, hg, f + 1, r, h => by
    simp [good] at hg
    have h1 : ¬ (2 + c < 2) := by omega
    have h2 : 2 + c < 18 := by omega
    simp [Sm08.read, code, h1, h2]
  | .one o a, hg, f + 1, r, h => by
    simp [good] at hg
    obtain ⟨ho, ha⟩ := hg
    have h1 : ¬ (20 + o < 2) := by omega
    have h2 : ¬ (20 + o < 18) := by omega
    have h3 : ¬ (20 + o < 20) := by omega
    have h4 : 20 + o < 24 := by omega
    simp only [code, List.length_cons] at h
    have ih := read_of a ha f r (by omega)
    simp [Sm08.read, code, h1, h2, h4, ih]
  | .two o a b, hg, f + 1, r, h => by
    simp [good] at hg
    obtain ⟨ho, ho2, ha, hb⟩ := hg
    have h1 : ¬ (20 + o < 2) := by omega
    have h2 : ¬ (20 + o < 18) := by omega
    have h3 : ¬ (20 + o < 20) := by omega
    have h4 : ¬ (20 + o < 24) := by omega
    have h5 : 20 + o < 31 := by omega
    simp only [code, List.length_cons, List.length_append] at h
    have ih := read_of a ha f (code b ++ r) (by omega)
    have ih2 := read_of b hb f r (by omega)
    simp [Sm08.read, code, h1, h2, h4, h5, ih, ih2]
  | .pick a b c, hg, f + 1, r, h => by
    simp [good] at hg
    obtain ⟨ha, hb, hc⟩ := hg
    simp only [code, List.length_cons, List.length_append] at h
    have ih := read_of a ha f (code b ++ (code c ++ r)) (by omega)
    have ih2 := read_of b hb f (code c ++ r) (by omega)
    have ih3 := read_of c hc f r (by omega)
    simp [Sm08.read, code, ih, ih2, ih3]
/-- a term's own place among the language's words: good and fitting -/
def fine (w k : Nat) (t : Term) : Bool := good t && fitsIn w k t
theorem scan_code {w k : Nat} : ∀ (t : Term), good t = true → fitsIn w k t = true → ∀ (m : Nat) (r : List Nat), scan (2 ^ w) k (m + 1) (code t ++ r) = scan (2 ^ w) k m r
  | .input i, hg, hf, m, r => by
    simp [good] at hg
    simp [fitsIn] at hf
    have h1 : ¬ (20 ≤ i) := by omega
    have h2 : ¬ (2 ≤ i) := by omega
    have h3 : i < 20 := by omega
    simp [scan, code, there, ar, h1, h2, h3, hf]
  | .const c, hg, hf, m, r => by
    simp [good] at hg
    simp [fitsIn] at hf
    have h1 : ¬ (20 ≤ 2 + c) := by omega
    have h3 : 2 + c < 20 := by omega
    simp [scan, code, there, ar, h1, h3, hf]
  | .one o a, hg, hf, m, r => by
    simp [good] at hg
    simp [fitsIn] at hf
    have h1 : 20 + o < 32 := by omega
    have h3 : 20 + o < 24 := by omega
    have h0 : ¬ (20 + o < 20) := by omega
    simp [scan, code, there, ar, h0, h1, h3]
    exact scan_code a hg.2 hf m r
  | .two o a b, hg, hf, m, r => by
    simp [good] at hg
    simp [fitsIn] at hf
    have h1 : 20 + o < 32 := by omega
    have h3 : ¬ (20 + o < 24) := by omega
    have h4 : 20 + o < 31 := by omega
    have h0 : ¬ (20 + o < 20) := by omega
    simp [scan, code, there, ar, h0, h1, h3, h4]
    have ha := scan_code a hg.2.2.1 hf.1 (m + 1) (code b ++ r)
    have hb := scan_code b hg.2.2.2 hf.2 m r
    rw [← hb, ← ha]
  | .pick a b c, hg, hf, m, r => by
    simp [good] at hg
    simp [fitsIn] at hf
    simp [scan, code, there, ar]
    have ha := scan_code a hg.1 hf.1 (m + 2) (code b ++ (code c ++ r))
    have hb := scan_code b hg.2.1 hf.2.1 (m + 1) (code c ++ r)
    have hc := scan_code c hg.2.2 hf.2.2 m r
    rw [← hc, ← hb, ← ha]
/-- what scan takes is terms, one behind another -/
theorem scan_terms {w k : Nat} (hw : w ≤ 4) (hk : k ≤ 2) : ∀ (l : List Nat) (m : Nat), scan (2 ^ w) k m l = true → ∃ ts : List Term, ts.length = m ∧ (∀ t ∈ ts, fine w k t = true) ∧ l = ts.flatMap code
  | [], m, h => ⟨[], by simp [scan] at h; simp [h], by simp, rfl⟩
  | s :: r, 0, h => by simp [scan] at h
  | s :: r, m + 1, h => by
    have hp : 2 ^ w ≤ 16 := by
      have := Nat.pow_le_pow_right (n := 2) (by decide) hw
      simpa using this
    simp only [scan] at h
    rw [if_neg (by omega)] at h
    by_cases ht : there (2 ^ w) k s = true
    · rw [if_pos ht] at h
      have e : m + 1 + ar s - 1 = m + ar s := by omega
      rw [e] at h
      obtain ⟨ts, hl, hf, hr⟩ := scan_terms hw hk r _ h
      unfold there at ht
      by_cases a1 : s < 2
      · rw [if_neg (by omega), if_neg (by omega)] at ht
        have ea : ar s = 0 := by simp [ar]; omega
        rw [ea] at hl
        refine ⟨.input s :: ts, by simp [hl], ?_, ?_⟩
        · intro t hm
          rcases List.mem_cons.mp hm with rfl | hm
          · simp at ht
            simp [fine, good, fitsIn, ht, a1]
          · exact hf t hm
        · simp [code, hr]
      · by_cases a2 : s < 20
        · rw [if_neg (by omega), if_pos (by omega)] at ht
          simp at ht
          have ea : ar s = 0 := by simp [ar]; omega
          rw [ea] at hl
          refine ⟨.const (s - 2) :: ts, by simp [hl], ?_, ?_⟩
          · intro t hm
            rcases List.mem_cons.mp hm with rfl | hm
            · simp [fine, good, fitsIn]
              omega
            · exact hf t hm
          · simp [code, hr]
            omega
        · rw [if_pos (by omega)] at ht
          simp at ht
          by_cases a3 : s < 24
          · have ea : ar s = 1 := by simp [ar, a2, a3]
            rw [ea] at hl
            match ts, hl, hf, hr with
            | x :: ts, hl, hf, hr =>
              have hx := hf x (by simp)
              simp [fine] at hx
              refine ⟨.one (s - 20) x :: ts, by simpa using hl, ?_, ?_⟩
              · intro t hm
                rcases List.mem_cons.mp hm with rfl | hm
                · simp [fine, good, fitsIn, hx]
                  omega
                · exact hf t (by simp [hm])
              · simp [code, hr]
                omega
          · by_cases a4 : s < 31
            · have ea : ar s = 2 := by simp [ar, a2, a3, a4]
              rw [ea] at hl
              match ts, hl, hf, hr with
              | x :: y :: ts, hl, hf, hr =>
                have hx := hf x (by simp)
                have hy := hf y (by simp)
                simp [fine] at hx hy
                refine ⟨.two (s - 20) x y :: ts, by simpa using hl, ?_, ?_⟩
                · intro t hm
                  rcases List.mem_cons.mp hm with rfl | hm
                  · simp [fine, good, fitsIn, hx, hy]
                    omega
                  · exact hf t (by simp [hm])
                · simp [code, hr]
                  omega
              | [x], hl, _, _ => exact absurd hl (by simp)
              | [], hl, _, _ => exact absurd hl (by simp)
            · have ea : ar s = 3 := by simp [ar, a2, a3, a4]
              rw [ea] at hl
              match ts, hl, hf, hr with
              | x :: y :: z :: ts, hl, hf, hr =>
                have hx := hf x (by simp)
                have hy := hf y (by simp)
                have hz := hf z (by simp)
                simp [fine] at hx hy hz
                refine ⟨.pick x y z :: ts, by simpa using hl, ?_, ?_⟩
                · intro t hm
                  rcases List.mem_cons.mp hm with rfl | hm
                  · simp [fine, good, fitsIn, hx, hy, hz]
                  · exact hf t (by simp [hm])
                · simp [code, hr]
                  omega
              | [x, y], hl, _, _ => exact absurd hl (by simp)
              | [x], hl, _, _ => exact absurd hl (by simp)
              | [], hl, _, _ => exact absurd hl (by simp)
    · rw [if_neg ht] at h
      cases h
theorem termOf_code {w k : Nat} {l : List Nat} {t : Term} (h : termOf w k l = some t) : l = code t ∧ good t = true ∧ fitsIn w k t = true := by
  unfold termOf at h
  split at h
  · rename_i t' e
    split at h
    · rename_i hf
      cases h
      obtain ⟨e1, e2⟩ := read_code _ _ _ _ e
      exact ⟨by simpa using e1, e2, hf⟩
    · cases h
  · cases h
theorem termOf_of {w k : Nat} {t : Term} (hg : good t = true) (hf : fitsIn w k t = true) : termOf w k (code t) = some t := by
  have e := read_of t hg ((code t).length + 1) [] (by omega)
  rw [List.append_nil] at e
  unfold termOf
  rw [e]
  simp [hf]
theorem code_inj {t u : Term} (ht : good t = true) (hu : good u = true) (e : code t = code u) : t = u := by
  have a := read_of t ht (code t).length [] (Nat.le_refl _)
  have b := read_of u hu (code t).length [] (by rw [e]; exact Nat.le_refl _)
  rw [e] at a b
  rw [b] at a
  exact (Prod.mk.inj (Option.some.inj a)).1.symm
/-- **is_term** is «termOf gives one» -/
theorem scan_termOf {w k : Nat} (hw : w ≤ 4) (hk : k ≤ 2) (l : List Nat) : scan (2 ^ w) k 1 l = (termOf w k l).isSome := by
  cases h : termOf w k l with
  | some t =>
    obtain ⟨rfl, hg, hf⟩ := termOf_code h
    have := scan_code t hg hf 0 []
    rw [List.append_nil] at this
    simp [this, scan]
  | none =>
    cases hs : scan (2 ^ w) k 1 l with
    | false => rfl
    | true =>
      obtain ⟨ts, hl, hf, e⟩ := scan_terms hw hk l 1 hs
      match ts, hl, hf, e with
      | [t], _, hf, e =>
        have := hf t (by simp)
        simp [fine] at this
        simp at e
        rw [e, termOf_of this.1 this.2] at h
        cases h
end LT
set_option linter.unusedSimpArgs false
set_option linter.unusedVariables false
/-! Mathematics B: what a term is of rows, by a stack from the back; the search, level by level. -/
namespace LT
open Sm08
def leaf (rows : List (List Nat)) (s : Nat) : List Nat := if s < 2 then rows.map (fun r => r.getD s 0) else rows.map (fun _ => s - 2)
def opRow (w o : Nat) : List (List Nat) → List Nat
  | [a] => a.map (one_ w o)
  | [a, b] => (a.zip b).map fun y => two_ w o y.1 y.2
  | [a, b, c] => (a.zip (b.zip c)).map fun y => if y.1 ≠ 0 then y.2.1 else y.2.2
  | _ => []
def stepS (w : Nat) (rows : List (List Nat)) (s : Nat) (stk : List (List Nat)) : List (List Nat) :=
  if s < 20 then leaf rows s :: stk else opRow w (s - 20) (stk.take (ar s)) :: stk.drop (ar s)
def outs (w : Nat) (rows : List (List Nat)) (t : Term) : List Nat := rows.map fun r => eval w r t
theorem zip_outs {α β γ : Type} (f : α → β) (g : α → γ) : ∀ l : List α, (l.map f).zip (l.map g) = l.map fun x => (f x, g x)
  | [] => rfl
  | a :: l => by simp [zip_outs f g l]
theorem stack_code (w : Nat) (rows : List (List Nat)) : ∀ (t : Term), good t = true → ∀ stk, (code t).foldr (stepS w rows) stk = outs w rows t :: stk
  | .input i, hg, stk => by
    simp [good] at hg
    have h1 : i < 20 := by omega
    simp [code, stepS, h1, leaf, hg, outs, eval]
  | .const c, hg, stk => by
    simp [good] at hg
    have h1 : 2 + c < 20 := by omega
    have h2 : ¬ (2 + c < 2) := by omega
    simp [code, stepS, h1, h2, leaf, outs, eval]
  | .one o a, hg, stk => by
    simp [good] at hg
    have h1 : ¬ (20 + o < 20) := by omega
    have h2 : 20 + o < 24 := by omega
    simp only [code, List.foldr_cons]
    rw [stack_code w rows a hg.2]
    simp [stepS, h1, h2, ar, opRow, outs, eval, List.map_map]
  | .two o a b, hg, stk => by
    simp [good] at hg
    have h1 : ¬ (20 + o < 20) := by omega
    have h2 : ¬ (20 + o < 24) := by omega
    have h3 : 20 + o < 31 := by omega
    simp only [code, List.foldr_cons, List.foldr_append]
    rw [stack_code w rows b hg.2.2.2, stack_code w rows a hg.2.2.1]
    simp [stepS, h1, h2, h3, ar, opRow, outs, eval, zip_outs, List.map_map]
  | .pick a b c, hg, stk => by
    simp [good] at hg
    simp only [code, List.foldr_cons, List.foldr_append]
    rw [stack_code w rows c hg.2.2, stack_code w rows b hg.2.1, stack_code w rows a hg.1]
    simp [stepS, ar, opRow, outs, eval, zip_outs, List.map_map]

/-! ### the order of codes -/
theorem before_irrefl : ∀ l, before l l = false
  | [] => rfl
  | a :: l => by simp [before, before_irrefl l]
theorem before_asymm : ∀ l r, before l r = true → before r l = false
  | [], [], h => by simp [before] at h
  | [], _ :: _, _ => rfl
  | _ :: _, [], h => by simp [before] at h
  | a :: l, b :: r, h => by
    simp [before] at h
    rcases h with h | ⟨rfl, h⟩
    · simp [before]
      exact ⟨by omega, fun e => by omega⟩
    · simp [before, before_asymm l r h]
theorem before_total : ∀ l r, before l r = false → before r l = false → l = r
  | [], [], _, _ => rfl
  | [], _ :: _, h, _ => by simp [before] at h
  | _ :: _, [], _, h => by simp [before] at h
  | a :: l, b :: r, h, h' => by
    simp [before] at h h'
    obtain ⟨h1, h2⟩ := h
    obtain ⟨h3, h4⟩ := h'
    have e : a = b := by omega
    subst e
    rw [before_total l r (h2 rfl) (h4 rfl)]
theorem before_trans : ∀ l m r, before l m = true → before m r = true → before l r = true
  | [], [], _, h, _ => by simp [before] at h
  | [], _ :: _, [], _, h => by simp [before] at h
  | [], _ :: _, _ :: _, _, _ => rfl
  | _ :: _, [], _, h, _ => by simp [before] at h
  | _ :: _, _ :: _, [], _, h => by simp [before] at h
  | a :: l, b :: m, c :: r, h, h' => by
    simp [before] at h h' ⊢
    rcases h with h | ⟨rfl, h⟩ <;> rcases h' with h' | ⟨rfl, h'⟩
    · left; omega
    · left; omega
    · left; omega
    · right; exact ⟨rfl, before_trans l m r h h'⟩
/-- not before is transitive, too -/
theorem nbefore_trans {l m r : List Nat} (h : before m l = false) (h' : before r m = false) : before r l = false := by
  cases e : before r l with
  | false => rfl
  | true =>
    cases e2 : before l m with
    | true =>
      have := before_trans r l m e e2
      rw [this] at h'; cases h'
    | false =>
      have e3 := before_total l m e2 h
      subst e3
      rw [e] at h'; cases h'

/-! ### a level: one of the first terms for each thing. An entry: the thing, the term's signs -/
abbrev Ent := List Nat × List Nat
def lookE (d : List Ent) (v : List Nat) : Option (List Nat) := (d.find? fun e => decide (e.1 = v)).map (·.2)
/-- d[v] = c -/
def putE : List Ent → List Nat → List Nat → List Ent
  | [], v, c => [(v, c)]
  | e :: d, v, c => if e.1 = v then (v, c) :: d else e :: putE d v c
/-- Search.offer -/
def offer (known : List Nat → Bool) (d : List Ent) (x : Ent) : List Ent :=
  if known x.1 = true then d else match lookE d x.1 with
    | none => putE d x.1 x.2
    | some c => if before x.2 c = true then putE d x.1 x.2 else d
/-- what a level is of some candidates -/
structure IsLv (known : List Nat → Bool) (cands d : List Ent) : Prop where
  nd : (d.map (·.1)).Nodup
  mem : ∀ v c, (v, c) ∈ d → (v, c) ∈ cands ∧ known v = false ∧ ∀ c', (v, c') ∈ cands → before c' c = false
  all : ∀ v c, (v, c) ∈ cands → known v = false → ∃ c', (v, c') ∈ d
theorem lookE_none {d : List Ent} {v : List Nat} (h : lookE d v = none) : ∀ c, (v, c) ∉ d := by
  intro c hm
  simp [lookE] at h
  exact h v c hm rfl
theorem lookE_some {d : List Ent} {v c : List Nat} (h : lookE d v = some c) : (v, c) ∈ d := by
  simp [lookE] at h
  obtain ⟨a, h⟩ := h
  have h2 := List.find?_some h
  simp at h2
  subst h2
  exact List.mem_of_find?_eq_some h
theorem nodup_unique {d : List Ent} (h : (d.map (·.1)).Nodup) {v c c' : List Nat} (h1 : (v, c) ∈ d) (h2 : (v, c') ∈ d) : c = c' := by
  induction d with
  | nil => cases h1
  | cons e d ih =>
    simp only [List.map_cons, List.nodup_cons] at h
    rcases List.mem_cons.mp h1 with g1 | g1 <;> rcases List.mem_cons.mp h2 with g2 | g2
    · rw [← g1] at g2
      exact (Prod.mk.inj g2).2.symm
    · rw [← g1] at h
      exact absurd (List.mem_map_of_mem (f := (·.1)) g2) h.1
    · rw [← g2] at h
      exact absurd (List.mem_map_of_mem (f := (·.1)) g1) h.1
    · exact ih h.2 g1 g2
theorem lookE_mem {d : List Ent} (h : (d.map (·.1)).Nodup) {v c : List Nat} (hm : (v, c) ∈ d) : lookE d v = some c := by
  cases e : lookE d v with
  | none => exact absurd hm (lookE_none e c)
  | some c' => rw [nodup_unique h hm (lookE_some e)]
theorem putE_keys : ∀ (d : List Ent) (v c : List Nat), (putE d v c).map (·.1) = if v ∈ d.map (·.1) then d.map (·.1) else d.map (·.1) ++ [v]
  | [], v, c => by simp [putE]
  | e :: d, v, c => by
    simp only [putE]
    by_cases h : e.1 = v
    · simp [h]
    · rw [if_neg h]
      simp only [List.map_cons, putE_keys d v c, List.mem_cons]
      have h' : ¬ v = e.1 := fun x => h x.symm
      by_cases h2 : v ∈ d.map (·.1)
      · simp [h2]
      · rw [if_neg h2, if_neg (by simp [h', h2])]
        simp
theorem putE_nd {d : List Ent} (h : (d.map (·.1)).Nodup) (v c : List Nat) : ((putE d v c).map (·.1)).Nodup := by
  rw [putE_keys]
  split
  · exact h
  · rename_i hn
    exact List.nodup_append.mpr ⟨h, by simp, fun a ha b hb => by
      simp at hb; subst hb; exact fun e => hn (e ▸ ha)⟩
theorem putE_mem : ∀ {d : List Ent} (h : (d.map (·.1)).Nodup) {v c : List Nat} {a b : List Nat}, (a, b) ∈ putE d v c ↔ (a = v ∧ b = c) ∨ (a ≠ v ∧ (a, b) ∈ d)
  | [], _, v, c, a, b => by simp [putE]
  | e :: d, h, v, c, a, b => by
    simp only [List.map_cons, List.nodup_cons] at h
    simp only [putE]
    by_cases hv : e.1 = v
    · rw [if_pos hv]
      constructor
      · intro hm
        rcases List.mem_cons.mp hm with hm | hm
        · left; exact Prod.mk.inj hm
        · right
          refine ⟨fun hx => h.1 ?_, List.mem_cons_of_mem _ hm⟩
          rw [hv, ← hx]
          exact List.mem_map_of_mem (f := (·.1)) hm
      · rintro (⟨rfl, rfl⟩ | ⟨hx, hm⟩)
        · exact List.mem_cons_self ..
        · rcases List.mem_cons.mp hm with hm | hm
          · rw [← hm] at hv; exact absurd hv hx
          · exact List.mem_cons_of_mem _ hm
    · rw [if_neg hv, List.mem_cons, putE_mem h.2, List.mem_cons]
      constructor
      · rintro (rfl | hm | hm)
        · right; exact ⟨hv, Or.inl rfl⟩
        · left; exact hm
        · right; exact ⟨hm.1, Or.inr hm.2⟩
      · rintro (hm | ⟨hx, rfl | hm⟩)
        · right; left; exact hm
        · left; rfl
        · right; right; exact ⟨hx, hm⟩
theorem offer_isLv {known : List Nat → Bool} {cands d : List Ent} (h : IsLv known cands d) (x : Ent) : IsLv known (cands ++ [x]) (offer known d x) := by
  obtain ⟨v, c⟩ := x
  unfold offer
  by_cases hk : known v = true
  · rw [if_pos hk]
    refine ⟨h.nd, fun a b hm => ?_, fun a b hm hn => ?_⟩
    · obtain ⟨h1, h2, h3⟩ := h.mem a b hm
      refine ⟨List.mem_append_left _ h1, h2, fun c' hc => ?_⟩
      rcases List.mem_append.mp hc with hc | hc
      · exact h3 c' hc
      · simp at hc
        rw [hc.1, hk] at h2; cases h2
    · rcases List.mem_append.mp hm with hm | hm
      · exact h.all a b hm hn
      · simp at hm
        rw [hm.1, hk] at hn; cases hn
  · rw [if_neg hk]
    have hk' : known v = false := by simpa using hk
    have key : ∀ a b, (a, b) ∈ cands ++ [(v, c)] → known a = false → ∃ c', (a, c') ∈ putE d v c := by
      intro a b hm hn
      by_cases e : a = v
      · exact ⟨c, (putE_mem h.nd).mpr (Or.inl ⟨e, rfl⟩)⟩
      · rcases List.mem_append.mp hm with hm | hm
        · obtain ⟨c', hc⟩ := h.all a b hm hn
          exact ⟨c', (putE_mem h.nd).mpr (Or.inr ⟨e, hc⟩)⟩
        · simp at hm
          exact absurd hm.1 e
    have old : ∀ a b, a ≠ v → (a, b) ∈ d → (a, b) ∈ cands ++ [(v, c)] ∧ known a = false ∧ ∀ c', (a, c') ∈ cands ++ [(v, c)] → before c' b = false := by
      intro a b e hm
      obtain ⟨h1, h2, h3⟩ := h.mem a b hm
      refine ⟨List.mem_append_left _ h1, h2, fun c' hc => ?_⟩
      rcases List.mem_append.mp hc with hc | hc
      · exact h3 c' hc
      · simp at hc
        exact absurd hc.1 e
    cases e : lookE d v with
    | none =>
      dsimp only
      refine ⟨putE_nd h.nd _ _, fun a b hm => ?_, key⟩
      rcases (putE_mem h.nd).mp hm with ⟨rfl, rfl⟩ | ⟨hx, hm⟩
      · refine ⟨List.mem_append_right _ (by simp), hk', fun c' hc => ?_⟩
        rcases List.mem_append.mp hc with hc | hc
        · obtain ⟨c'', hd⟩ := h.all _ _ hc hk'
          exact absurd hd (lookE_none e _)
        · simp at hc
          subst hc
          exact before_irrefl _
      · exact old a b hx hm
    | some c0 =>
      dsimp only
      have h0 := lookE_some e
      obtain ⟨g1, g2, g3⟩ := h.mem _ _ h0
      by_cases hb : before c c0 = true
      · rw [if_pos hb]
        refine ⟨putE_nd h.nd _ _, fun a b hm => ?_, key⟩
        rcases (putE_mem h.nd).mp hm with ⟨rfl, rfl⟩ | ⟨hx, hm⟩
        · refine ⟨List.mem_append_right _ (by simp), hk', fun c' hc => ?_⟩
          rcases List.mem_append.mp hc with hc | hc
          · exact nbefore_trans (before_asymm _ _ hb) (g3 c' hc)
          · simp at hc
            subst hc
            exact before_irrefl _
        · exact old a b hx hm
      · rw [if_neg hb]
        refine ⟨h.nd, fun a b hm => ?_, fun a b hm hn => ?_⟩
        · by_cases e1 : a = v
          · subst e1
            have e2 := nodup_unique h.nd hm h0
            subst e2
            refine ⟨List.mem_append_left _ g1, hk', fun c' hc => ?_⟩
            rcases List.mem_append.mp hc with hc | hc
            · exact g3 c' hc
            · simp at hc
              subst hc
              simpa using hb
          · exact old a b e1 hm
        · by_cases e1 : a = v
          · exact ⟨c0, e1 ▸ h0⟩
          · rcases List.mem_append.mp hm with hm | hm
            · exact h.all a b hm hn
            · simp at hm
              exact absurd hm.1 e1
theorem foldl_isLv {known : List Nat → Bool} : ∀ (l : List Ent) {cands d : List Ent}, IsLv known cands d → IsLv known (cands ++ l) (l.foldl (offer known) d)
  | [], cands, d, h => by simpa using h
  | x :: l, cands, d, h => by
    have := foldl_isLv l (offer_isLv h x)
    rw [List.append_assoc] at this
    exact this
theorem nil_isLv (known : List Nat → Bool) : IsLv known [] [] := ⟨by simp, (fun _ _ h => nomatch h), (fun _ _ h => nomatch h)⟩
/-- two levels of the same candidates have the same entries -/
theorem isLv_same {k1 k2 : List Nat → Bool} {c1 c2 d1 d2 : List Ent} (h1 : IsLv k1 c1 d1) (h2 : IsLv k2 c2 d2) (hk : ∀ v, k1 v = k2 v) (hc : ∀ x, x ∈ c1 ↔ x ∈ c2) : ∀ x, x ∈ d1 ↔ x ∈ d2 := by
  have one : ∀ {k1 k2 : List Nat → Bool} {c1 c2 d1 d2 : List Ent}, IsLv k1 c1 d1 → IsLv k2 c2 d2 → (∀ v, k1 v = k2 v) → (∀ x, x ∈ c1 ↔ x ∈ c2) → ∀ x, x ∈ d1 → x ∈ d2 := by
    intro k1 k2 c1 c2 d1 d2 h1 h2 hk hc x hx
    obtain ⟨v, c⟩ := x
    obtain ⟨a1, a2, a3⟩ := h1.mem v c hx
    obtain ⟨c', hc'⟩ := h2.all v c ((hc _).mp a1) (by rw [← hk]; exact a2)
    obtain ⟨b1, b2, b3⟩ := h2.mem v c' hc'
    have e1 := a3 c' ((hc _).mpr b1)
    have e2 := b3 c ((hc _).mp a1)
    rw [before_total c c' e2 e1]
    exact hc'
  exact fun x => ⟨one h1 h2 hk hc x, one h2 h1 (fun v => (hk v).symm) (fun x => (hc x).symm) x⟩
theorem nodup_of_keys : ∀ {d : List Ent}, (d.map (·.1)).Nodup → d.Nodup
  | [], _ => by simp
  | e :: d, h => by
    simp only [List.map_cons, List.nodup_cons] at h ⊢
    exact ⟨fun hm => h.1 (List.mem_map_of_mem (f := (·.1)) hm), nodup_of_keys h.2⟩
theorem same_len {d1 d2 : List Ent} (h1 : (d1.map (·.1)).Nodup) (h2 : (d2.map (·.1)).Nodup) (h : ∀ x, x ∈ d1 ↔ x ∈ d2) : d1.length = d2.length := by
  have n1 : d1.Nodup := nodup_of_keys h1
  have n2 : d2.Nodup := nodup_of_keys h2
  exact ((List.perm_ext_iff_of_nodup n1 n2).mpr h).length_eq
end LT
set_option Elab.async false
set_option maxRecDepth 100000
set_option maxHeartbeats 2000000
set_option linter.unusedSimpArgs false
set_option linter.unusedVariables false
namespace LT
open PySem PySem.Spec PyProof.Rows L2
/-! ### xs[n::2] -/
def other {α : Type} : List α → List α
  | [] => []
  | [a] => [a]
  | a :: _ :: l => a :: other l
theorem pick2 {α : Type} (xs : Array α) : ∀ (k a : Nat), xs.size ≤ a + 2 * k → ((List.range k).map fun j => a + 2 * j).filterMap (xs[·]?) = other (xs.toList.drop a)
  | 0, a, h => by
    rw [List.drop_of_length_le (by simpa using h)]
    rfl
  | k + 1, a, h => by
    rw [List.range_succ_eq_map, List.map_cons, List.map_map, List.filterMap_cons]
    have ih := pick2 xs k (a + 2) (by omega)
    have e : ((List.range k).map ((fun j => a + 2 * j) ∘ Nat.succ)) = (List.range k).map fun j => a + 2 + 2 * j := by
      apply List.map_congr_left
      intro j _
      show a + 2 * (j + 1) = _
      omega
    rw [e, ih]
    simp only [Nat.mul_zero, Nat.add_zero]
    by_cases q : a < xs.size
    · have q1 : xs[a]? = some xs[a] := by simp [q]
      rw [q1]
      dsimp only
      rw [List.drop_eq_getElem_cons (l := xs.toList) (i := a) (by simpa using q)]
      by_cases q2 : a + 1 < xs.size
      · rw [List.drop_eq_getElem_cons (l := xs.toList) (i := a + 1) (by simpa using q2)]
        simp [other]
      · rw [List.drop_of_length_le (l := xs.toList) (i := a + 1) (by simp; omega), List.drop_of_length_le (l := xs.toList) (i := a + 2) (by simp; omega)]
        simp [other]
    · have q1 : xs[a]? = none := by simp; omega
      rw [q1]
      dsimp only
      rw [List.drop_of_length_le (l := xs.toList) (i := a + 2) (by simp; omega), List.drop_of_length_le (l := xs.toList) (i := a) (by simp; omega)]
theorem slicePick_other (items : Array Value) (n : Nat) : slicePick items (some (n : Int)) none (some 2) = (other (items.toList.drop n)).toArray := by
  have e : sliceBounds (some (n : Int)) none (some 2) items.size = (((min n items.size : Nat) : Int), (items.size : Int), 2) := by
    simp only [sliceBounds, Option.getD_some]
    have h1 : ¬ ((n : Int) < 0) := by omega
    simp only [h1, if_false, show (2 : Int) > 0 by decide, if_true]
    congr 1
    omega
  unfold slicePick
  rw [e]
  dsimp only
  have q : sliceRange ((min n items.size : Nat) : Int) (items.size : Int) 2 = (List.range ((items.size - min n items.size + 1) / 2)).map fun j => min n items.size + 2 * j := by
    unfold sliceRange
    simp only [show (2 : Int) > 0 by decide, if_true]
    have c : (if ((min n items.size : Nat) : Int) < (items.size : Int) then ((items.size : Int) - ((min n items.size : Nat) : Int) + 2 - 1) / 2 else 0).toNat = (items.size - min n items.size + 1) / 2 := by
      split <;> omega
    rw [c]
    apply List.map_congr_left
    intro j _
    omega
  rw [q, pick2 items _ _ (by omega)]
  by_cases z : n ≤ items.size
  · rw [Nat.min_eq_left z]
  · rw [Nat.min_eq_right (by omega), List.drop_of_length_le (by simp), List.drop_of_length_le (by simp; omega)]
theorem vals_other : ∀ {xs : List V} {us : List Value}, Vals xs us → Vals (other xs) (other us)
  | _, _, .nil => .nil
  | _, _, .cons r .nil => .cons r .nil
  | _, _, .cons r (.cons _ t) => .cons r (vals_other t)
theorem other_len {α : Type} : ∀ l : List α, (other l).length ≤ l.length
  | [] => Nat.le_refl _
  | [_] => Nat.le_refl _
  | _ :: _ :: l => by
    have := other_len l
    simp only [other, List.length_cons]
    omega
section
variable {X : Cx}
def tOther (K : PySem.W.Frag) (n : Nat) (te : TE) : TE := fun σ H Q => te σ H fun x H1 => ∃ a xs, x = .ref a ∧ SqL K H1 a xs ∧ ∀ p, H1 p = none → Q (.ref p) (upd H1 p (.lst (other (xs.drop n))))
theorem pe_other {e : Expr} {te : TE} {n : Nat} {lo : Int} {k k2 : Nat} {p1 p2 p3 pos : Pos} (hlo : lo = (n : Int)) (he : PE X e te) : PE X (.Subscript e (.Slice (some (.Constant (.int lo) k p1)) none (some (.Constant (.int 2) k2 p2)) p3) pos) (tOther X.K n te) := by
  subst hlo
  refine ⟨fun pins s σ H Q I h => ?_⟩
  refine Subscript_ (thn (he.run pins s σ H _ I h) fun v s1 ⟨x, Ha, Ia, ra, qa⟩ => ?_)
  obtain ⟨a, xs, ex, hx, q⟩ := qa
  subst ex
  cases ra
  have h1st : PO X (some (.Constant (.int (n : Int)) k p1)) (tPart (tC (.int (n : Int)))) := po_some pe_int
  have h3rd : PO X (some (.Constant (.int 2) k2 p2)) (tPart (tC (.int 2))) := po_some pe_int
  refine wpAny_Slice (thn (h1st.run pins s1 σ Ha (fun o Hb => o = some (n : Int) ∧ Hb = Ha) Ia ⟨(n : Int), rfl, rfl, rfl⟩) fun vl s2 ⟨l, Hb, Ib, pl, el, eb⟩ => ?_)
  subst el eb
  refine thn (po_none.run pins s2 σ Hb (fun o Hc => o = none ∧ Hc = Hb) Ib ⟨rfl, rfl⟩) fun vu s3 ⟨u, Hc, Ic, pu, eu, ec⟩ => ?_
  subst eu ec
  refine thn (h3rd.run pins s3 σ Hc (fun o Hd => o = some 2 ∧ Hd = Hc) Ic ⟨2, rfl, rfl, rfl⟩) fun vs s4 ⟨o, Hd, Id, ps, eo, ed⟩ => ?_
  subst eo ed
  have Ie : Inv X pins σ Hd { s4 with heap := s4.heap.push { cls := .type "slice", data := .fields #[vl, vu, vs] } } := Id.kept (t' := s4.toks) fun _ _ z => Heap.get?_push_of_some _ z
  obtain ⟨its, rv, ht, hz⟩ := Ie.list hx
  have hln := rv.length
  show wpAny (model X.prog X.w) X.A (subscriptTail e (.Slice (some (.Constant (.int (n : Int)) k p1)) none (some (.Constant (.int 2) k2 p2)) p3) (.ref a) (.ref s4.heap.objs.size)) (EP X pins σ Q) X.xe { s4 with heap := s4.heap.push { cls := .type "slice", data := .fields #[vl, vu, vs] } }
  refine tail_any (ops := [.ref a, .ref s4.heap.objs.size]) ht.isList.typeIs (PySem.slot_list_getitem.lookup) ?_ (by with_unfolding_all rfl)
  refine wpAny_getItem_list_slice ht.isList (Heap.IsSliceOf.new _ vl vu vs) pl pu ps (by decide) ?_ (by rw [List.size_toArray]; omega)
  rw [slicePick_other]
  refine ⟨.ref _, _, Ie.laid (t' := s4.toks) (o := .lst (other (xs.drop n))) (fun _ _ z => Heap.get?_push_of_some _ z) (Nat.le_refl _) ?_, rfl, q _ (Ie.hok.fresh (Nat.le_refl _))⟩
  exact ⟨Nat.le_trans (other_len _) (by rw [List.length_drop]; omega), _, 0, vals_other (rv.drop n), Heap.get?_push_size _ rfl⟩
/-! ### list < list, of whole numbers not below 0 -/
def iv (l : List Nat) : List V := l.map fun (n : Nat) => V.int (n : Int)
theorem first_before : ∀ (ns ms : List Nat) (o : Nat), SeqAt.firstLt (fun j => decide (ns.getD (j - o) 0 = ms.getD (j - o) 0)) (fun j => decide (ns.getD (j - o) 0 < ms.getD (j - o) 0)) (decide (ns.length < ms.length)) ((List.range (min ns.length ms.length)).map (· + o)) = Sm08.before ns ms
  | [], [], o => rfl
  | [], _ :: _, o => by simp [SeqAt.firstLt, Sm08.before]
  | _ :: _, [], o => by simp [SeqAt.firstLt, Sm08.before]
  | a :: ns, b :: ms, o => by
    have e : (List.range (min (a :: ns).length (b :: ms).length)).map (· + o) = o :: (List.range (min ns.length ms.length)).map (· + (o + 1)) := by
      have : min (a :: ns).length (b :: ms).length = min ns.length ms.length + 1 := by simp only [List.length_cons]; omega
      rw [this, List.range_succ_eq_map, List.map_cons, List.map_map]
      congr 1
      · omega
      · apply List.map_congr_left
        intro j _
        simp
        omega
    rw [e]
    have ih := first_before ns ms (o + 1)
    simp only [SeqAt.firstLt, Nat.sub_self, List.getD_cons_zero, decide_eq_true_eq]
    have c : SeqAt.firstLt (fun j => decide ((a :: ns).getD (j - o) 0 = (b :: ms).getD (j - o) 0)) (fun j => decide ((a :: ns).getD (j - o) 0 < (b :: ms).getD (j - o) 0)) (decide ((a :: ns).length < (b :: ms).length)) ((List.range (min ns.length ms.length)).map (· + (o + 1)))
        = SeqAt.firstLt (fun j => decide (ns.getD (j - (o + 1)) 0 = ms.getD (j - (o + 1)) 0)) (fun j => decide (ns.getD (j - (o + 1)) 0 < ms.getD (j - (o + 1)) 0)) (decide (ns.length < ms.length)) ((List.range (min ns.length ms.length)).map (· + (o + 1))) := by
      have g : ∀ (L : List Nat), (∀ j ∈ L, o + 1 ≤ j) → SeqAt.firstLt (fun j => decide ((a :: ns).getD (j - o) 0 = (b :: ms).getD (j - o) 0)) (fun j => decide ((a :: ns).getD (j - o) 0 < (b :: ms).getD (j - o) 0)) (decide ((a :: ns).length < (b :: ms).length)) L
          = SeqAt.firstLt (fun j => decide (ns.getD (j - (o + 1)) 0 = ms.getD (j - (o + 1)) 0)) (fun j => decide (ns.getD (j - (o + 1)) 0 < ms.getD (j - (o + 1)) 0)) (decide (ns.length < ms.length)) L := by
        intro L
        induction L with
        | nil => intro _; simp [SeqAt.firstLt]
        | cons j t ihL =>
          intro hL
          have hj := hL j (by simp)
          have ej : j - o = (j - (o + 1)) + 1 := by omega
          simp only [SeqAt.firstLt, ej, List.getD_cons_succ]
          rw [ihL fun i hi => hL i (by simp [hi])]
      exact g _ fun j hj => by
        obtain ⟨i, _, rfl⟩ := List.mem_map.mp hj
        omega
    rw [c, ih]
    simp only [Sm08.before]
    by_cases h : a = b
    · subst h; simp
    · have hb : (a == b) = false := by simpa using h
      simp [h, hb]
theorem int_at_iv {ns : List Nat} {its : List Value} (r : Vals (iv ns) its) (j : Nat) (h : j < its.toArray.size) : ∃ t, its.toArray[j] = .int ((ns.getD j 0 : Nat) : Int) t := by
  have hl := r.length
  simp [iv] at hl h
  have h2 : j < ns.length := by omega
  obtain ⟨u, hu, ru⟩ := r.get (i := j) (x := V.int ((ns.getD j 0 : Nat) : Int)) (by simp [iv, h2])
  have : its.toArray[j] = u := by
    rw [List.getElem?_eq_getElem h] at hu
    simpa using Option.some.inj hu
  rw [this]
  obtain ⟨t, rfl⟩ := ru
  exact ⟨t, rfl⟩
def rLtL (K : PySem.W.Frag) : R2 := fun x y H Q => ∃ (a b : Addr) (ns ms : List Nat), x = .ref a ∧ y = .ref b ∧ SqL K H a (iv ns) ∧ SqL K H b (iv ms) ∧ Q (.bl (Sm08.before ns ms)) H
theorem op_ltL (hu : X.A.units < cLine) : OpR X (compareOp .Lt) (rLtL X.K) := by
  intro pins s σ H x y v u Q I rx ry h
  obtain ⟨a, b, ns, ms, rfl, rfl, ha, hb, q⟩ := h
  cases rx
  cases ry
  obtain ⟨ia, r1, p1, _⟩ := I.list ha
  obtain ⟨ib, r2, p2, _⟩ := I.list hb
  have e1 : ia.toArray.size = ns.length := by rw [List.size_toArray, ← r1.length]; simp [iv]
  have e2 : ib.toArray.size = ms.length := by rw [List.size_toArray, ← r2.length]; simp [iv]
  have R := SeqAt.RcLt.lists (A := X.A) (s := s) (e := fun j => decide (ns.getD (j - 0) 0 = ms.getD (j - 0) 0)) (r := fun j => decide (ns.getD (j - 0) 0 < ms.getD (j - 0) 0)) p1.isList p2.isList hu (fun j h1 h2 => by
    obtain ⟨t, et⟩ := int_at_iv r1 j h1
    obtain ⟨t', et'⟩ := int_at_iv r2 j h2
    rw [et, et']
    have z : (((ns.getD j 0 : Nat) : Int) == ((ms.getD j 0 : Nat) : Int)) = decide (ns.getD (j - 0) 0 = ms.getD (j - 0) 0) := by
      rw [Bool.eq_iff_iff, beq_iff_eq, decide_eq_true_eq]
      exact Int.ofNat_inj
    rw [← z]
    exact SeqAt.EqAt.int_int _ _ _ _) (fun j h1 h2 _ => by
    obtain ⟨t, et⟩ := int_at_iv r1 j h1
    obtain ⟨t', et'⟩ := int_at_iv r2 j h2
    rw [et, et']
    have z : decide (((ns.getD j 0 : Nat) : Int) < ((ms.getD j 0 : Nat) : Int)) = decide (ns.getD (j - 0) 0 < ms.getD (j - 0) 0) := by
      rw [Bool.eq_iff_iff, decide_eq_true_eq, decide_eq_true_eq]
      exact Int.ofNat_lt
    rw [← z]
    exact fun _ _ _ _ w => PyProof.Rows.lt_int w)
  rw [e1, e2] at R
  have f := first_before ns ms 0
  have m0 : (List.range (min ns.length ms.length)).map (· + 0) = List.range (min ns.length ms.length) := by simp
  rw [m0] at f
  rw [f] at R
  have z : wpAny (model X.prog X.w) X.A (compareOp .Lt (.ref a) (.ref b)) (EP X pins σ Q) X.xe s := R X.prog X.w X.xe (EP X pins σ Q) ⟨.bl _, H, I, rfl, q⟩
  exact z
end
end LT
set_option Elab.async false
set_option maxRecDepth 100000
set_option maxHeartbeats 2000000
set_option linter.unusedSimpArgs false
set_option linter.unusedVariables false
namespace LT
open PySem PySem.Spec PyProof.Rows L2
section
variable {X : Cx}
/-! ### len(set(xs)), items may come twice -/
def metLen (ns : List Int) : Nat := (PyProof.Rows.firstMet (fun i => ns.getD i 0) ns.length).length
def tLenSetA (K : PySem.W.Frag) (ta : TE) : TE := fun σ H Q => ta σ H fun x Ha => ∃ (l : Addr) (ns : List Int), x = .ref l ∧ SqL K Ha l (ns.map V.int) ∧ ns.length ≤ 4000 ∧ Q (.int (metLen ns : Nat)) Ha
theorem ints_of_vals : ∀ {ns : List Int} {us : List Value}, Vals (ns.map V.int) us → PyProof.Rows.IntsAre us ns
  | [], _, .nil => .nil
  | n :: ns, _, .cons r t => by
    obtain ⟨k, rfl⟩ := r
    exact .cons n k (ints_of_vals t)
theorem pe_lenSetA {a : Expr} {ta : TE} {pa pb pc pd : Pos} (gl : Gl X "len") (ml : X.mg "len" = none) (gs : Gl X "set") (ms : X.mg "set" = none) (ha : PE X a ta) (hc : X.calm = true := by rfl)
    (na : starEach [a] X.env = (false, eval a X.env) :: starEach [] X.env := by rfl) : PE X (.Call (.Name "len" pa) [.Call (.Name "set" pb) [a] [] pc] [] pd) (tLenSetA X.K ta) := by
  refine ⟨fun pins s σ H Q I h => ?_⟩
  refine Call_ (ld_blt I gl ml boot_len (PyProof.Rows.callWith_builtin1 (PyProof.Rows.args_cons ?_ rfl) rfl rfl))
  refine Call_ (ld_blt I gs ms boot_set (PyProof.Rows.callWith_type1 (PyProof.Rows.args_cons (thn (ha.run pins s σ H _ I h) fun v s1 ⟨x, Ha, Ia, ra, qa⟩ => PyProof.Rows.args_nil ?_) na) na rfl))
  obtain ⟨l, ns, rfl, hq, hl, q⟩ := qa
  cases ra
  obtain ⟨its, r, pl, hz⟩ := Ia.list hq
  have hlen : its.toArray.size = ns.length := by rw [List.size_toArray, ← r.length, List.length_map]
  refine call_set_list (Ia.ok.hd hc) pl.isList (by simpa using ints_of_vals r) (by rw [hlen]; unfold scanBound; omega) fun h' tk hS hk => PyProof.Rows.args_nil ?_
  rw [hlen] at hS
  have fl := PyProof.Rows.firstMet_length_le (fun i => ns.getD i 0) ns.length
  obtain ⟨o, es, ep, t, ho, hex, hd, _, _, _, hf, hn⟩ := hS
  have Ib : Inv X pins σ Ha { s1 with heap := h', toks := tk } := Ia.kept fun b o e => hk b o (Heap.lt_size e) e
  exact call_len_set ho hex hd hf (by rw [hn] <;> omega) ⟨.int (metLen ns : Nat), Ha, Ib.tok _, ⟨_, by rw [hn]; rfl⟩, q⟩
theorem met_all (ns : List Int) : ∀ i, i ≤ ns.length → ((PyProof.Rows.firstMet (fun i => ns.getD i 0) i).length = i ↔ (ns.take i).Nodup) ∧ ∀ k, (PyProof.Rows.firstMet (fun i => ns.getD i 0) i).any (· == k) = (ns.take i).any (· == k)
  | 0, _ => by simp [PyProof.Rows.firstMet_zero]
  | i + 1, hi => by
    have hlt : i < ns.length := hi
    obtain ⟨h1, h2⟩ := met_all ns i (by omega)
    have g : ns.getD i 0 = ns[i] := by simp [List.getD_eq_getElem?_getD, hlt]
    have tk : ns.take (i + 1) = ns.take i ++ [ns[i]] := by rw [List.take_add_one, List.getElem?_eq_getElem hlt]; rfl
    have le := PyProof.Rows.firstMet_length_le (fun i => ns.getD i 0) i
    rw [PyProof.Rows.firstMet_succ, g, tk]
    refine ⟨?_, fun k => ?_⟩
    · rw [PyProof.Rows.step_length, h2 ns[i]]
      have mem : ((ns.take i).any (· == ns[i])) = true ↔ ns[i] ∈ ns.take i := by
        simp [List.any_eq_true]
      rw [List.nodup_append]
      by_cases q : ns[i] ∈ ns.take i
      · rw [if_pos (mem.mpr q)]
        constructor
        · intro e; omega
        · rintro ⟨-, -, e⟩
          exact absurd rfl (e _ q _ (by simp))
      · rw [if_neg (fun z => q (mem.mp z))]
        constructor
        · intro e
          refine ⟨h1.mp (by omega), by simp, fun a ha b hb => ?_⟩
          simp at hb
          subst hb
          exact fun z => q (z ▸ ha)
        · rintro ⟨e, -⟩
          have := h1.mpr e
          omega
    · rw [PyProof.Rows.step_any, h2 k, List.any_append]
      congr 1
      simp only [List.any_cons, List.any_nil, Bool.or_false]
      rw [Bool.eq_iff_iff, decide_eq_true_eq, beq_iff_eq]
      exact ⟨fun z => z.symm, fun z => z.symm⟩
theorem metLen_le (ns : List Int) : metLen ns ≤ ns.length := PyProof.Rows.firstMet_length_le _ _
theorem metLen_lt (ns : List Int) : metLen ns < ns.length ↔ ¬ ns.Nodup := by
  have := (met_all ns ns.length (Nat.le_refl _)).1
  rw [List.take_length] at this
  have le := metLen_le ns
  constructor
  · intro h n
    have := this.mpr n
    unfold metLen at h
    omega
  · intro h
    have : metLen ns ≠ ns.length := fun z => h (this.mp z)
    omega
/-! ### dict(zip(ks, vs)): two lists, the first of whole numbers -/
def tDictZip (K : PySem.W.Frag) (ta : TA) : TE := fun σ H Q => ta σ H fun vs Ha => ∃ (a b : Addr) (ks : List Int) (ys : List V), vs = [.ref a, .ref b] ∧ SqL K Ha a (ks.map V.int) ∧ SqL K Ha b ys ∧ ks.length = ys.length ∧
  ∀ p, Ha p = none → Q (.ref p) (upd Ha p (.dK (mergeK [] ((ks.map Sum.inl).zip ys))))
theorem kv_zip : ∀ {ks : List Int} {ys : List V} {us vs : List Value}, Vals (ks.map V.int) us → Vals ys vs → KV ((ks.map (Sum.inl : Int → Key)).zip ys) ((ks.map (Sum.inl : Int → Key)).zip vs)
  | [], _, _, _, _, _ => .nil
  | _ :: _, [], _, _, _, .nil => .nil
  | k :: ks, y :: ys, _, _, .cons _ t, .cons r t' => .cons ⟨rfl, r⟩ (kv_zip t t')
theorem pe_dictZip {e1 e2 : Expr} {ta : TA} {pa pb pc pd : Pos} (gd : Gl X "dict") (md : X.mg "dict" = none) (gz : Gl X "zip") (mz : X.mg "zip" = none) (ha : PA X [e1, e2] ta) (hc : X.calm = true := by rfl)
    (n1 : starEach [e1, e2] X.env = (false, eval e1 X.env) :: starEach [e2] X.env := by rfl) (n2 : (backTo pc (starEach [e2] X.env)).any (·.1) = false := by rfl) : PE X (.Call (.Name "dict" pa) [.Call (.Name "zip" pb) [e1, e2] [] pc] [] pd) (tDictZip X.K ta) := by
  refine ⟨fun pins s σ H Q I h => ?_⟩
  refine Call_ (ld_blt I gd md boot_dict (PyProof.Rows.callWith_type1 (PyProof.Rows.args_cons ?_ rfl) rfl rfl))
  refine Call_ (ld_blt I gz mz PyProof.Rows.boot_zip (PyProof.Rows.callWith_type1 (thn (ha.run pc pins s σ H _ I h) fun us s1 ⟨vs, Ha, Ia, ra, qa⟩ => ?_) n1 n2))
  obtain ⟨a, b, ks, ys, rfl, hx, hy, hl, q⟩ := qa
  cases ra with
  | cons r1 rr =>
    cases rr with
    | cons r2 rr =>
      cases rr
      cases r1
      cases r2
      obtain ⟨ia, va, pa', za⟩ := Ia.list hx
      obtain ⟨ib, vb, pb', zb⟩ := Ia.list hy
      have la := va.length
      have lb := vb.length
      rw [List.length_map] at la za
      refine call_zip_2 pa'.isList pb'.isList fun h' hz hTI hTO h1 h2 hsz hk => PyProof.Rows.args_nil ?_
      have Ib : Inv X pins σ Ha { s1 with heap := h' } := Ia.kept (t' := s1.toks) hk
      have D := PySem.W.ktu_apart s1.heap.objs.size a b pa'.lt pb'.lt
      have P := PySem.PairArg.zip (prog := X.prog) (w := X.w) _ _ _ _ _ _ _ D ia.toArray ib.toArray
      have mn : min ia.toArray.size ib.toArray.size = ks.length := by simp; omega
      have fresh : ∀ c, s1.heap.objs.size ≤ c → FpOk X pins Ha c := fun c hle => Ia.fpOk hle (Ia.hok.fresh hle)
      refine PySem.call_dict_pairs (s := { s1 with heap := h' }) (knd := mixKind X.prog X.w) (kvs := (ks.map (Sum.inl : Int → Key)).zip ib) P (Ib.ok.hd hc)
        ⟨hz, hTI, ⟨_, _, hTO⟩, h1, h2, pa'.isList.at fun o e => hk _ o e, pb'.isList.at fun o e => hk _ o e⟩ ⟨by simp; omega, fun i key v hr => ?_⟩ (by rw [mn]; exact za) fun h'' tk hd' hk' => ?_
      · obtain ⟨e1, e2⟩ := hr
        have hik : i < ks.length := by
          obtain ⟨q1, _⟩ := Array.getElem?_eq_some_iff.mp e1
          simp at q1
          omega
        obtain ⟨u, hu, ru⟩ := va.get (i := i) (x := V.int ks[i]) (by simp [hik])
        have : key = u := by
          simp at e1
          rw [e1] at hu
          exact Option.some.inj hu
        subst this
        simp at e2
        refine ⟨Sum.inl ks[i], ?_, kV_is (P := X.prog) (w := X.w) (k := Sum.inl ks[i]) ru⟩
        rw [List.getElem?_zip_eq_some]
        exact ⟨by simp [hik], e2⟩
      · have hm : (({ s1 with heap := h' } : Shared).heap.objs.size == sysModules) = false := beq_eq_false_iff_ne.mpr (Nat.ne_of_gt Ib.big)
        have keep : ∀ c o, c ∉ [s1.heap.objs.size + 4, s1.heap.objs.size + 3, s1.heap.objs.size, s1.heap.objs.size + 1] → ({ s1 with heap := h' } : Shared).heap.get? c = some o → h''.get? c = some o := fun c o hb e => hk' c o hb e
        have fp : ∀ c ∈ [s1.heap.objs.size + 4, s1.heap.objs.size + 3, s1.heap.objs.size, s1.heap.objs.size + 1], FpOk X pins Ha c := fun c hcm => fresh c (by
          simp only [List.mem_cons, List.not_mem_nil, or_false] at hcm
          omega)
        have hlen : (mergeK [] ((ks.map (Sum.inl : Int → Key)).zip ys)).length ≤ sizeLine := by
          refine Nat.le_trans (length_mergeK _ []) ?_
          rw [List.length_nil, Nat.zero_add, List.length_zip, List.length_map]
          omega
        have new : ObjOk X.prog X.w (upd Ha h'.objs.size (.dK (mergeK [] ((ks.map (Sum.inl : Int → Key)).zip ys)))) h'' h'.objs.size (.dK (mergeK [] ((ks.map (Sum.inl : Int → Key)).zip ys))) :=
          ⟨hlen, hm, _, KV.merge (kv_zip va vb) .nil, hd'⟩
        have Ic := Ib.turnedNew (t' := tk) (ch := [s1.heap.objs.size + 4, s1.heap.objs.size + 3, s1.heap.objs.size, s1.heap.objs.size + 1]) keep fp (Nat.le_refl _) new
        exact ⟨.ref h'.objs.size, _, Ic, rfl, q _ (Ib.hok.fresh (Nat.le_refl _))⟩
end
end LT
set_option Elab.async false
set_option maxRecDepth 100000
set_option maxHeartbeats 2000000
set_option linter.unusedSimpArgs false
set_option linter.unusedVariables false
namespace LT
open PySem PySem.Spec PyProof.Rows L2
/-! ### zip of three tuples, the target a tuple -/
/-- a new tuple of the i-th of three rows -/
def ItzT3 (K : PySem.W.Frag) (a b c : Addr) : It :=
  ⟨fun i H => ∃ (xs ys zs : List V) (x y z : V), (SqT K H a xs ∧ SqT K H b ys ∧ SqT K H c zs) ∧ xs[i]? = some x ∧ ys[i]? = some y ∧ zs[i]? = some z,
    fun i H v H' => ∃ T x y z, v = .ref T ∧ H T = none ∧ H' = upd H T (.tup [x, y, z]) ∧ (∀ xs, SqT K H a xs → xs[i]? = some x) ∧ (∀ ys, SqT K H b ys → ys[i]? = some y) ∧ ∀ zs, SqT K H c zs → zs[i]? = some z,
    fun i H => ∃ n : Nat, n ≤ i ∧ i ≤ n ∧ ∃ xs ys zs : List V, (SqT K H a xs ∧ SqT K H b ys ∧ SqT K H c zs) ∧ xs.length = n ∧ ys.length = n ∧ zs.length = n⟩
structure Apart3 (N a b c : Nat) : Prop where
  a : a < N
  b : b < N
  c : c < N
theorem in6 {N q : Nat} (h : q ∈ [N + 5, N + 3, N + 4, N, N + 1, N + 2]) : q ≤ N + 5 ∧ N ≤ q := by
  simp only [List.mem_cons, List.not_mem_nil, or_false] at h
  omega
theorem turn_zipT3 {P : Program} {w : World} {K : PySem.W.Frag} {elts : List Expr} {kk : Nat} {tpos : Pos} {N a b c : Nat} (D : Apart3 N a b c) :
    Turn P w K (.Tuple elts kk tpos) (ItzT3 K a b c) [N + 5, N + 3, N + 4, N, N + 1, N + 2] (N + 5)
      (fun i h => IsZip h (N + 5) (N + 3) (N + 4) .none ∧ IsTupOf3 h (N + 3) (.ref N) (.ref (N + 1)) (.ref (N + 2)) ∧ (∃ x y z, IsTupOf3 h (N + 4) x y z) ∧ h.IsTupleIter N a i ∧ h.IsTupleIter (N + 1) b i ∧ h.IsTupleIter (N + 2) c i) where
  mem := by simp
  obj := fun i h st q hq => by
    obtain ⟨hz, hTI, ⟨x, y, z, hTO⟩, ⟨o1, e1, _, d1⟩, ⟨o2, e2, _, d2⟩, ⟨o3, e3, _, d3⟩⟩ := st
    simp only [List.mem_cons, List.not_mem_nil, or_false] at hq
    rcases hq with rfl | rfl | rfl | rfl | rfl | rfl
    · exact ⟨_, hz, fun v q => nomatch q⟩
    · exact ⟨_, hTI, fun v q => nomatch q⟩
    · exact ⟨_, hTO, fun v q => nomatch q⟩
    · exact ⟨o1, e1, fun v q => by rw [d1] at q; cases q⟩
    · exact ⟨o2, e2, fun v q => by rw [d2] at q; cases q⟩
    · exact ⟨o3, e3, fun v q => by rw [d3] at q; cases q⟩
  keep := fun i h h' st k => by
    obtain ⟨hz, hTI, ⟨x, y, z, hTO⟩, h1, h2, h3⟩ := st
    exact ⟨k (N + 5) (by simp) _ hz, k (N + 3) (by simp) _ hTI, ⟨x, y, z, k (N + 4) (by simp) _ hTO⟩, h1.at fun o q => k N (by simp) o q, h2.at fun o q => k (N + 1) (by simp) o q, h3.at fun o q => k (N + 2) (by simp) o q⟩
  item := by
    intro X hP hw hK hc i pins s σ H E I hf st hg
    subst hP hw hK
    obtain ⟨hz, hTI, ⟨x0, y0, z0, hTO⟩, h1, h2, h3⟩ := st
    obtain ⟨xs, ys, zs, x, y, z, ⟨qa, qb, qc⟩, hx, hy, hzz⟩ := hg
    obtain ⟨ia, va, pa, _⟩ := I.tuple qa
    obtain ⟨ib, vb, pb, _⟩ := I.tuple qb
    obtain ⟨ic, vc, pc, _⟩ := I.tuple qc
    obtain ⟨u1, hu1, r1⟩ := va.get hx
    obtain ⟨u2, hu2, r2⟩ := vb.get hy
    obtain ⟨u3, hu3, r3⟩ := vc.get hzz
    have hh : X.A.in1.handled = none := I.ok.hd hc
    have D1 := Draws.tuple (prog := X.prog) (w := X.w) (A := X.A.in1) hh N a (show (a : Nat) ≠ N from Nat.ne_of_lt D.a) ia.toArray
    have D2 := Draws.tuple (prog := X.prog) (w := X.w) (A := X.A.in1) hh (N + 1) b (show (b : Nat) ≠ N + 1 from Nat.ne_of_lt (Nat.lt_succ_of_lt D.b)) ib.toArray
    have D3 := Draws.tuple (prog := X.prog) (w := X.w) (A := X.A.in1) hh (N + 2) c (show (c : Nat) ≠ N + 2 from Nat.ne_of_lt (Nat.lt_succ_of_lt (Nat.lt_succ_of_lt D.c))) ic.toArray
    have S := zip_sep3 (N := N) (fp1 := [a]) (fp2 := [b]) (fp3 := [c]) (by simpa using D.a) (by simpa using D.b) (by simpa using D.c)
    have lt1 : i < ia.toArray.size := by simpa using (List.getElem?_eq_some_iff.mp hu1).1
    have lt2 : i < ib.toArray.size := by simpa using (List.getElem?_eq_some_iff.mp hu2).1
    have lt3 : i < ic.toArray.size := by simpa using (List.getElem?_eq_some_iff.mp hu3).1
    have hzl : N + 5 < s.heap.objs.size := Heap.lt_size hz
    refine wpAny_pyNext_zipD3_item S D1 D2 D3 hz hTI hTO ⟨h1, pa⟩ ⟨h2, pb⟩ ⟨h3, pc⟩ lt1 lt2 lt3 fun x1 x2 x3 h' tk y1 y2 y3 b1 b2 d1 d2 d3 b5 b6 hk => ?_
    have e1 : x1 = u1 := by simp at y1; rw [y1] at hu1; exact Option.some.inj hu1
    have e2 : x2 = u2 := by simp at y2; rw [y2] at hu2; exact Option.some.inj hu2
    have e3 : x3 = u3 := by simp at y3; rw [y3] at hu3; exact Option.some.inj hu3
    subst e1 e2 e3
    refine ⟨_, rfl, wpAny_letOwnedTupleGo_zip (s := { s with heap := h', toks := tk }) b1 fun h'' z'' sb => ?_⟩
    have ne : ∀ {q : Nat}, q ≠ N + 5 → h''.get? q = h'.get? q := fun hq => sb.2 _ hq
    have hT2 : h''.get? s.heap.objs.size = some { cls := .type "tuple", data := .seq #[x1, x2, x3] } := (ne (Nat.ne_of_gt hzl)).trans b5
    have new : ObjOk X.prog X.w (upd H s.heap.objs.size (.tup [x, y, z])) h'' s.heap.objs.size (.tup [x, y, z]) :=
      ⟨by show 3 ≤ sizeLine; decide, [x1, x2, x3], .cons r1 (.cons r2 (.cons r3 .nil)), ⟨_, hT2, rfl, _, rfl⟩⟩
    have keep : ∀ q o, q ∉ [N + 5, N + 3, N + 4, N, N + 1, N + 2] → s.heap.get? q = some o → h''.get? q = some o := fun q o hb e => by
      simp only [List.mem_cons, List.not_mem_nil, or_false, not_or] at hb
      obtain ⟨c5, c3, c4, c0, c1, c2⟩ := hb
      exact (ne c5).trans (hk q o c5 c4 c0 c1 c2 e)
    have I1 : Inv X pins σ (upd H s.heap.objs.size (.tup [x, y, z])) { s with heap := h'', toks := tk } := I.turnedNew keep hf (Nat.le_refl _) new
    refine ⟨.ref s.heap.objs.size, _, I1, rfl, ⟨_, x, y, z, rfl, I.hok.fresh (Nat.le_refl _), rfl, fun l hl => by rw [I.tuple_inj hl qa]; exact hx, fun l hl => by rw [I.tuple_inj hl qb]; exact hy, fun l hl => by rw [I.tuple_inj hl qc]; exact hzz⟩, ⟨z'', ?_, ⟨x1, x2, x3, ?_⟩, ?_, ?_, ?_⟩, fun q hq => ?_⟩
    · exact (ne (by omega)).trans (hk _ _ S.TIz S.TITO S.TIi1 S.TIi2 S.TIi3 hTI)
    · exact (ne (by omega)).trans b2
    · exact d1.1.at fun o q => (ne (by omega)).trans q
    · exact d2.1.at fun o q => (ne (by omega)).trans q
    · exact d3.1.at fun o q => (ne (by omega)).trans q
    · have hlt : q < s.heap.objs.size := by
        exact Nat.lt_of_le_of_lt (in6 hq).1 hzl
      rw [upd_ne (Nat.ne_of_lt hlt)]
      exact (hf q hq).1
  done := by
    intro X hP hw hK hc i pins s σ H E I hf st hg
    subst hP hw hK
    obtain ⟨hz, hTI, ⟨x0, y0, z0, hTO⟩, h1, h2, h3⟩ := st
    obtain ⟨n, hn1, hn2, xs, ys, zs, ⟨qa, qb, qc⟩, lx, ly, lz⟩ := hg
    obtain ⟨ia, va, pa, _⟩ := I.tuple qa
    obtain ⟨ib, vb, pb, _⟩ := I.tuple qb
    obtain ⟨ic, vc, pc, _⟩ := I.tuple qc
    have l1 := va.length
    have l2 := vb.length
    have l3 := vc.length
    have hh : X.A.in1.handled = none := I.ok.hd hc
    have D1 := Draws.tuple (prog := X.prog) (w := X.w) (A := X.A.in1) hh N a (show (a : Nat) ≠ N from Nat.ne_of_lt D.a) ia.toArray
    have D2 := Draws.tuple (prog := X.prog) (w := X.w) (A := X.A.in1) hh (N + 1) b (show (b : Nat) ≠ N + 1 from Nat.ne_of_lt (Nat.lt_succ_of_lt D.b)) ib.toArray
    have D3 := Draws.tuple (prog := X.prog) (w := X.w) (A := X.A.in1) hh (N + 2) c (show (c : Nat) ≠ N + 2 from Nat.ne_of_lt (Nat.lt_succ_of_lt (Nat.lt_succ_of_lt D.c))) ic.toArray
    have S := zip_sep3 (N := N) (fp1 := [a]) (fp2 := [b]) (fp3 := [c]) (by simpa using D.a) (by simpa using D.b) (by simpa using D.c)
    have s1 : i = ia.toArray.size := by simp; omega
    have s2 : i = ib.toArray.size := by simp; omega
    have s3 : i = ic.toArray.size := by simp; omega
    exact wpAny_pyNext_zipD3_end S D1 D2 D3 hz hTI hTO ⟨h1, pa⟩ ⟨h2, pb⟩ ⟨h3, pc⟩ (Nat.le_of_eq s1) (Nat.le_of_eq s2) (Nat.le_of_eq s3) (Or.inl s1) fun h' tk hk => ⟨rfl, I.turnedL (t' := tk) (ch := [N + 5, N + 3, N + 4, N, N + 1, N + 2]) (fun q o hb e => by
      simp only [List.mem_cons, List.not_mem_nil, or_false, not_or] at hb
      obtain ⟨c5, c3, c4, c0, c1, c2⟩ := hb
      exact hk q o c5 c4 c0 c1 c2 e) hf⟩
  self := fun A i s Q E st h => wpAny_pyIter_zip st.1 h
section
variable {X : Cx}
def iZipT3 (K : PySem.W.Frag) (ta : TA) : TI := fun σ H R => ta σ H fun vs Ha => ∃ a b c xs ys zs, vs = [.ref a, .ref b, .ref c] ∧ SqT K Ha a xs ∧ SqT K Ha b ys ∧ SqT K Ha c zs ∧ R (ItzT3 K a b c) Ha
theorem pi_zipT3 {e e2 e3 : Expr} {ta : TA} {p pos tpos : Pos} {elts : List Expr} {kk : Nat} (gz : Gl X "zip") (mz : X.mg "zip" = none) (ha : PA X [e, e2, e3] ta)
    (n1 : starEach [e, e2, e3] X.env = (false, eval e X.env) :: starEach [e2, e3] X.env := by rfl) (n2 : (backTo pos (starEach [e2, e3] X.env)).any (·.1) = false := by rfl) :
    PI X (.Tuple elts kk tpos) (.Call (.Name "zip" p) [e, e2, e3] [] pos) (iZipT3 X.K ta) := by
  refine ⟨fun pins s σ H R I h => ?_⟩
  refine Call_ (ld_blt I gz mz PyProof.Rows.boot_zip (PyProof.Rows.callWith_type1 (thn (ha.run pos pins s σ H _ I h) fun us s1 ⟨vs, Ha, Ia, ra, qa⟩ => ?_) n1 n2))
  obtain ⟨a, b, c, xs, ys, zs, rfl, ta, tb, tc, q⟩ := qa
  cases ra with
  | cons r1 rr =>
    cases rr with
    | cons r2 rr =>
      cases rr with
      | cons r3 rr =>
        cases rr
        cases r1
        cases r2
        cases r3
        obtain ⟨ia, va, pa, _⟩ := Ia.tuple ta
        obtain ⟨ib, vb, pb, _⟩ := Ia.tuple tb
        obtain ⟨ic, vc, pc, _⟩ := Ia.tuple tc
        obtain ⟨oa, ea, _⟩ := id pa
        obtain ⟨ob, eb, _⟩ := id pb
        obtain ⟨oc, ec, _⟩ := id pc
        refine zip_begins3 (begins_tuple a ia.toArray) (begins_tuple b ib.toArray) (begins_tuple c ic.toArray) pa pb pc fun h' hz hTI hTO g1 g2 g3 hsz hk => wpAny_pyIter_zip hz ?_
        have Ib : Inv X pins σ Ha { s1 with heap := h' } := Ia.kept (t' := s1.toks) hk
        refine ⟨s1.heap.objs.size + 5, _, _, _, Ha, rfl, Ib, turn_zipT3 ⟨Heap.lt_size ea, Heap.lt_size eb, Heap.lt_size ec⟩, ⟨hz, hTI, ⟨_, _, _, hTO⟩, ⟨_, g1, rfl, rfl⟩, ⟨_, g2, rfl, rfl⟩, ⟨_, g3, rfl, rfl⟩⟩, fun q hq => ?_, q⟩
        have hle : s1.heap.objs.size ≤ q := by
          exact (in6 hq).2
        exact Ia.fpOk hle (Ia.hok.fresh hle)
/-- a new tuple of the i-th of three -/
def YTrip (xs ys zs : Nat → Option V) : Nat → Hp → V → Hp → Prop := fun i H v H' => ∃ T x y z, v = .ref T ∧ H T = none ∧ H' = upd H T (.tup [x, y, z]) ∧ xs i = some x ∧ ys i = some y ∧ zs i = some z
theorem walk_zipT3 {K : PySem.W.Frag} {a b c : Addr} {xs ys zs : List V} (h1 : ys.length = xs.length) (h2 : zs.length = xs.length) : Walk (ItzT3 K a b c) xs.length (fun H => SqT K H a xs ∧ SqT K H b ys ∧ SqT K H c zs) (YTrip (fun i => xs[i]?) (fun i => ys[i]?) (fun i => zs[i]?)) := by
  refine ⟨fun i H hi q => ?_, fun H q => ⟨xs.length, Nat.le_refl _, Nat.le_refl _, xs, ys, zs, q, rfl, h1, h2⟩, fun i H v H' hi q y => ?_⟩
  · have i2 : i < ys.length := by omega
    have i3 : i < zs.length := by omega
    exact ⟨xs, ys, zs, xs[i], ys[i], zs[i], q, by simp [hi], by simp [i2], by simp [i3]⟩
  · obtain ⟨T, x, y', z, e1, e2, e3, f1, f2, f3⟩ := y
    exact ⟨T, x, y', z, e1, e2, e3, f1 xs q.1, f2 ys q.2.1, f3 zs q.2.2⟩
/-- zip of two tuples, as a walk -/
theorem walk_zipT2 {K : PySem.W.Frag} {a b : Addr} {xs ys : List V} (h1 : ys.length = xs.length) : Walk (RZ.ItzT K a b) xs.length (fun H => SqT K H a xs ∧ SqT K H b ys) (YPair (fun i => xs[i]?) (fun i => ys[i]?)) := by
  refine ⟨fun i H hi q => ?_, fun H q => ⟨xs, ys, q.1, q.2, Or.inl (Nat.le_refl _)⟩, fun i H v H' hi q y => ?_⟩
  · have i2 : i < ys.length := by omega
    exact ⟨xs, ys, xs[i], ys[i], q.1, q.2, by simp [hi], by simp [i2]⟩
  · obtain ⟨T, x, y', e1, e2, e3, f1, f2⟩ := y
    exact ⟨T, x, y', e1, e2, e3, f1 xs q.1, f2 ys q.2⟩
end
end LT
set_option Elab.async false
set_option maxRecDepth 100000
set_option maxHeartbeats 4000000
set_option linter.unusedSimpArgs false
set_option linter.unusedVariables false
namespace LT
open PySem PySem.Spec PyProof.Rows L2
/-! ### enumerate of a tuple, the target a tuple -/
theorem meets_enum1 {v : Value} {o : Obj} {G : Heap → Prop} (B : Begins v o G) :
    Meets (Builtin.«enumerate.__new__» ⟨[.type "enumerate", v], []⟩) (fun _ R s => G s.heap ∧
      R (.ok (.ret (.ref (s.heap.push o).objs.size))) { s with heap := (s.heap.push o).push { cls := .type "enumerate", data := .fields #[.none, .bool false, .ref s.heap.objs.size, rawInt 0, .none, .none] } }) :=
  .of_wp fun prog w A R s hyp => by
    obtain ⟨hp, gs, dr, tks, ost⟩ := s; obtain ⟨g0, fin⟩ := hyp
    have sube := sub_enumerate
    have it0 : ∀ {A' : Around} {E : Value → Shared → Prop} {Q : Value → Shared → Prop}, Q (.ref hp.objs.size) ⟨hp.push o, gs, dr, tks, ost⟩ → wpAny (model prog w) A' (pyIter v) Q E ⟨hp, gs, dr, tks, ost⟩ :=
      fun q => B.iter prog w _ _ ⟨hp, gs, dr, tks, ost⟩ _ g0 q
    wp_walk using it0
    refine wpAny_stack_any fun stk => wpAny_pure ?_
    split
    · rename_i cc _ _ _ _ _
      cases (cc == Value.type "enumerate") <;> (wp_walk using it0; exact ⟨_, rfl, fin⟩)
    · wp_walk using it0
      exact ⟨_, rfl, fin⟩
theorem call_enum1 {prog : Program} {w : World} {A : Around} {E : Value → Shared → Prop} {s : Shared} {v : Value} {o : Obj} {G : Heap → Prop} {Q : Value → Shared → Prop} (B : Begins v o G) (g0 : G s.heap)
    (fin : ∀ h', IsEnum h' (s.heap.objs.size + 1) s.heap.objs.size 0 .none → h'.get? s.heap.objs.size = some o → (∀ b ob, s.heap.get? b = some ob → h'.get? b = some ob) → Q (.ref (s.heap.objs.size + 1)) { s with heap := h' }) :
    wpAny (model prog w) A (call (.type "enumerate") [v]) Q E s := by
  refine callType_new F.called_enumerate (by decide) (F.typeCall_enumerate_1 _) (F.newCall_enumerate_1 _) (fun ob => F.args_object_init_2 ob _) F.entry_enumerate_new (meets_enum1 B) ⟨g0, ?_⟩
  have z1 : (s.heap.push o).objs.size = s.heap.objs.size + 1 := Heap.size_push ..
  have ge := Heap.get?_push_size (s.heap.push o) (o := { cls := .type "enumerate", data := .fields #[.none, .bool false, .ref s.heap.objs.size, rawInt 0, .none, .none] }) rfl
  rw [z1] at ge
  show _ ∧ _
  rw [z1]
  exact ⟨⟨_, ge, rfl⟩, fin _ ge (Heap.get?_push_of_some _ (Heap.get?_push_size _ B.free)) fun b ob x => Heap.get?_push_of_some _ (Heap.get?_push_of_some _ x)⟩
/-- each item of the tuple at a with its place, in a new pair -/
def IteT (K : PySem.W.Frag) (a : Addr) : It :=
  ⟨fun i H => ∃ (xs : List V) (x : V), SqT K H a xs ∧ xs[i]? = some x, fun i H v H' => ∃ T x, v = .ref T ∧ H T = none ∧ H' = upd H T (.tup [.int (i : Nat), x]) ∧ ∀ xs, SqT K H a xs → xs[i]? = some x, fun i H => ∃ xs : List V, SqT K H a xs ∧ xs.length = i⟩
theorem turn_enumT {P : Program} {w : World} {K : PySem.W.Frag} {elts : List Expr} {kk : Nat} {tpos : Pos} {a N : Nat} (ha : a < N) :
    Turn P w K (.Tuple elts kk tpos) (IteT K a) [N + 1, N] (N + 1) (fun i h => (∃ old, IsEnum h (N + 1) N ((i : Nat) : Int) old) ∧ h.IsTupleIter N a i) where
  mem := by simp
  obj := fun i h st q hq => by
    obtain ⟨⟨old, he⟩, ⟨o, ho, hc, hd⟩⟩ := st
    simp only [List.mem_cons, List.not_mem_nil, or_false] at hq
    rcases hq with rfl | rfl
    · exact ⟨_, he, fun v q => nomatch q⟩
    · exact ⟨o, ho, fun v q => by rw [hd] at q; cases q⟩
  keep := fun i h h' st k => let ⟨⟨old, he⟩, hi⟩ := st; ⟨⟨old, k (N + 1) (by simp) _ he⟩, hi.at fun o q => k N (by simp) o q⟩
  item := by
    intro X hP hw hK hc i pins s σ H E I hf st hg
    subst hP hw hK
    obtain ⟨⟨old, he⟩, hit⟩ := st
    obtain ⟨xs, x, hq, hx⟩ := hg
    obtain ⟨its, rv, p, _⟩ := I.tuple hq
    obtain ⟨u, hu, ru⟩ := rv.get hx
    have hel : N + 1 < s.heap.objs.size := Heap.lt_size he
    have D := Draws.tuple (prog := X.prog) (w := X.w) (A := X.A.in1) (I.ok.hd hc) N a (show (a : Nat) ≠ N from Nat.ne_of_lt ha) its.toArray
    have nf : (N + 1 : Nat) ∉ [N, a] := by simp; omega
    have li : i < its.toArray.size := by simpa using (List.getElem?_eq_some_iff.mp hu).1
    refine wpAny_pyNext_enum_itemD D he ⟨hit, p⟩ li (Nat.succ_ne_self N) nf fun y h' tk hy ho st' hT hsz hk => ?_
    have ey : y = u := by simp at hy; rw [hy] at hu; exact Option.some.inj hu
    subst ey
    refine ⟨_, rfl, wpAny_letOwnedTupleGo_enum (s := { s with heap := h', toks := tk + 1 }) ho fun h'' he' sb => ?_⟩
    have hT2 : h''.get? s.heap.objs.size = some { cls := .type "tuple", data := .seq #[.int i tk, y] } := (sb.2 _ (Nat.ne_of_gt hel)).trans hT
    have new : ObjOk X.prog X.w (upd H s.heap.objs.size (.tup [.int (i : Nat), x])) h'' s.heap.objs.size (.tup [.int (i : Nat), x]) :=
      ⟨by show 2 ≤ sizeLine; decide, [.int i tk, y], .cons ⟨_, rfl⟩ (.cons ru .nil), ⟨_, hT2, rfl, _, rfl⟩⟩
    have I1 : Inv X pins σ (upd H s.heap.objs.size (.tup [.int (i : Nat), x])) { s with heap := h'', toks := tk + 1 } :=
      I.turnedNew (ch := [N + 1, N]) (fun b ob hb q => by
        simp only [List.mem_cons, List.not_mem_nil, or_false, not_or] at hb
        exact (sb.2 b hb.1).trans (hk b ob hb.1 hb.2 q)) hf (Nat.le_refl _) new
    refine ⟨.ref s.heap.objs.size, _, I1, rfl, ⟨_, x, rfl, I.hok.fresh (Nat.le_refl _), rfl, fun ys hy => by rw [I.tuple_inj hy hq]; exact hx⟩, ⟨⟨y, ?_⟩, st'.1.at fun o q => (sb.2 N (Nat.ne_of_lt (Nat.lt_succ_self N))).trans q⟩, fun b hb => ?_⟩
    · have e1 : ((i + 1 : Nat) : Int) = (i : Int) + 1 := by omega
      rw [e1]; exact he'
    · have lb : (b : Nat) < s.heap.objs.size := by
        have : ∀ q : Nat, q ∈ [N + 1, N] → q ≤ N + 1 := fun q hq => by simp at hq; omega
        exact Nat.lt_of_le_of_lt (this b hb) hel
      rw [upd_ne (Nat.ne_of_lt lb)]
      exact (hf b hb).1
  done := by
    intro X hP hw hK hc i pins s σ H E I hf st hg
    subst hP hw hK
    obtain ⟨⟨old, he⟩, hit⟩ := st
    obtain ⟨xs, hq, hx⟩ := hg
    obtain ⟨its, rv, p, _⟩ := I.tuple hq
    obtain ⟨f0, f1, f2, f3, f4, f5⟩ := hf N (by simp)
    have D := Draws.tuple (prog := X.prog) (w := X.w) (A := X.A.in1) (I.ok.hd hc) N a (show (a : Nat) ≠ N from Nat.ne_of_lt ha) its.toArray
    have hl := rv.length
    have si : i = its.toArray.size := by simp; omega
    exact wpAny_pyNext_enum_endD D he (by rw [← si]; exact ⟨hit, p⟩) fun h' eb => ⟨rfl, I.turned (t' := s.toks) (fun b o hb q => eb b o hb q) f0 f1 f3 f4 f5⟩
  self := fun A i s Q E st h => let ⟨⟨_, he⟩, _⟩ := st; wpAny_pyIter_enum he h
section
variable {X : Cx}
def iEnumT (K : PySem.W.Frag) (ta : TA) : TI := fun σ H R => ta σ H fun vs Ha => ∃ a xs, vs = [.ref a] ∧ SqT K Ha a xs ∧ R (IteT K a) Ha
theorem pi_enumT {e : Expr} {ta : TA} {p pos tpos : Pos} {elts : List Expr} {kk : Nat} (ge : Gl X "enumerate") (me : X.mg "enumerate" = none) (ha : PA X [e] ta) (hs : starEach [e] X.env = [(false, eval e X.env)] := by rfl) :
    PI X (.Tuple elts kk tpos) (.Call (.Name "enumerate" p) [e] [] pos) (iEnumT X.K ta) := by
  refine ⟨fun pins s σ H R I h => ?_⟩
  refine Call_ (ld_blt I ge me boot_enumerate (PyProof.Rows.callWith_type1 (thn (ha.run pos pins s σ H _ I h) fun us s1 ⟨vs, Ha, Ia, ra, qa⟩ => ?_) hs rfl))
  obtain ⟨a, xs, rfl, hq, q⟩ := qa
  cases ra with
  | cons r rr =>
    cases rr
    cases r
    obtain ⟨its, rv, pt, _⟩ := Ia.tuple hq
    obtain ⟨o, eo, _⟩ := id pt
    refine call_enum1 (begins_tuple a its.toArray) pt fun h' he hit hk => wpAny_pyIter_enum he ?_
    have Ib : Inv X pins σ Ha { s1 with heap := h' } := Ia.kept (t' := s1.toks) hk
    refine ⟨s1.heap.objs.size + 1, _, _, _, Ha, rfl, Ib, turn_enumT (Heap.lt_size eo), ⟨⟨.none, he⟩, ⟨_, hit, rfl, rfl⟩⟩, fun b hb => ?_, q⟩
    have hle : s1.heap.objs.size ≤ b := by
      have : ∀ N q : Nat, q ∈ [N + 1, N] → N ≤ q := fun N q hq => by simp at hq; omega
      exact this _ b hb
    exact Ia.fpOk hle (Ia.hok.fresh hle)
theorem walk_enumT {K : PySem.W.Frag} {a : Addr} {xs : List V} : Walk (IteT K a) xs.length (fun H => SqT K H a xs) (YPair (fun i => some (.int (i : Nat))) (fun i => xs[i]?)) := by
  refine ⟨fun i _ hi q => ⟨xs, xs[i], q, by simp [hi]⟩, fun _ q => ⟨xs, q, rfl⟩, fun i H v H' _ q y => ?_⟩
  obtain ⟨T, x, e1, e2, e3, f⟩ := y
  exact ⟨T, .int (i : Nat), x, e1, e2, e3, rfl, f xs q⟩
end
end LT
set_option Elab.async false
set_option maxRecDepth 100000
set_option maxHeartbeats 4000000
set_option linter.unusedSimpArgs false
set_option linter.unusedVariables false
namespace LT
open PySem PySem.Spec PyProof.Rows L2
open PySem.W (KdxIt)
/-! ### d.items() of a dict whose keys are tuples, the target one name -/
section
variable {prog : Program} {w : World} {A : Around} {E : Value → Shared → Prop} {s : Shared}
theorem alive_as {a : Addr} {Q : Option Obj → Shared → Prop} (h : Q (s.heap.get? a) s) : wpAny (model prog w) A (loadIfAlive a) Q E s := fun _ _ _ => h
theorem items_next_any {it d a : Addr} {f : Bool} {i ep : Nat} {es : Array DictEntry} {ok ov : Value} {Q : Option Value → Shared → Prop} (hit : KdxIt s.heap it d i es.size ep ok ov a f) (hai : a ≠ it)
    (hm : s.heap.DictRaw d es ep) (hlt : i < es.size)
    (fin : ∀ h' ok' ov' a' f', KdxIt h' it d (i + 1) es.size ep ok' ov' a' f' → a' ≠ it → h'.get? s.heap.objs.size = some { cls := .type "tuple", data := .seq #[es[i].key, es[i].val] } →
      (∀ b o, b ≠ it → s.heap.get? b = some o → h'.get? b = some o) → Q (some (.ref s.heap.objs.size)) { s with heap := h' }) :
    wpAny (model prog w) A (pyNext (.ref it)) Q E s := by
  obtain ⟨hp, gs, dr, tks, ost⟩ := s
  obtain ⟨od, hod, hcd, hdd⟩ := id hm
  have ty0 : Shared.TypeIs ⟨hp, gs, dr, tks, ost⟩ (.ref it) "dict_itemiterator" := ⟨_, hit, rfl⟩
  have own : Builtin.Dict_items.ownsTuple "dict_itemiterator" = true := by decide
  unfold pyNext
  refine wpAny_bind (wpAny_attempt (wpAny_callSpecial?_slot (name := Str.ofString "__next__") ty0 PySem.F.slot_dict_itemiterator_next (wpAny_call_entry PySem.F.slot_dict_itemiterator_next ty0 PySem.F.entry_dict_itemiterator_next ?_ (PySem.F.args_dict_itemiterator_next_1 _))))
  refine wpAny_bind (wpAny_pure ?_); refine wpAny_bind ?_; refine wpAny_bind ?_
  first | refine wpAny_bind (wpAny_typeNameOfWhole_itemiter ty0 (wpAny_pure ?_)) | refine wpAny_bind (wpAny_typeNameOf_itemiter ty0 (wpAny_pure ?_))
  refine wpAny_bind (wpAny_fieldsOf hit rfl ?_); simp only [own, if_true]
  show wpAny _ _ (if (Value.ref d == Value.none) = true then _ else _) _ _ ⟨hp, gs, dr, tks, ost⟩
  rw [if_neg (show ¬ ((Value.ref d == Value.none) = true) from Bool.false_ne_true)]; refine wpAny_bind (wpAny_pure ?_); refine wpAny_bind (wpAny_dictEntries hod hdd ?_)
  rw [if_neg (by simp)]; refine wpAny_bind (wpAny_pure ?_); refine wpAny_bind (wpAny_dictEpoch hod hdd ?_)
  rw [if_neg (by simp)]; refine wpAny_pure ?_
  simp only [show ¬ ((i : Int) < 0) from by omega, if_false, Int.toNat_natCast, Array.getElem?_eq_getElem hlt]; refine wpAny_bind ?_
  first | refine wpAny_bind (wpAny_typeNameOfWhole_itemiter ty0 (wpAny_pure ?_)) | refine wpAny_bind (wpAny_typeNameOf_itemiter ty0 (wpAny_pure ?_))
  refine wpAny_bind (wpAny_isOneOf_itemiter ty0 ?_)
  show wpAny _ _ (setField (.ref it) 3 (rawInt ((i : Int) + 1)) >>= _) _ _ ⟨hp, gs, dr, tks, ost⟩
  refine wpAny_bind (wpAny_setField_rec hit (by simp) fun hA eA sA => ?_)
  replace sA : Heap.SameBut it hp hA := sA
  replace eA : KdxIt hA it d (i + 1) es.size ep ok ov a f := by
    have e : ((i + 1 : Nat) : Int) = (i : Int) + 1 := by omega
    unfold KdxIt; rw [e]; simpa [rawInt] using eA
  have tyA : Shared.TypeIs ⟨hA, gs, dr, tks, ost⟩ (.ref it) "dict_itemiterator" := ⟨_, eA, rfl⟩
  refine wpAny_bind (wpAny_holding ?_); refine wpAny_bind (wpAny_isOneOf_itemiter tyA ?_); refine wpAny_bind (wpAny_isOneOf_itemiter tyA ?_)
  show wpAny _ _ (Builtin.Dict_items.pairFromOwner (.ref it) 6 es[i].key es[i].val) _ _ ⟨hA, gs, dr, tks, ost⟩
  unfold Builtin.Dict_items.pairFromOwner; refine wpAny_bind (wpAny_newTuple ?_)
  have eB : KdxIt (hA.push { cls := .type "tuple", data := .seq #[es[i].key, es[i].val] }) it d (i + 1) es.size ep ok ov a f := Heap.get?_push_of_some _ eA
  generalize qB : hA.push { cls := .type "tuple", data := .seq #[es[i].key, es[i].val] } = hB at eB
  have szA : hA.objs.size = hp.objs.size := sA.1
  have lit : it < hp.objs.size := Heap.lt_size hit
  have tB : hB.get? hp.objs.size = some { cls := .type "tuple", data := .seq #[es[i].key, es[i].val] } := by rw [← qB, ← szA]; exact Heap.get?_push_size _ rfl
  have kB : ∀ b o, b ≠ it → hp.get? b = some o → hB.get? b = some o := fun b o hb e => by rw [← qB]; exact Heap.get?_push_of_some _ (sA.extBut b o hb e)
  show wpAny _ _ (Builtin.Dict_items.ownedTupleIsFree (.ref it) >>= _) _ _ ⟨hB, gs, dr, tks, ost⟩
  rw [szA]; clear qB eA sA tyA szA hA
  refine wpAny_bind ?_; unfold Builtin.Dict_items.ownedTupleIsFree
  refine wpAny_bind (wpAny_field eB rfl (x := rawInt a) rfl ?_)
  show wpAny _ _ (loadIfAlive ((a : Int).toNat) >>= _) _ _ _
  rw [Int.toNat_natCast]; refine wpAny_bind (alive_as ?_)
  show wpAny _ _ (if ((hB.get? a).isNone) = true then _ else _) _ _ _
  have done : ∀ hC ok' ov' a' f', KdxIt hC it d (i + 1) es.size ep ok' ov' a' f' → a' ≠ it → Heap.SameBut it hB hC → Q (some (.ref hp.objs.size)) ⟨hC, gs, dr, tks, ost⟩ := fun hC ok' ov' a' f' eC na sC =>
    fin hC ok' ov' a' f' eC na (sC.extBut _ _ (Nat.ne_of_gt lit) tB) fun b o hb e => sC.extBut b o hb (kB b o hb e)
  cases qa : hB.get? a with
  | some oa =>
    rw [if_neg (by simp)]
    refine wpAny_bind (wpAny_field eB rfl (x := .bool f) rfl ?_)
    cases f with
    | true =>
      rw [if_neg (show ¬ ((Value.bool true != Value.bool true) = true) from Bool.false_ne_true)]; refine wpAny_pure ?_
      simp only [Bool.false_eq_true, if_false]
      exact wpAny_pure (wpAny_pure ⟨_, rfl, wpAny_pure (done hB _ _ a true eB hai (Heap.SameBut.refl _ _))⟩)
    | false =>
      rw [if_pos (show (Value.bool false != Value.bool true) = true from rfl)]; refine wpAny_bind (wpAny_setField_rec eB (by simp) fun hC eC sC => ?_)
      refine wpAny_pure ?_
      simp only [Bool.false_eq_true, if_false]
      exact wpAny_pure (wpAny_pure ⟨_, rfl, wpAny_pure (done hC _ _ a true eC hai sC)⟩)
  | none =>
    rw [if_pos (by simp)]
    refine wpAny_pure ?_
    simp only [if_true]
    refine wpAny_bind (wpAny_field eB rfl (x := ok) rfl ?_); refine wpAny_bind (wpAny_field eB rfl (x := ov) rfl ?_)
    refine wpAny_bind (wpAny_setField_rec eB (by simp) fun hC eC sC => ?_)
    replace sC : Heap.SameBut it hB hC := sC
    replace eC : KdxIt hC it d (i + 1) es.size ep es[i].key ov a f := eC
    refine wpAny_bind (wpAny_setField_rec eC (by simp) fun hD eD sD => ?_)
    replace sD : Heap.SameBut it hC hD := sD
    replace eD : KdxIt hD it d (i + 1) es.size ep es[i].key es[i].val a f := eD
    refine wpAny_bind (wpAny_setField_rec eD (by simp) fun hF eF sF => ?_)
    replace sF : Heap.SameBut it hD hF := sF
    replace eF : KdxIt hF it d (i + 1) es.size ep es[i].key es[i].val hp.objs.size f := eF
    refine wpAny_bind (wpAny_setField_rec eF (by simp) fun hG eG sG => ?_)
    replace sG : Heap.SameBut it hF hG := sG
    replace eG : KdxIt hG it d (i + 1) es.size ep es[i].key es[i].val hp.objs.size false := eG
    have sAll : Heap.SameBut it hB hG := ⟨by rw [sG.1, sF.1, sD.1, sC.1], fun b hb => by rw [sG.2 b hb, sF.2 b hb, sD.2 b hb, sC.2 b hb]⟩
    exact wpAny_bind (wpAny_letGo (wpAny_pure (wpAny_pure ⟨_, rfl, wpAny_pure (done hG _ _ _ false eG (Nat.ne_of_gt lit) sAll)⟩)))
end
/-- the locked dict's entries, keys and values -/
theorem frz_entries {X : Cx} {pins : List (Addr × Obj)} {σ : L2.St} {H : Hp} {s : Shared} {d : Addr} {o : Obj} {kvs : List (List Key × V)} (I : Inv X pins σ H s) (h : H d = some (.frz o (.dT kvs))) :
    (d == sysModules) = false ∧ ∃ (es : Array DictEntry) (ep : Nat), s.heap.DictRaw d es ep ∧ o.data = .dict es ep ∧ es.size = kvs.length ∧
      ∀ (i : Nat) (k : List Key) (v : V), kvs[i]? = some (k, v) → ∃ (hi : i < es.size) (q : Addr), es[i].key = .ref q ∧ H q = some (.tup (k.map kV)) ∧ RelV v es[i].val := by
  obtain ⟨hd, z, hs, xs, pr, o', es, ep, ho, hx, hdt, he, _⟩ := I.hok d _ h
  rw [hd] at ho
  cases ho
  have l1 : es.size = xs.length := size_of_entries he
  have l2 : kvs.length = xs.length := Paired.length pr
  refine ⟨hs, es, ep, ⟨o, hd, hx, hdt⟩, hdt, by omega, fun i k v e => ?_⟩
  obtain ⟨b, hb, e1, e2, e3⟩ := paired_get pr e
  have q := entry_at he i
  rw [hb] at q
  have hi : i < es.size := by
    rcases Nat.lt_or_ge i es.size with z | z
    · exact z
    · rw [Array.getElem?_eq_none z] at q; cases q
  rw [Array.getElem?_eq_getElem hi] at q
  have q' := Option.some.inj q
  exact ⟨hi, b.2.1, by rw [q']; rfl, e2, by rw [q']; exact e3⟩
def ItiTN (d : Addr) (o : Obj) (kvs : List (List Key × V)) : It :=
  ⟨fun i H => H d = some (.frz o (.dT kvs)) ∧ i < kvs.length, fun i H x H' => ∃ T q k v, kvs[i]? = some (k, v) ∧ x = .ref T ∧ H T = none ∧ H q = some (.tup (k.map kV)) ∧ H' = upd H T (.tup [.ref q, v]), fun i H => H d = some (.frz o (.dT kvs)) ∧ kvs.length ≤ i⟩
theorem turn_itemsTN {P : Program} {w : World} {K : PySem.W.Frag} {x : Str} {pos : Pos} {d : Addr} {o : Obj} {es : Array DictEntry} {ep : Nat} {kvs : List (List Key × V)} (it : Addr) (hod : o.data = .dict es ep) :
    Turn P w K (.Name x pos) (ItiTN d o kvs) [it] it (fun i h => ∃ ok ov, IsItemIter h it d i kvs.length ep ok ov ∨ ∃ a f, KdxIt h it d i kvs.length ep ok ov a f ∧ a ≠ it) where
  mem := by simp
  obj := fun i h st b hb => by
    have e : b = it := by simpa using hb
    subst e
    obtain ⟨ok, ov, e | ⟨a, f, e, _⟩⟩ := st
    · exact ⟨_, e, fun v z => nomatch z⟩
    · exact ⟨_, e, fun v z => nomatch z⟩
  keep := fun i h h' st k => by
    obtain ⟨ok, ov, e | ⟨a, f, e, n⟩⟩ := st
    · exact ⟨ok, ov, .inl (k it (by simp) _ e)⟩
    · exact ⟨ok, ov, .inr ⟨a, f, k it (by simp) _ e, n⟩⟩
  item := by
    intro X hP hw hK hc i pins s σ H E I hf st hg
    subst hP hw hK
    obtain ⟨hd, hi⟩ := hg
    obtain ⟨hs, es', ep', hr, hdt, hsz, ent⟩ := frz_entries I hd
    obtain ⟨rfl, rfl⟩ := dict_ep hod hdt
    obtain ⟨⟨k, v⟩, hkv⟩ : ∃ p, kvs[i]? = some p := ⟨kvs[i], List.getElem?_eq_getElem hi⟩
    obtain ⟨hie, q, hkey, hq, rv⟩ := ent i k v hkv
    have hlt : it < s.heap.objs.size := by
      obtain ⟨ok, ov, e | ⟨a, f, e, _⟩⟩ := st
      · exact Heap.lt_size e
      · exact Heap.lt_size e
    have fin : ∀ (h' : Heap) (ok' ov' : Value) (a' : Addr) (f' : Bool), KdxIt h' it d (i + 1) es'.size ep' ok' ov' a' f' → a' ≠ it → h'.get? s.heap.objs.size = some { cls := .type "tuple", data := .seq #[es'[i].key, es'[i].val] } →
        (∀ b o, b ≠ it → s.heap.get? b = some o → h'.get? b = some o) → ∃ u, (some (Value.ref s.heap.objs.size) = some u) ∧
        wpAny (model X.prog X.w) X.A (letOwnedTupleGo (.Name x pos) (.ref it) u) (fun _ s2 => ∃ x H', Inv X pins σ H' s2 ∧ RelV x u ∧ (ItiTN d o kvs).yld i H x H' ∧ (∃ ok ov, IsItemIter s2.heap it d (i + 1) kvs.length ep' ok ov ∨ ∃ a f, KdxIt s2.heap it d (i + 1) kvs.length ep' ok ov a f ∧ a ≠ it) ∧ ∀ b ∈ [it], H' b = none) E { s with heap := h' } := by
      intro h' ok' ov' a' f' eK na hT hk
      refine ⟨_, rfl, wpAny_pure ?_⟩
      have new : ObjOk X.prog X.w (upd H s.heap.objs.size (.tup [.ref q, v])) h' s.heap.objs.size (.tup [.ref q, v]) :=
        ⟨by show 2 ≤ sizeLine; decide, [es'[i].key, es'[i].val], .cons hkey (.cons rv .nil), ⟨_, hT, rfl, _, rfl⟩⟩
      have I1 : Inv X pins σ (upd H s.heap.objs.size (.tup [.ref q, v])) { s with heap := h' } :=
        I.turnedNew (t' := s.toks) (ch := [it]) (fun b ob hb e => hk b ob (by simpa using hb) e) hf (Nat.le_refl _) new
      refine ⟨.ref s.heap.objs.size, _, I1, rfl, ⟨_, q, k, v, hkv, rfl, I.hok.fresh (Nat.le_refl _), hq, rfl⟩, ⟨ok', ov', .inr ⟨a', f', ?_, na⟩⟩, fun b hb => ?_⟩
      · rw [← hsz]; exact eK
      · have e : b = it := by simpa using hb
        rw [e, upd_ne (Nat.ne_of_lt hlt)]
        exact (hf it (by simp)).1
    obtain ⟨ok, ov, e | ⟨a, f, e, na⟩⟩ := st
    · rw [← hsz] at e
      exact wpAny_pyNext_items_item_raw e hr hie fun h' hit' ht _ hk => fin h' _ _ _ false hit' (Nat.ne_of_gt hlt) ht hk
    · rw [← hsz] at e
      exact items_next_any e na hr hie fun h' ok' ov' a' f' eK na' hT hk => fin h' ok' ov' a' f' eK na' hT hk
  done := by
    intro X hP hw hK hc i pins s σ H E I hf st hg
    subst hP hw hK
    obtain ⟨hd, hi⟩ := hg
    obtain ⟨f0, f1, f2, f3, f4, f5⟩ := hf it (by simp)
    obtain ⟨hs, es', ep', hr, hdt, hsz, ent⟩ := frz_entries I hd
    obtain ⟨rfl, rfl⟩ := dict_ep hod hdt
    obtain ⟨ok, ov, e | ⟨a, f, e, na⟩⟩ := st
    · rw [← hsz] at e
      exact wpAny_pyNext_items_end_raw (I.ok.hd hc) e hr (by omega) fun h' eb => ⟨rfl, I.turned (t' := s.toks) (fun b ob hb z => eb b ob hb z) f0 f1 f3 f4 f5⟩
    · rw [← hsz] at e
      exact wpAny_pyNext_items_end_out_raw (I.ok.hd hc) e hr (by omega) fun h' eb => ⟨rfl, I.turned (t' := s.toks) (fun b ob hb z => eb b ob hb z) f0 f1 f3 f4 f5⟩
  self := fun A i s Q E st h => by
    have ty : s.TypeIs (.ref it) "dict_itemiterator" := by
      obtain ⟨ok, ov, e | ⟨a, f, e, _⟩⟩ := st
      · exact ⟨_, e, rfl⟩
      · exact ⟨_, e, rfl⟩
    refine wpAny_pyIter_slot ty F.slot_dict_itemiterator_iter (wpAny_call_entry F.slot_dict_itemiterator_iter ty entry_dict_itemiterator_iter ?_ (F.args_dict_itemiterator_iter_1 _))
    exact wpAny_pure ⟨_, rfl, "dict_itemiterator", _, ty, F.slot_dict_itemiterator_next.lookup, h⟩
section
variable {X : Cx}
def iItemsTN (td : TE) : TI := fun σ H R => td σ H fun x Ha => ∃ d o kvs, x = .ref d ∧ Ha d = some (.frz o (.dT kvs)) ∧ R (ItiTN d o kvs) Ha
theorem pi_itemsTN {e : Expr} {td : TE} {x : Str} {pos apos cpos : Pos} (he : PE X e td) (hbase : attributeBase e "items" X.env (eval e X.env) = eval e X.env := by rfl) (hline : (apos.endLine == cpos.line) = true := by rfl) :
    PI X (.Name x pos) (.Call (.Attribute e "items" apos) [] [] cpos) (iItemsTN td) := by
  refine ⟨fun pins s σ H R I h => ?_⟩
  refine wpAny_Call_method (T := "dict") (id := "dict.items") hbase rfl hline F.plainAttrs_dict F.slot_dict_items F.type_dict_items (thn (he.run pins s σ H _ I h) fun u s1 ⟨y, Ha, Ia, rx, d, o, kvs, ex, hd, q⟩ => ?_)
  subst ex
  obtain rfl : u = Value.ref d := rx
  obtain ⟨hs, es, ep, hr, hdt, hsz, ent⟩ := frz_entries Ia hd
  obtain ⟨oo, hoo, hex, _⟩ := id hr
  refine ⟨hr.typeIs, fun b eb => by cases eb; exact ⟨oo, hoo, hex.2.1⟩, ?_⟩
  have Ib : Inv X pins σ Ha { s1 with heap := s1.heap.push { cls := .type "dict_items", data := .fields #[.ref d] } } := Ia.kept (t' := s1.toks) fun b ob q => Heap.get?_push_of_some _ q
  have fin : wpAny (model X.prog X.w) X.A (pyIter (.ref s1.heap.objs.size)) (PIE X pins σ (.Name x pos) R) X.xe { s1 with heap := s1.heap.push { cls := .type "dict_items", data := .fields #[.ref d] } } := by
    refine wpAny_pyIter_items_raw (d := d) (es := es) (ep := ep) ⟨_, Heap.get?_push_size _ rfl, rfl, rfl⟩ (hr.at fun o e => Heap.get?_push_of_some _ e) (pi_one (tk := s1.toks) Ib _ (turn_itemsTN _ hdt) ⟨.none, .none, .inl ?_⟩ q)
    rw [← hsz]
    exact Heap.get?_push_size _ rfl
  show wpAny _ _ (callWith cpos (.builtin "dict.items") [.ref d] [] []) _ X.xe s1
  exact method_meetsIn F.slot_dict_items F.entry_dict_items rfl (PySem.evalArgs_none ⟨rfl, hr.typeIs, F.args_dict_items_1 _, _, meets_dict_items_raw d hs, ⟨es, ep, hr⟩, fin⟩)
theorem walk_itemsTN {d : Addr} {o : Obj} {kvs : List (List Key × V)} : Walk (ItiTN d o kvs) kvs.length (fun H => H d = some (.frz o (.dT kvs)))
    (fun i H x H' => ∃ T q k v, kvs[i]? = some (k, v) ∧ x = .ref T ∧ H T = none ∧ H q = some (.tup (k.map kV)) ∧ H' = upd H T (.tup [.ref q, v])) :=
  ⟨fun _ _ hi q => ⟨q, hi⟩, fun _ q => ⟨q, Nat.le_refl _⟩, fun _ _ _ _ _ _ y => y⟩
end
end LT
set_option Elab.async false
set_option maxRecDepth 100000
set_option maxHeartbeats 4000000
set_option linter.unusedSimpArgs false
set_option linter.unusedVariables false
namespace LT
open PySem PySem.Spec PyProof.Rows L2
/-! ### tuple(d.values()) of a dict whose keys are tuples -/
section
variable {prog : Program} {w : World} {A : Around} {E : Value → Shared → Prop} {s : Shared} {r d : Addr} {n : Nat} {P : Nat → Value → Prop} {OK : Heap → Prop}
theorem tuple_of_src {Q : Value → Shared → Prop} (K : PySem.W.KdlSrc prog w "dict_values" r d n P OK) (hh : A.handled = none) (hok : OK s.heap) (hn : n ≤ sizeLine)
    (hQ : ∀ (h' : Heap) (tk : Nat) (acc : Array Value), (∀ b o, s.heap.get? b = some o → h'.get? b = some o) → ItemsOf P acc n → Q (.ref h'.objs.size) { s with heap := h'.push { cls := .type "tuple", data := .seq acc }, toks := tk }) :
    wpAny (model prog w) A (call (.type "tuple") [.ref r]) Q E s := by
  have code : codeAny (model prog w) A.in1 (.call (.builtin "tuple.__new__") ⟨[.type "tuple", .ref r], []⟩) (wants (fun obj s₁ => s₁.TypeIs obj "tuple" ∧ Q obj s₁) E) s := by
    refine codeAny_of_tree ?_
    show wpAny _ A.in1.in1 (do checkBuiltinCall "tuple.__new__" ⟨[.type "tuple", .ref r], []⟩; again (.builtin "tuple.__new__" ⟨[.type "tuple", .ref r], []⟩)) _ _ s
    refine wpAny_bind (wpAny_of_eq (F.newCall_tuple_1 _) (wpAny_pure ⟨plainId_quiet F.plain_tuple_new _, codeAny_builtin F.entry_tuple_new ?_⟩)); rw [Around.under_plainId F.plain_tuple_new _]
    have sub0 := sub_tuple_self
    have ini0 := init_tuple_lookup
    have mad0 := madeHere_tuple
    have ty := K.type s hok
    have hh2 : A.in1.in1.handled = none := hh
    wp_walk using wpAny_typeOf ty, PySem.W.kdu_collect (A := A.in1.in1) K hh2 hok hn
    intro h' tk acc hk hacc
    show wpAny _ _ (Builtin.Tuple.tupleExact acc.toList.toArray >>= fun v => ret v) _ _ _
    unfold Builtin.Tuple.tupleExact; refine wpAny_bind (wpAny_newObj_type ?_ (by show acc.toList.toArray.size ≤ sizeLine; simp only [Array.toArray_toList]; rw [hacc.1]; exact hn))
    refine wpAny_pure ?_; rw [show acc.toList.toArray = acc by simp]
    exact ⟨⟨_, Heap.get?_push_size _ rfl, rfl⟩, hQ h' tk acc hk hacc⟩
  refine callType_codes (Q₁ := fun obj s₁ => s₁.TypeIs obj "tuple" ∧ Q obj s₁) F.called_tuple (F.typeCall_tuple_1 _) F.entry_object_init code fun obj s₁ q₁ => ?_
  exact ⟨q₁.1, F.args_object_init_2 obj _, object_init_meets F.called_tuple.init.lookup F.called_tuple.made (by decide) prog w A.in1 _ s₁ ⟨q₁.1, rfl, q₁.2⟩⟩
end
section
variable {X : Cx}
def tTupVals (td : TE) : TE := fun σ H Q => td σ H fun x Ha => ∃ d kvs, x = .ref d ∧ Ha d = some (.dT kvs) ∧ ∀ p, Ha p = none → Q (.ref p) (upd Ha p (.tup (kvs.map (·.2))))
theorem pe_tupVals {e : Expr} {td : TE} {pn apos cpos pos : Pos} (gt : Gl X "tuple") (mt : X.mg "tuple" = none) (he : PE X e td) (hc : X.calm = true := by rfl) (hbase : attributeBase e "values" X.env (eval e X.env) = eval e X.env := by rfl) (hline : (apos.endLine == cpos.line) = true := by rfl) :
    PE X (.Call (.Name "tuple" pn) [.Call (.Attribute e "values" apos) [] [] cpos] [] pos) (tTupVals td) := by
  refine ⟨fun pins s σ H Q I h => ?_⟩
  refine Call_ (ld_blt I gt mt boot_tuple (PyProof.Rows.callWith_type1 (PyProof.Rows.args_cons ?_ rfl) rfl rfl))
  refine wpAny_Call_method (T := "dict") (id := "dict.values") hbase rfl hline F.plainAttrs_dict F.slot_dict_values F.type_dict_values (thn (he.run pins s σ H _ I h) fun u s1 ⟨y, Ha, Ia, rx, d, kvs, ex, hd, q⟩ => ?_)
  subst ex
  obtain rfl : u = Value.ref d := rx
  obtain ⟨z, hs, ks, pr, o, es, ep, ho, hx, hdt, he', hn⟩ := Ia.hok d _ hd
  have hr : s1.heap.DictRaw d es ep := ⟨o, ho, hx, hdt⟩
  have l1 : es.size = ks.length := size_of_entries he'
  have l2 : kvs.length = ks.length := Paired.length pr
  refine ⟨hr.typeIs, fun b eb => by cases eb; exact ⟨o, ho, hx.2.1⟩, ?_⟩
  have Ib : Inv X pins σ Ha { s1 with heap := s1.heap.push { cls := .type "dict_values", data := .fields #[.ref d] } } := Ia.kept (t' := s1.toks) fun b ob q => Heap.get?_push_of_some _ q
  show wpAny _ _ (callWith cpos (.builtin "dict.values") [.ref d] [] []) _ X.xe s1
  refine method_meetsIn F.slot_dict_values F.entry_dict_values rfl (PySem.evalArgs_none ⟨rfl, hr.typeIs, F.args_dict_values_1 _, _, meets_dict_values_raw d hs, ⟨es, ep, hr⟩, ?_⟩)
  refine PyProof.Rows.args_nil ?_
  have K : PySem.W.KdlSrc X.prog X.w "dict_values" s1.heap.objs.size d es.size (fun i v => ∃ hi : i < es.size, v = es[i].val) (fun h => h.IsValuesView s1.heap.objs.size d ∧ h.DictRaw d es ep) := PySem.KdlSrc.rawValues
  refine tuple_of_src (s := { s1 with heap := s1.heap.push { cls := .type "dict_values", data := .fields #[.ref d] } }) K (Ia.ok.hd hc) ⟨⟨_, Heap.get?_push_size _ rfl, rfl, rfl⟩, hr.push _⟩ (by omega) fun h' tk acc hk hacc => ?_
  have Ic : Inv X pins σ Ha { s1 with heap := h', toks := tk } := Ib.kept (t' := tk) hk
  have ea : Vals (kvs.map (·.2)) acc.toList := by
    have g : ∀ {kvs : List (List Key × V)} {ks : List (List Key × Addr × Value)}, Paired (fun (p : List Key × V) (q : List Key × Addr × Value) => p.1 = q.1 ∧ Ha q.2.1 = some (.tup (p.1.map kV)) ∧ RelV p.2 q.2.2) kvs ks → Vals (kvs.map (·.2)) (ks.map fun x => x.2.2) := by
      intro kvs ks pr
      induction pr with
      | nil => exact .nil
      | cons h t ih => exact .cons h.2.2 ih
    have e : acc.toList = ks.map fun x => x.2.2 := by
      have hl : acc.toList.length = ks.length := by rw [Array.length_toList, hacc.1]; exact l1
      apply List.ext_getElem (by rw [hl, List.length_map])

      intro j h1 h2
      rw [List.getElem_map]
      obtain ⟨hi, hv⟩ := hacc.2 j acc.toList[j] (by simp at h1 ⊢)
      rw [hv]
      have qe := entry_at he' j
      rw [Array.getElem?_eq_getElem hi, List.getElem?_eq_getElem (by omega)] at qe
      rw [Option.some.inj qe]
      rfl
    rw [e]
    exact g pr
  have new : ObjOk X.prog X.w (upd Ha h'.objs.size (.tup (kvs.map (·.2)))) (h'.push { cls := .type "tuple", data := .seq acc }) h'.objs.size (.tup (kvs.map (·.2))) :=
    ⟨by rw [List.length_map]; exact z, acc.toList, ea, by have := IsTup.new h' acc.toList.toArray; simpa using this⟩
  exact ⟨.ref h'.objs.size, _, Ic.laid (t' := tk) (fun b o e => Heap.get?_push_of_some _ e) (Nat.le_refl _) new, rfl, q _ (Ic.hok.fresh (Nat.le_refl _))⟩
end
end LT
set_option linter.unusedSimpArgs false
set_option linter.unusedVariables false
/-! Mathematics C: the specification's levels are the program's, level by level. -/
namespace LT
open Sm08
def entOf (x : Found) : Ent := (x.2, code x.1)
def offer0 (d : List Ent) (x : Ent) : List Ent := match lookE d x.1 with
    | none => putE d x.1 x.2
    | some c => if before x.2 c = true then putE d x.1 x.2 else d
theorem offer_eq (known : List Nat → Bool) (d : List Ent) (x : Ent) : offer known d x = if known x.1 = true then d else offer0 d x := rfl
theorem offer0_cons_eq {e x : Ent} {d : List Ent} (h : x.1 = e.1) : offer0 (e :: d) x = if before x.2 e.2 = true then x :: d else e :: d := by
  have h1 : lookE (e :: d) x.1 = some e.2 := by simp [lookE, h]
  unfold offer0
  rw [h1]
  dsimp only
  split
  · rw [putE, if_pos h.symm]
  · rfl
theorem offer0_cons_ne {e x : Ent} {d : List Ent} (h : ¬ x.1 = e.1) : offer0 (e :: d) x = e :: offer0 d x := by
  have h' : ¬ e.1 = x.1 := fun q => h q.symm
  have h1 : lookE (e :: d) x.1 = lookE d x.1 := by simp [lookE, h']
  unfold offer0
  rw [h1]
  cases lookE d x.1 with
  | none => simp [putE, h']
  | some c =>
    dsimp only
    split
    · simp [putE, h']
    · rfl
theorem insert_map (x : Found) : ∀ s : List Found, (Sm08.insert x s).map entOf = offer0 (s.map entOf) (entOf x)
  | [] => rfl
  | y :: l => by
    simp only [Sm08.insert, List.map_cons]
    by_cases h : x.2 = y.2
    · rw [if_pos h, offer0_cons_eq (by exact h)]
      have e : (entOf x).2 = code x.1 := rfl
      have e' : (entOf y).2 = code y.1 := rfl
      rw [e, e']
      split <;> rfl
    · rw [if_neg h, offer0_cons_ne (by exact h), List.map_cons, insert_map x l]
def knownIn (ls : List (List Found)) (v : List Nat) : Bool := ls.any fun r => r.any fun y => y.2 == v
theorem fresh_fold (lower : List (List Found)) : ∀ (l s : List Found), (l.foldl (fun s x => if lower.any (fun r => r.any fun y => y.2 == x.2) = true then s else Sm08.insert x s) s).map entOf = (l.map entOf).foldl (offer (knownIn lower)) (s.map entOf)
  | [], s => rfl
  | x :: l, s => by
    simp only [List.foldl_cons, List.map_cons]
    rw [fresh_fold lower l]
    congr 1
    rw [offer_eq]
    have e : knownIn lower (entOf x).1 = lower.any (fun r => r.any fun y => y.2 == x.2) := rfl
    rw [e]
    split
    · rfl
    · exact insert_map x s
theorem fresh_isLv (lower : List (List Found)) (l : List Found) : IsLv (knownIn lower) (l.map entOf) ((fresh lower l).map entOf) := by
  unfold fresh
  rw [fresh_fold lower l []]
  have := foldl_isLv (l.map entOf) (nil_isLv (knownIn lower))
  simpa using this

/-! ### the program's candidates -/
def ary (o : Nat) : Nat := if o < 4 then 1 else if o < 11 then 2 else 3
def partsM (lv : Nat → List Ent) : Nat → Nat → List (List Ent)
  | 0, cost => if cost = 0 then [[]] else []
  | c + 1, cost => (List.range' 1 (cost - c)).flatMap fun f => (partsM lv c (cost - f)).flatMap fun others => (lv f).map (· :: others)
def leavesM (k : Nat) (consts : List Nat) (rows : List (List Nat)) : List Ent := (List.range k ++ consts.map (2 + ·)).map fun s => (leaf rows s, [s])
def candOp (w o : Nat) (lv : Nat → List Ent) (m : Nat) : List Ent := (partsM lv (ary o) m).map fun ps => (opRow w o (ps.map (·.1)), (20 + o) :: ps.flatMap (·.2))
def candM (w k : Nat) (g : Lang) (rows : List (List Nat)) (lv : Nat → List Ent) (n : Nat) : List Ent :=
  (if n = 1 then leavesM k g.consts rows else []) ++ g.ops.flatMap fun x => candOp w x.1 lv (n - x.2)
def knownM (ls : List (List Ent)) (v : List Nat) : Bool := ls.any fun d => d.any fun e => e.1 == v
def levelsM (w k : Nat) (g : Lang) (rows : List (List Nat)) : Nat → List (List Ent)
  | 0 => [[]]
  | n + 1 =>
    let ls := levelsM w k g rows n
    ls ++ [(candM w k g rows (fun f => ls.getD f []) (n + 1)).foldl (offer (knownM ls)) []]
theorem mem_parts1 {lv : Nat → List Ent} {m : Nat} {ps : List Ent} : ps ∈ partsM lv 1 m ↔ ∃ a, ps = [a] ∧ 1 ≤ m ∧ a ∈ lv m := by
  simp only [partsM, List.mem_flatMap, List.mem_range'_1, List.mem_map]
  constructor
  · rintro ⟨f, ⟨h1, h2⟩, others, ho, a, ha, rfl⟩
    split at ho
    · simp at ho
      subst ho
      have : f = m := by omega
      subst this
      exact ⟨a, rfl, h1, ha⟩
    · cases ho
  · rintro ⟨a, rfl, h1, ha⟩
    exact ⟨m, ⟨h1, by omega⟩, [], by simp, a, ha, rfl⟩
theorem mem_parts2 {lv : Nat → List Ent} {m : Nat} {ps : List Ent} : ps ∈ partsM lv 2 m ↔ ∃ i a b, ps = [a, b] ∧ 1 ≤ i ∧ i < m ∧ a ∈ lv i ∧ b ∈ lv (m - i) := by
  rw [partsM]
  simp only [List.mem_flatMap, List.mem_range'_1, List.mem_map, mem_parts1]
  constructor
  · rintro ⟨f, ⟨h1, h2⟩, others, ⟨b, rfl, h3, hb⟩, a, ha, rfl⟩
    exact ⟨f, a, b, rfl, h1, by omega, ha, hb⟩
  · rintro ⟨i, a, b, rfl, h1, h2, ha, hb⟩
    exact ⟨i, ⟨h1, by omega⟩, [b], ⟨b, rfl, by omega, hb⟩, a, ha, rfl⟩
theorem mem_parts3 {lv : Nat → List Ent} {m : Nat} {ps : List Ent} : ps ∈ partsM lv 3 m ↔ ∃ i j a b c, ps = [a, b, c] ∧ 1 ≤ i ∧ 1 ≤ j ∧ i + j < m ∧ a ∈ lv i ∧ b ∈ lv j ∧ c ∈ lv (m - i - j) := by
  rw [partsM]
  simp only [List.mem_flatMap, List.mem_range'_1, List.mem_map, mem_parts2]
  constructor
  · rintro ⟨f, ⟨h1, h2⟩, others, ⟨j, b, c, rfl, h3, h4, hb, hc⟩, a, ha, rfl⟩
    exact ⟨f, j, a, b, c, rfl, h1, h3, by omega, ha, hb, hc⟩
  · rintro ⟨i, j, a, b, c, rfl, h1, h2, h3, ha, hb, hc⟩
    exact ⟨i, ⟨h1, by omega⟩, [b, c], ⟨j, b, c, rfl, h2, by omega, hb, hc⟩, a, ha, rfl⟩
/-- the program's candidates of a cost are the specification's built ones -/
theorem cand_built {w k : Nat} {g : Lang} {rows : List (List Nat)} {ls : List (List Found)} {lv : Nat → List Ent} (hk : k ≤ 2) (ho : ∀ x ∈ g.ops, x.1 ≤ 11) (n : Nat)
    (h : ∀ f x, x ∈ lv f ↔ x ∈ (levelAt ls f).map entOf) : ∀ x, x ∈ candM w k g rows lv n ↔ x ∈ (built w k g rows ls n).map entOf := by
  have h' : ∀ f x, x ∈ lv f ↔ ∃ a ∈ levelAt ls f, entOf a = x := fun f x => by rw [h, List.mem_map]
  have h0 : ∀ a, a ∉ levelAt ls 0 := fun a ha => by simp [levelAt] at ha
  intro x
  simp only [candM, built, List.map_append, List.mem_append]
  refine or_congr ?_ ?_
  · by_cases e : n = 1
    · simp only [if_pos e, leavesM, List.map_append, List.map_map, List.mem_append]
      refine or_congr ?_ ?_
      · have q : ∀ i, i < k → (leaf rows i, [i]) = entOf (Term.input i, rows.map fun r => r.getD i 0) := by
          intro i hi
          have h2 : i < 2 := by omega
          simp [entOf, code, leaf, h2]
        simp only [List.mem_map, List.mem_range, Function.comp]
        constructor
        · rintro ⟨i, hi, rfl⟩
          exact ⟨i, hi, (q i hi).symm⟩
        · rintro ⟨i, hi, rfl⟩
          exact ⟨i, hi, q i hi⟩
      · have q : ∀ c, (leaf rows (2 + c), [2 + c]) = entOf (Term.const c, rows.map fun _ => c) := by
          intro c
          have h2 : ¬ (2 + c < 2) := by omega
          simp [entOf, code, leaf, h2]
        simp only [List.mem_map, Function.comp]
        constructor
        · rintro ⟨c, hc, rfl⟩
          exact ⟨c, hc, (q c).symm⟩
        · rintro ⟨c, hc, rfl⟩
          exact ⟨c, hc, q c⟩
    · simp [if_neg e]
  · simp only [List.map_flatMap, List.mem_flatMap]
    refine exists_congr fun op => and_congr_right fun hop => ?_
    have hle := ho op hop
    obtain ⟨o, p⟩ := op
    dsimp only at hle ⊢
    by_cases hn : n ≤ p
    · rw [if_pos hn]
      have e : n - p = 0 := by omega
      simp only [candOp, List.mem_map, List.map_nil, List.not_mem_nil, iff_false, e]
      rintro ⟨ps, hp, -⟩
      unfold ary at hp
      split at hp
      · obtain ⟨a, -, hm, -⟩ := mem_parts1.mp hp; omega
      split at hp
      · obtain ⟨i, a, b, -, h1, h2, -⟩ := mem_parts2.mp hp; omega
      · obtain ⟨i, j, a, b, c, -, h1, h2, h3, -⟩ := mem_parts3.mp hp; omega
    · rw [if_neg hn]
      simp only [candOp, List.mem_map]
      by_cases c1 : o < 4
      · rw [if_pos c1]
        have ea : ary o = 1 := by simp [ary, c1]
        rw [ea]
        constructor
        · rintro ⟨ps, hp, rfl⟩
          obtain ⟨a, rfl, hm, ha⟩ := mem_parts1.mp hp
          obtain ⟨u, hu, rfl⟩ := (h' _ _).mp ha
          exact ⟨(Term.one o u.1, u.2.map (one_ w o)), List.mem_map.mpr ⟨u, hu, rfl⟩, by simp [entOf, code, opRow]⟩
        · rintro ⟨y, hy, rfl⟩
          obtain ⟨u, hu, rfl⟩ := List.mem_map.mp hy
          exact ⟨[entOf u], mem_parts1.mpr ⟨_, rfl, by omega, (h' _ _).mpr ⟨u, hu, rfl⟩⟩, by simp [entOf, code, opRow]⟩
      · rw [if_neg c1]
        by_cases c2 : o < 11
        · rw [if_pos c2]
          have ea : ary o = 2 := by simp [ary, c1, c2]
          rw [ea]
          constructor
          · rintro ⟨ps, hp, rfl⟩
            obtain ⟨i, a, b, rfl, h1, h2, ha, hb⟩ := mem_parts2.mp hp
            obtain ⟨u, hu, rfl⟩ := (h' _ _).mp ha
            obtain ⟨v, hv, rfl⟩ := (h' _ _).mp hb
            refine ⟨(Term.two o u.1 v.1, (u.2.zip v.2).map fun y => two_ w o y.1 y.2), ?_, by simp [entOf, code, opRow]⟩
            exact List.mem_flatMap.mpr ⟨i, List.mem_range.mpr h2, List.mem_flatMap.mpr ⟨u, hu, List.mem_map.mpr ⟨v, hv, rfl⟩⟩⟩
          · rintro ⟨y, hy, rfl⟩
            obtain ⟨i, hi, hy⟩ := List.mem_flatMap.mp hy
            obtain ⟨u, hu, hy⟩ := List.mem_flatMap.mp hy
            obtain ⟨v, hv, rfl⟩ := List.mem_map.mp hy
            have hi' := List.mem_range.mp hi
            have i1 : 1 ≤ i := by
              rcases Nat.eq_zero_or_pos i with e | e
              · subst e; exact absurd hu (h0 u)
              · exact e
            exact ⟨[entOf u, entOf v], mem_parts2.mpr ⟨i, _, _, rfl, i1, hi', (h' _ _).mpr ⟨u, hu, rfl⟩, (h' _ _).mpr ⟨v, hv, rfl⟩⟩, by simp [entOf, code, opRow]⟩
        · rw [if_neg c2]
          have ea : ary o = 3 := by simp [ary, c1, c2]
          have eo : o = 11 := by omega
          subst eo
          rw [ea]
          constructor
          · rintro ⟨ps, hp, rfl⟩
            obtain ⟨i, j, a, b, c, rfl, h1, h2, h3, ha, hb, hc⟩ := mem_parts3.mp hp
            obtain ⟨u, hu, rfl⟩ := (h' _ _).mp ha
            obtain ⟨v, hv, rfl⟩ := (h' _ _).mp hb
            obtain ⟨z, hz, rfl⟩ := (h' _ _).mp hc
            refine ⟨(Term.pick u.1 v.1 z.1, (u.2.zip (v.2.zip z.2)).map fun y => if y.1 ≠ 0 then y.2.1 else y.2.2), ?_, by simp [entOf, code, opRow]⟩
            exact List.mem_flatMap.mpr ⟨i, List.mem_range.mpr (by omega), List.mem_flatMap.mpr ⟨j, List.mem_range.mpr (by omega), List.mem_flatMap.mpr ⟨u, hu, List.mem_flatMap.mpr ⟨v, hv, List.mem_map.mpr ⟨z, hz, rfl⟩⟩⟩⟩⟩
          · rintro ⟨y, hy, rfl⟩
            obtain ⟨i, hi, hy⟩ := List.mem_flatMap.mp hy
            obtain ⟨j, hj, hy⟩ := List.mem_flatMap.mp hy
            obtain ⟨u, hu, hy⟩ := List.mem_flatMap.mp hy
            obtain ⟨v, hv, hy⟩ := List.mem_flatMap.mp hy
            obtain ⟨z, hz, rfl⟩ := List.mem_map.mp hy
            have hi' := List.mem_range.mp hi
            have hj' := List.mem_range.mp hj
            have i1 : 1 ≤ i := by
              rcases Nat.eq_zero_or_pos i with e | e
              · subst e; exact absurd hu (h0 u)
              · exact e
            have j1 : 1 ≤ j := by
              rcases Nat.eq_zero_or_pos j with e | e
              · subst e; exact absurd hv (h0 v)
              · exact e
            exact ⟨[entOf u, entOf v, entOf z], mem_parts3.mpr ⟨i, j, _, _, _, rfl, i1, j1, by omega, (h' _ _).mpr ⟨u, hu, rfl⟩, (h' _ _).mpr ⟨v, hv, rfl⟩, (h' _ _).mpr ⟨z, hz, rfl⟩⟩, by simp [entOf, code, opRow]⟩
theorem levels_len (w k : Nat) (g : Lang) (rows : List (List Nat)) : ∀ n, (levels w k g rows n).length = n
  | 0 => rfl
  | n + 1 => by simp [levels, levels_len w k g rows n]
theorem levelsM_len (w k : Nat) (g : Lang) (rows : List (List Nat)) : ∀ n, (levelsM w k g rows n).length = n + 1
  | 0 => rfl
  | n + 1 => by simp [levelsM, levelsM_len w k g rows n]
/-- **the levels are the same**: as sets of entries, each thing once -/
theorem levels_same {w k : Nat} {g : Lang} {rows : List (List Nat)} (hk : k ≤ 2) (ho : ∀ x ∈ g.ops, x.1 ≤ 11) : ∀ n,
    (∀ f x, x ∈ (levelsM w k g rows n).getD f [] ↔ x ∈ (levelAt (levels w k g rows n) f).map entOf) ∧ (∀ v, knownM (levelsM w k g rows n) v = knownIn (levels w k g rows n) v)
      ∧ (∀ f, (((levelsM w k g rows n).getD f []).map (·.1)).Nodup) ∧ (∀ f, (((levelAt (levels w k g rows n) f).map entOf).map (·.1)).Nodup)
  | 0 => by
    refine ⟨fun f x => ?_, fun v => rfl, fun f => ?_, fun f => ?_⟩
    · cases f <;> simp [levelsM, levels, levelAt]
    · cases f <;> simp [levelsM]
    · cases f <;> simp [levels, levelAt]
  | n + 1 => by
    obtain ⟨h1, h2, h3, h4⟩ := levels_same hk ho n (w := w) (rows := rows)
    have lM := levelsM_len w k g rows n
    have lS := levels_len w k g rows n
    have a1 := foldl_isLv (candM w k g rows (fun f => (levelsM w k g rows n).getD f []) (n + 1)) (nil_isLv (knownM (levelsM w k g rows n)))
    rw [List.nil_append] at a1
    have a2 := fresh_isLv (levels w k g rows n) (built w k g rows (levels w k g rows n) (n + 1))
    have c := cand_built (w := w) (rows := rows) (lv := fun f => (levelsM w k g rows n).getD f []) hk ho (n + 1) h1
    have s := isLv_same a1 a2 h2 c
    have eM : ∀ f, (levelsM w k g rows (n + 1)).getD f [] = if f < n + 1 then (levelsM w k g rows n).getD f [] else if f = n + 1 then (candM w k g rows (fun f => (levelsM w k g rows n).getD f []) (n + 1)).foldl (offer (knownM (levelsM w k g rows n))) [] else [] := by
      intro f
      simp only [levelsM, List.getD_eq_getElem?_getD, List.getElem?_append, lM]
      by_cases q : f < n + 1
      · simp [q]
      · by_cases q2 : f = n + 1
        · simp [q2]
        · have : f - (n + 1) ≠ 0 := by omega
          simp [q, q2, this]
    have eS : ∀ f, levelAt (levels w k g rows (n + 1)) f = if f < n + 1 then levelAt (levels w k g rows n) f else if f = n + 1 then fresh (levels w k g rows n) (built w k g rows (levels w k g rows n) (n + 1)) else [] := by
      intro f
      unfold levelAt
      by_cases z : f = 0
      · simp [z]
      · simp only [if_neg z, levels, List.getD_eq_getElem?_getD, List.getElem?_append, lS]
        by_cases q : f < n + 1
        · have : f - 1 < n := by omega
          simp [q, this]
        · by_cases q2 : f = n + 1
          · simp [q2]
          · have : ¬ (f - 1 < n) := by omega
            have : f - 1 - n ≠ 0 := by omega
            simp [q, q2, *]
    refine ⟨fun f x => ?_, fun v => ?_, fun f => ?_, fun f => ?_⟩
    · rw [eM, eS]
      by_cases q : f < n + 1
      · rw [if_pos q, if_pos q]; exact h1 f x
      · rw [if_neg q, if_neg q]
        by_cases q2 : f = n + 1
        · rw [if_pos q2, if_pos q2]; exact s x
        · rw [if_neg q2, if_neg q2]; simp
    · simp only [levelsM, levels, knownM, knownIn, List.any_append]
      have e1 := h2 v
      simp only [knownM, knownIn] at e1
      rw [e1]
      congr 1
      simp only [List.any_cons, List.any_nil, Bool.or_false]
      rw [Bool.eq_iff_iff]
      simp only [List.any_eq_true, beq_iff_eq]
      constructor
      · rintro ⟨e, he, rfl⟩
        obtain ⟨u, hu, rfl⟩ := List.mem_map.mp ((s e).mp he)
        exact ⟨u, hu, rfl⟩
      · rintro ⟨u, hu, rfl⟩
        exact ⟨entOf u, (s _).mpr (List.mem_map_of_mem hu), rfl⟩
    · rw [eM]
      by_cases q : f < n + 1
      · rw [if_pos q]; exact h3 f
      · rw [if_neg q]
        by_cases q2 : f = n + 1
        · rw [if_pos q2]; exact a1.nd
        · rw [if_neg q2]; simp
    · rw [eS]
      by_cases q : f < n + 1
      · rw [if_pos q]; exact h4 f
      · rw [if_neg q]
        by_cases q2 : f = n + 1
        · rw [if_pos q2]; exact a2.nd
        · rw [if_neg q2]; simp
end LT
set_option linter.unusedSimpArgs false
set_option linter.unusedVariables false
/-! Mathematics D: the search's answer; sizes; what terms of the language are. -/
namespace LT
open Sm08
/-- the level of a cost -/
def lvM (w k : Nat) (g : Lang) (rows : List (List Nat)) (c : Nat) : List Ent := (levelsM w k g rows c).getD c []
theorem levelsM_get (w k : Nat) (g : Lang) (rows : List (List Nat)) : ∀ n c, c ≤ n → (levelsM w k g rows n).getD c [] = lvM w k g rows c
  | 0, c, h => by
    have : c = 0 := by omega
    subst this; rfl
  | n + 1, c, h => by
    by_cases q : c = n + 1
    · subst q; rfl
    · have q' : c < n + 1 := by omega
      have ih := levelsM_get w k g rows n c (by omega)
      rw [← ih]
      have l := levelsM_len w k g rows n
      simp only [levelsM, List.getD_eq_getElem?_getD]
      rw [List.getElem?_append_left (by omega)]
theorem levels_pre (w k : Nat) (g : Lang) (rows : List (List Nat)) (n : Nat) : levels w k g rows (n + 1) = levels w k g rows n ++ [fresh (levels w k g rows n) (built w k g rows (levels w k g rows n) (n + 1))] := rfl
/-- the specification's level of a cost -/
def lvS (w k : Nat) (g : Lang) (rows : List (List Nat)) (c : Nat) : List Found := levelAt (levels w k g rows c) c
theorem lvS_succ (w k : Nat) (g : Lang) (rows : List (List Nat)) (n : Nat) : lvS w k g rows (n + 1) = fresh (levels w k g rows n) (built w k g rows (levels w k g rows n) (n + 1)) := by
  have l := levels_len w k g rows n
  simp [lvS, levelAt, levels_pre, List.getD_eq_getElem?_getD, l]
theorem lv_same {w k : Nat} {g : Lang} {rows : List (List Nat)} (hk : k ≤ 2) (ho : ∀ x ∈ g.ops, x.1 ≤ 11) (c : Nat) : (∀ x, x ∈ lvM w k g rows c ↔ x ∈ (lvS w k g rows c).map entOf) ∧ ((lvM w k g rows c).map (·.1)).Nodup ∧ (((lvS w k g rows c).map entOf).map (·.1)).Nodup := by
  obtain ⟨h1, _, h3, h4⟩ := levels_same (w := w) (rows := rows) hk ho c
  exact ⟨h1 c, h3 c, h4 c⟩
theorem lv_length {w k : Nat} {g : Lang} {rows : List (List Nat)} (hk : k ≤ 2) (ho : ∀ x ∈ g.ops, x.1 ≤ 11) (c : Nat) : (lvM w k g rows c).length = (lvS w k g rows c).length := by
  obtain ⟨h1, h3, h4⟩ := lv_same (w := w) (rows := rows) hk ho c
  have := same_len h3 h4 h1
  simpa using this
/-- classes: the levels' lengths -/
theorem levels_lengths {w k : Nat} {g : Lang} {rows : List (List Nat)} (hk : k ≤ 2) (ho : ∀ x ∈ g.ops, x.1 ≤ 11) : ∀ n, (levels w k g rows n).map (fun l => l.length) = (List.range' 1 n).map fun c => (lvM w k g rows c).length
  | 0 => rfl
  | n + 1 => by
    rw [levels_pre, List.map_append, levels_lengths hk ho n, List.range'_concat, List.map_append]
    congr 1
    simp only [List.map_cons, List.map_nil]
    rw [← lvS_succ, ← lv_length hk ho (n + 1)]
    congr 3
    omega
theorem find_look {w k : Nat} {g : Lang} {rows : List (List Nat)} (hk : k ≤ 2) (ho : ∀ x ∈ g.ops, x.1 ≤ 11) (c : Nat) (v : List Nat) :
    ((lvS w k g rows c).find? fun x => x.2 == v).map (fun x => code x.1) = lookE (lvM w k g rows c) v := by
  obtain ⟨h1, h3, h4⟩ := lv_same (w := w) (rows := rows) hk ho c
  cases e : (lvS w k g rows c).find? fun x => x.2 == v with
  | none =>
    cases e2 : lookE (lvM w k g rows c) v with
    | none => rfl
    | some cd =>
      obtain ⟨u, hu, e3⟩ := List.mem_map.mp ((h1 _).mp (lookE_some e2))
      have := List.find?_eq_none.mp e u hu
      simp [entOf] at e3
      exact absurd (beq_iff_eq.mpr e3.1) this
  | some x =>
    have a1 := List.find?_some e
    have a2 := List.mem_of_find?_eq_some e
    have a3 := (h1 _).mpr (List.mem_map_of_mem (f := entOf) a2)
    have e4 : x.2 = v := by simpa using a1
    have e5 : entOf x = (v, code x.1) := by rw [← e4]; rfl
    rw [e5] at a3
    rw [lookE_mem h3 a3]
    rfl
/-- the program's search over the costs from n on, j of them -/
def firstFrom (lv : Nat → List Ent) (v : List Nat) : Nat → Nat → Option (Nat × List Nat)
  | _, 0 => none
  | n, j + 1 => match lookE (lv n) v with
    | some c => some (n, c)
    | none => firstFrom lv v (n + 1) j
theorem search_append (v : List Nat) : ∀ (ls : List (List Found)) (n : Nat) (l : List Found), search v n (ls ++ [l]) = match search v n ls with
    | some x => some x
    | none => (l.find? fun x => x.2 == v).map fun x => (n + ls.length, x.1)
  | [], n, l => by
    simp only [List.nil_append, search, List.length_nil, Nat.add_zero]
    cases l.find? fun x => x.2 == v <;> rfl
  | m :: ls, n, l => by
    simp only [List.cons_append, search]
    cases m.find? fun x => x.2 == v with
    | some x => rfl
    | none =>
      dsimp only
      rw [search_append v ls (n + 1) l]
      have : n + 1 + ls.length = n + (m :: ls).length := by simp; omega
      rw [this]
theorem firstFrom_append (lv : Nat → List Ent) (v : List Nat) : ∀ (j n : Nat), firstFrom lv v n (j + 1) = match firstFrom lv v n j with
    | some x => some x
    | none => (lookE (lv (n + j)) v).map fun c => (n + j, c)
  | 0, n => by
    simp only [firstFrom, Nat.add_zero]
    cases lookE (lv n) v <;> rfl
  | j + 1, n => by
    rw [firstFrom]
    cases e : lookE (lv n) v with
    | some c => simp [firstFrom, e]
    | none =>
      dsimp only
      rw [firstFrom_append lv v j (n + 1)]
      have e2 : firstFrom lv v n (j + 1) = firstFrom lv v (n + 1) j := by simp [firstFrom, e]
      have e3 : n + 1 + j = n + (j + 1) := by omega
      rw [e2, e3]
theorem search_first {w k : Nat} {g : Lang} {rows : List (List Nat)} (hk : k ≤ 2) (ho : ∀ x ∈ g.ops, x.1 ≤ 11) (v : List Nat) : ∀ m, (search v 1 (levels w k g rows m)).map (fun x => (x.1, code x.2)) = firstFrom (lvM w k g rows) v 1 m
  | 0 => rfl
  | m + 1 => by
    have ih := search_first (w := w) (rows := rows) hk ho v m
    have q := find_look (w := w) (rows := rows) hk ho (m + 1) v
    have ml : 1 + m = m + 1 := by omega
    rw [levels_pre, search_append, firstFrom_append, ← ih, levels_len, ml, ← lvS_succ, ← q]
    cases search v 1 (levels w k g rows m) with
    | some x => rfl
    | none =>
      simp only [Option.map_none, Option.map_map]
      cases (lvS w k g rows (m + 1)).find? fun x => x.2 == v <;> rfl
end LT
set_option linter.unusedSimpArgs false
set_option linter.unusedVariables false
/-! Mathematics E: what stands in a level is a term of the language; sizes. -/
namespace LT
open Sm08
structure LangOk (w : Nat) (g : Lang) : Prop where
  cs : ∀ c ∈ g.consts, c < 2 ^ w
  os : ∀ x ∈ g.ops, x.1 ≤ 11 ∧ 1 ≤ x.2 ∧ x.2 ≤ 3
  nc : g.consts.length ≤ 2
  no : g.ops.length ≤ 5
  ndc : g.consts.Nodup
  ndo : (g.ops.map (·.1)).Nodup
/-- a found term is sound: of the language's words, and its row is what it is -/
structure Sound (w k : Nat) (rows : List (List Nat)) (c : Nat) (x : Found) : Prop where
  gd : good x.1 = true
  ft : fitsIn w k x.1 = true
  ou : x.2 = outs w rows x.1
  ln : (code x.1).length ≤ c
theorem built_sound {w k : Nat} {g : Lang} {rows : List (List Nat)} {ls : List (List Found)} (hw : w ≤ 4) (hk : k ≤ 2) (L : LangOk w g) (n : Nat)
    (h : ∀ f x, x ∈ levelAt ls f → Sound w k rows f x) : ∀ x ∈ built w k g rows ls n, Sound w k rows n x := by
  have hp : 2 ^ w ≤ 16 := by
    have := Nat.pow_le_pow_right (n := 2) (by decide) hw
    simpa using this
  intro x hx
  simp only [built, List.mem_append] at hx
  rcases hx with hx | hx
  · split at hx
    · rename_i e
      rcases List.mem_append.mp hx with hx | hx
      · obtain ⟨i, hi, rfl⟩ := List.mem_map.mp hx
        have hi := List.mem_range.mp hi
        exact ⟨by simp [good]; omega, by simp [fitsIn, hi], by simp [outs, eval], by simp [code]; omega⟩
      · obtain ⟨c, hc, rfl⟩ := List.mem_map.mp hx
        have := L.cs c hc
        exact ⟨by simp [good]; omega, by simp [fitsIn, this], by simp [outs, eval], by simp [code]; omega⟩
    · cases hx
  · obtain ⟨⟨o, p⟩, hop, hx⟩ := List.mem_flatMap.mp hx
    obtain ⟨o1, o2, o3⟩ := L.os _ hop
    dsimp only at hx o1 o2 o3
    split at hx
    · cases hx
    · rename_i hn
      split at hx
      · rename_i c1
        obtain ⟨a, ha, rfl⟩ := List.mem_map.mp hx
        have s := h _ _ ha
        refine ⟨by simp [good, c1, s.gd], by simp [fitsIn, s.ft], ?_, ?_⟩
        · simp [outs, eval, s.ou, List.map_map]
        · simp [code]; have := s.ln; omega
      · rename_i c1
        split at hx
        · rename_i c2
          obtain ⟨i, hi, hx⟩ := List.mem_flatMap.mp hx
          obtain ⟨a, ha, hx⟩ := List.mem_flatMap.mp hx
          obtain ⟨b, hb, rfl⟩ := List.mem_map.mp hx
          have hi := List.mem_range.mp hi
          have s := h _ _ ha
          have t := h _ _ hb
          refine ⟨by simp [good, c2, s.gd, t.gd]; omega, by simp [fitsIn, s.ft, t.ft], ?_, ?_⟩
          · simp [outs, eval, s.ou, t.ou, zip_outs, List.map_map]
          · simp [code]; have := s.ln; have := t.ln; omega
        · rename_i c2
          obtain ⟨i, hi, hx⟩ := List.mem_flatMap.mp hx
          obtain ⟨j, hj, hx⟩ := List.mem_flatMap.mp hx
          obtain ⟨a, ha, hx⟩ := List.mem_flatMap.mp hx
          obtain ⟨b, hb, hx⟩ := List.mem_flatMap.mp hx
          obtain ⟨c, hc, rfl⟩ := List.mem_map.mp hx
          have hi := List.mem_range.mp hi
          have hj := List.mem_range.mp hj
          have s := h _ _ ha
          have t := h _ _ hb
          have u := h _ _ hc
          refine ⟨by simp [good, s.gd, t.gd, u.gd], by simp [fitsIn, s.ft, t.ft, u.ft], ?_, ?_⟩
          · simp [outs, eval, s.ou, t.ou, u.ou, zip_outs, List.map_map]
          · simp [code]; have := s.ln; have := t.ln; have := u.ln; omega
theorem insert_mem {x y : Found} : ∀ {s : List Found}, y ∈ Sm08.insert x s → y = x ∨ y ∈ s
  | [], h => by simp [Sm08.insert] at h; exact Or.inl h
  | z :: s, h => by
    simp only [Sm08.insert] at h
    split at h
    · split at h
      · rcases List.mem_cons.mp h with h | h
        · exact Or.inl h
        · exact Or.inr (List.mem_cons_of_mem _ h)
      · exact Or.inr h
    · rcases List.mem_cons.mp h with h | h
      · exact Or.inr (h ▸ List.mem_cons_self ..)
      · rcases insert_mem h with h | h
        · exact Or.inl h
        · exact Or.inr (List.mem_cons_of_mem _ h)
theorem fresh_mem_aux (lower : List (List Found)) : ∀ (l s : List Found) (y : Found), y ∈ l.foldl (fun s x => if lower.any (fun r => r.any fun y => y.2 == x.2) = true then s else Sm08.insert x s) s → y ∈ s ∨ y ∈ l
  | [], s, y, h => Or.inl h
  | x :: l, s, y, h => by
    simp only [List.foldl_cons] at h
    rcases fresh_mem_aux lower l _ y h with h | h
    · split at h
      · exact Or.inl h
      · rcases insert_mem h with h | h
        · exact Or.inr (h ▸ List.mem_cons_self ..)
        · exact Or.inl h
    · exact Or.inr (List.mem_cons_of_mem _ h)
theorem fresh_mem {lower : List (List Found)} {l : List Found} {y : Found} (h : y ∈ fresh lower l) : y ∈ l := by
  rcases fresh_mem_aux lower l [] y h with h | h
  · cases h
  · exact h
theorem levels_sound {w k : Nat} {g : Lang} {rows : List (List Nat)} (hw : w ≤ 4) (hk : k ≤ 2) (L : LangOk w g) : ∀ n f x, x ∈ levelAt (levels w k g rows n) f → Sound w k rows f x
  | 0, f, x, h => by cases f <;> simp [levels, levelAt] at h
  | n + 1, f, x, h => by
    have ih := levels_sound (rows := rows) hw hk L n
    have l := levels_len w k g rows n
    unfold levelAt at h
    split at h
    · cases h
    · rename_i z
      simp only [levels, List.getD_eq_getElem?_getD, List.getElem?_append, l] at h
      by_cases q : f - 1 < n
      · refine ih f x ?_
        simp [levelAt, z, List.getD_eq_getElem?_getD]
        simpa [q] using h
      · by_cases q2 : f = n + 1
        · subst q2
          simp at h
          exact built_sound hw hk L (n + 1) ih x (fresh_mem h)
        · have : ¬ (f - 1 - n = 0) := by omega
          simp [q, this] at h
theorem lvS_sound {w k : Nat} {g : Lang} {rows : List (List Nat)} (hw : w ≤ 4) (hk : k ≤ 2) (L : LangOk w g) (c : Nat) : ∀ x ∈ lvS w k g rows c, Sound w k rows c x := fun x h => levels_sound hw hk L c c x h
/-- an entry of the program's level is a term's -/
theorem lvM_sound {w k : Nat} {g : Lang} {rows : List (List Nat)} (hw : w ≤ 4) (hk : k ≤ 2) (L : LangOk w g) (c : Nat) {v s : List Nat} (h : (v, s) ∈ lvM w k g rows c) : ∃ t, s = code t ∧ good t = true ∧ fitsIn w k t = true ∧ v = outs w rows t ∧ s.length ≤ c := by
  obtain ⟨u, hu, e⟩ := List.mem_map.mp (((lv_same (w := w) (rows := rows) hk (fun x hx => (L.os x hx).1) c).1 _).mp h)
  have q := lvS_sound hw hk L c u hu
  obtain ⟨rfl, rfl⟩ := Prod.mk.inj e
  exact ⟨u.1, rfl, q.gd, q.ft, q.ou, q.ln⟩
/-! ### sizes -/
def cap : Nat → Nat
  | 0 => 0
  | 1 => 4
  | 2 => 20
  | 3 => 180
  | 4 => 2020
  | _ => 24100
theorem putE_len (d : List Ent) (v c : List Nat) : (putE d v c).length ≤ d.length + 1 := by
  have := congrArg List.length (putE_keys d v c)
  simp only [List.length_map] at this
  split at this <;> simp at this <;> omega
theorem offer_len (known : List Nat → Bool) (d : List Ent) (x : Ent) : (offer known d x).length ≤ d.length + 1 := by
  unfold offer
  split
  · omega
  · split
    · exact putE_len _ _ _
    · split
      · exact putE_len _ _ _
      · omega
theorem foldl_offer_len (known : List Nat → Bool) : ∀ (l d : List Ent), (l.foldl (offer known) d).length ≤ d.length + l.length
  | [], d => by simp
  | x :: l, d => by
    have := foldl_offer_len known l (offer known d x)
    have := offer_len known d x
    simp only [List.foldl_cons, List.length_cons]
    omega
theorem length_flatMap_le {α β : Type} (f : α → List β) (B : Nat) : ∀ (l : List α), (∀ x ∈ l, (f x).length ≤ B) → (l.flatMap f).length ≤ l.length * B
  | [], _ => by simp
  | a :: l, h => by
    have h1 := h a (by simp)
    have h2 := length_flatMap_le f B l (fun x hx => h x (by simp [hx]))
    simp only [List.flatMap_cons, List.length_append, List.length_cons, Nat.add_mul, Nat.one_mul]
    omega
/-- how many rows of parts there are, where the levels are within cap -/
theorem sum_flatMap_len {α β : Type} (f : α → List β) : ∀ (l : List α), (l.flatMap f).length = (l.map fun x => (f x).length).sum
  | [] => rfl
  | a :: l => by simp [sum_flatMap_len f l]
def capP : Nat → Nat → Nat
  | 0, cost => if cost = 0 then 1 else 0
  | c + 1, cost => ((List.range' 1 (cost - c)).map fun f => capP c (cost - f) * cap f).sum
theorem sum_le_sum {α : Type} {f g : α → Nat} : ∀ {l : List α}, (∀ x ∈ l, f x ≤ g x) → (l.map f).sum ≤ (l.map g).sum
  | [], _ => by simp
  | a :: l, h => by
    have h1 := h a (by simp)
    have h2 := sum_le_sum (l := l) (fun x hx => h x (by simp [hx]))
    simp only [List.map_cons, List.sum_cons]
    omega
theorem partsM_len {lv : Nat → List Ent} : ∀ (c m : Nat), (∀ f, f ≤ m → (lv f).length ≤ cap f) → (partsM lv c m).length ≤ capP c m
  | 0, m, h => by simp only [partsM, capP]; split <;> simp
  | c + 1, m, h => by
    simp only [partsM, capP]
    rw [sum_flatMap_len]
    refine sum_le_sum fun f hf => ?_
    have hf' := List.mem_range'_1.mp hf
    have h1 := partsM_len c (m - f) (fun q hq => h q (by omega))
    have h2 := h f (by omega)
    have h3 := length_flatMap_le (fun others => (lv f).map (· :: others)) (cap f) (partsM lv c (m - f)) (fun x _ => by simpa using h2)
    exact Nat.le_trans h3 (Nat.mul_le_mul_right _ h1)
theorem capP_small : ∀ c ≤ 3, ∀ m ≤ 4, capP c m ≤ 2020 := by decide
def capN (n : Nat) : Nat := max (capP 1 (n - 1)) (max (capP 2 (n - 1)) (capP 3 (n - 1)))
theorem capP_mono0 : ∀ c ≤ 3, ∀ n ≤ 5, ∀ p ≤ 3, 1 ≤ c → 1 ≤ p → capP c (n - p) ≤ capN n := by decide
theorem capP_mono (c : Nat) (h1 : 1 ≤ c) (h2 : c ≤ 3) (n : Nat) (hn : n ≤ 5) (p : Nat) (h3 : 1 ≤ p) (h4 : p ≤ 3) : capP c (n - p) ≤ capN n := capP_mono0 c h2 n hn p h4 h1 h3
theorem cap_step : ∀ n ≤ 5, 1 ≤ n → (if n = 1 then 4 else 0) + 5 * capN n ≤ cap n := by decide
theorem lvM_succ (w k : Nat) (g : Lang) (rows : List (List Nat)) (n : Nat) : lvM w k g rows (n + 1) = (candM w k g rows (fun f => (levelsM w k g rows n).getD f []) (n + 1)).foldl (offer (knownM (levelsM w k g rows n))) [] := by
  have l := levelsM_len w k g rows n
  simp [lvM, levelsM, List.getD_eq_getElem?_getD, l]
theorem ary_le (o : Nat) : 1 ≤ ary o ∧ ary o ≤ 3 := by unfold ary; split <;> (try split) <;> omega
theorem lvM_len {w k : Nat} {g : Lang} {rows : List (List Nat)} (hk : k ≤ 2) (L : LangOk w g) : ∀ n ≤ 5, ∀ c ≤ n, (lvM w k g rows c).length ≤ cap c
  | 0, _, c, hc => by
    have : c = 0 := by omega
    subst this; simp [lvM, levelsM, cap]
  | n + 1, hn, c, hc => by
    have ih := lvM_len (rows := rows) hk L n (by omega)
    by_cases q : c ≤ n
    · exact ih c q
    · have : c = n + 1 := by omega
      subst this
      rw [lvM_succ]
      have h1 := foldl_offer_len (knownM (levelsM w k g rows n)) (candM w k g rows (fun f => (levelsM w k g rows n).getD f []) (n + 1)) []
      refine Nat.le_trans h1 ?_
      have h2 : ((if n + 1 = 1 then leavesM k g.consts rows else []) : List Ent).length ≤ if n + 1 = 1 then 4 else 0 := by
        split
        · simp only [leavesM, List.length_map, List.length_append, List.length_range]
          have := L.nc
          omega
        · simp
      have h3 : (g.ops.flatMap fun x => candOp w x.1 (fun f => (levelsM w k g rows n).getD f []) (n + 1 - x.2)).length ≤ g.ops.length * capN (n + 1) := by
        refine length_flatMap_le _ _ _ fun x hx => ?_
        obtain ⟨o1, o2, o3⟩ := L.os x hx
        have a := ary_le x.1
        simp only [candOp, List.length_map]
        refine Nat.le_trans (partsM_len _ _ fun f hf => ?_) (capP_mono _ a.1 a.2 (n + 1) hn x.2 o2 o3)
        have hf' : f ≤ n := by omega
        rw [levelsM_get w k g rows n f hf']
        exact ih f hf'
      have h4 := cap_step (n + 1) hn (by omega)
      have h5 := Nat.mul_le_mul_right (capN (n + 1)) L.no
      simp only [candM, List.length_append, List.length_nil]
      omega
end LT
set_option Elab.async false
set_option maxRecDepth 100000
set_option maxHeartbeats 2000000
set_option linter.unusedSimpArgs false
set_option linter.unusedVariables false
namespace LT
open PySem PySem.Spec PyProof.Rows L2
def top (i : Nat) : Stmt := PySem.Challenge.pw_leastterm_s01_answers.main.body.getD i (.Pass ⟨0, 0, 0, 0⟩)
/-! ### heaps -/
theorem same_upd {H : Hp} {p : Addr} {o : HO} (h : H p = none) : Same H (upd H p o) := fun b x e => by
  rw [upd_ne (ne_of_none e h)]
  exact e
theorem same_tup {K : PySem.W.Frag} {H H' : Hp} {a : Addr} {xs : List V} (e : Same H H') (h : SqT K H a xs) : SqT K H' a xs := by
  rcases h with h | h
  · left
    rcases h with h | ⟨o, h⟩
    · exact .inl (e _ _ h)
    · exact .inr ⟨o, e _ _ h⟩
  · exact .inr h
theorem SqT.new {K : PySem.W.Frag} {H : Hp} {a : Addr} {xs : List V} (h : H a = some (.tup xs)) : SqT K H a xs := .inl (.inl h)
theorem SqL.new {K : PySem.W.Frag} {H : Hp} {a : Addr} {xs : List V} (h : H a = some (.lst xs)) : SqL K H a xs := .inl (.inl h)
/-- a new list at p, all else as it was -/
structure NewL (H H' : Hp) (p : Addr) (xs : List V) : Prop where
  same : Same H H'
  free : H p = none
  at_ : H' p = some (.lst xs)
structure NewT (H H' : Hp) (p : Addr) (xs : List V) : Prop where
  same : Same H H'
  free : H p = none
  at_ : H' p = some (.tup xs)
/-! ### the makers -/
/-- called with how many words there are and a list of tuples, one for each term -/
structure Parts (K : PySem.W.Frag) (H : Hp) (w n : Nat) (r : Addr) (parts : List (Addr × List Nat)) : Prop where
  hw : w ≤ 4
  ls : SqL K H r (parts.map fun p => V.ref p.1)
  tp : ∀ p ∈ parts, SqT K H p.1 (iv p.2)
  ln : ∀ p ∈ parts, p.2.length = n
  lt : ∀ p ∈ parts, ∀ x ∈ p.2, x < 2 ^ w
  nn : n ≤ 1000
def spMake (K : PySem.W.Frag) (o : Nat) : Sp := fun vs H Q _ => ∃ (w n : Nat) (r : Addr) (parts : List (Addr × List Nat)), vs = [.int ((2 ^ w : Nat) : Int), .ref r] ∧ Parts K H w n r parts ∧ parts.length = ary o ∧
  ∀ H' p, NewL H H' p (iv (opRow w o (parts.map (·.2)))) → Q (.ref p) H'
theorem iv_len (l : List Nat) : (iv l).length = l.length := by simp [iv]
theorem iv_get {l : List Nat} {i : Nat} {x : V} (h : (iv l)[i]? = some x) : ∃ n, l[i]? = some n ∧ x = .int (n : Int) := by
  simp only [iv, List.getElem?_map] at h
  cases e : l[i]? with
  | none => rw [e] at h; cases h
  | some n => rw [e] at h; exact ⟨n, rfl, (Option.some.inj h).symm⟩
theorem iv_take_succ {l : List Nat} {i n : Nat} (f : Nat → Nat) (h : l[i]? = some n) : iv ((l.take (i + 1)).map f) = iv ((l.take i).map f) ++ [.int (f n : Int)] := by
  rw [List.take_add_one, h, List.map_append]
  simp [iv]
theorem small_line {n : Nat} (h : n ≤ 1000000) : n ≤ sizeLine := by
  have : (1000000 : Nat) ≤ sizeLine := by decide
  omega
theorem small_lt {n : Nat} (h : n < 1000000) : n < sizeLine := by
  have : (1000000 : Nat) ≤ sizeLine := by decide
  omega
/-- the comprehension over one row, behind its source -/
theorem lc_row {K : PySem.W.Frag} {H : Hp} {a : Addr} {xs : List Nat} {te : TE} {f : Nat → Nat} {σ : L2.St} {Q : VK} (hT : SqT K H a (iv xs)) (hn : xs.length ≤ 1000)
    (hte : ∀ x ∈ xs, ∀ H' (R : VK), R (.int (f x : Int)) H' → te ((wipe σ [2]).set 2 (some (.int (x : Int)))) H' R) (hw : ∀ v, wipe ((wipe σ [2]).set 2 v) [2] = wipe σ [2])
    (q : ∀ H' p, NewL H H' p (iv (xs.map f)) → Q (.ref p) H') : ∀ D, H D = none → ∃ W : Nat → Nat → Hp → Prop, (∃ m, W 0 m (upd H D (.lst []))) ∧ ∀ i m H, W i m H →
      ((Itt K a).stop i H ∧ Q (.ref D) H) ∨ ((Itt K a).go i H ∧ ∃ Nx : Hp → Prop, (∀ H', Nx H' → ∃ m', m' < m ∧ W (i + 1) m' H') ∧ ∀ x H', (Itt K a).yld i H x H' → gName 2 x (wipe σ [2]) H' fun σ2 H2 => wipe σ2 [2] = wipe σ [2] ∧ tYes σ2 H2 fun b H3 =>
        if b = true then te σ2 H3 fun y H4 => ∃ acc, H4 D = some (.lst acc) ∧ acc.length < sizeLine ∧ Nx (upd H4 D (.lst (acc ++ [y]))) else Nx H3) := by
  intro D hD
  refine lc_tup (K := K) (a := a) (xs := iv xs) (fun i H' => Same H H' ∧ H' D = some (.lst (iv ((xs.take i).map f)))) ⟨same_upd hD, upd_same⟩ (fun i H' _ p => same_tup p.1 hT) ?_ ?_
  · intro i x H' hx p
    obtain ⟨n, hn', rfl⟩ := iv_get hx
    have hm : n ∈ xs := List.mem_of_getElem? hn'
    refine ⟨hw _, ?_⟩
    unfold tYes; dsimp only
    rw [if_pos rfl]
    refine hte n hm H' _ ⟨_, p.2, ?_, ?_, ?_⟩
    · rw [iv_len, List.length_map, List.length_take]
      exact small_lt (by omega)
    · intro b o e
      rw [upd_ne (ne_of_none e hD)]
      exact p.1 b o e
    · rw [upd_same, iv_take_succ f hn']
  · intro H' p
    rw [iv_len] at p
    rw [List.take_length] at p
    exact q _ _ ⟨p.1, hD, p.2⟩
theorem parts_one {K : PySem.W.Frag} {H : Hp} {w n : Nat} {r : Addr} {parts : List (Addr × List Nat)} (hP : Parts K H w n r parts) (hl : parts.length = 1) : ∃ a xs, parts = [(a, xs)] ∧ SqL K H r [.ref a] ∧ SqT K H a (iv xs) ∧ xs.length ≤ 1000 ∧ ∀ x ∈ xs, x < 2 ^ w := by
  match parts, hl, hP with
  | [(a, xs)], _, hP => exact ⟨a, xs, rfl, hP.ls, hP.tp (a, xs) (by simp), by rw [hP.ln (a, xs) (by simp)]; exact hP.nn, hP.lt (a, xs) (by simp)⟩
theorem pow_pos2 (w : Nat) : 0 < 2 ^ w := Nat.pow_pos (by decide)
theorem parts_two {K : PySem.W.Frag} {H : Hp} {w n : Nat} {r : Addr} {parts : List (Addr × List Nat)} (hP : Parts K H w n r parts) (hl : parts.length = 2) : ∃ a xs b ys, parts = [(a, xs), (b, ys)] ∧ SqL K H r [.ref a, .ref b] ∧ SqT K H a (iv xs) ∧ SqT K H b (iv ys) ∧ xs.length ≤ 1000 ∧ ys.length = xs.length ∧ (∀ x ∈ xs, x < 2 ^ w) ∧ ∀ x ∈ ys, x < 2 ^ w := by
  match parts, hl, hP with
  | [(a, xs), (b, ys)], _, hP =>
    have e1 := hP.ln (a, xs) (by simp)
    have e2 := hP.ln (b, ys) (by simp)
    exact ⟨a, xs, b, ys, rfl, hP.ls, hP.tp (a, xs) (by simp), hP.tp (b, ys) (by simp), by rw [e1]; exact hP.nn, by rw [e1, e2], hP.lt (a, xs) (by simp), hP.lt (b, ys) (by simp)⟩
theorem parts_three {K : PySem.W.Frag} {H : Hp} {w n : Nat} {r : Addr} {parts : List (Addr × List Nat)} (hP : Parts K H w n r parts) (hl : parts.length = 3) : ∃ a xs b ys c zs, parts = [(a, xs), (b, ys), (c, zs)] ∧ SqL K H r [.ref a, .ref b, .ref c] ∧ SqT K H a (iv xs) ∧ SqT K H b (iv ys) ∧ SqT K H c (iv zs) ∧ xs.length ≤ 1000 ∧ ys.length = xs.length ∧ zs.length = xs.length := by
  match parts, hl, hP with
  | [(a, xs), (b, ys), (c, zs)], _, hP =>
    have e1 := hP.ln (a, xs) (by simp)
    have e2 := hP.ln (b, ys) (by simp)
    have e3 := hP.ln (c, zs) (by simp)
    exact ⟨a, xs, b, ys, c, zs, rfl, hP.ls, hP.tp (a, xs) (by simp), hP.tp (b, ys) (by simp), hP.tp (c, zs) (by simp), by rw [e1]; exact hP.nn, by rw [e1, e2], by rw [e1, e3]⟩
theorem zip_take_succ {xs ys : List Nat} {i m n : Nat} (f : Nat × Nat → Nat) (h1 : xs[i]? = some m) (h2 : ys[i]? = some n) : iv (((xs.zip ys).take (i + 1)).map f) = iv (((xs.zip ys).take i).map f) ++ [.int (f (m, n) : Int)] := by
  rw [List.take_add_one, (List.getElem?_zip_eq_some (z := (m, n))).mpr ⟨h1, h2⟩, List.map_append]
  simp [iv]
/-- the comprehension over a zip of two rows -/
theorem lc_two {K : PySem.W.Frag} {H : Hp} {a b : Addr} {xs ys : List Nat} {te : TE} {f : Nat × Nat → Nat} {σ : L2.St} {Q : VK} {g : TG} (hT : SqT K H a (iv xs)) (hU : SqT K H b (iv ys)) (hn : xs.length ≤ 1000) (hl : ys.length = xs.length)
    (hg : ∀ (T : Addr) (x y : V) (H' : Hp) (R : L2.St → Hp → Prop), H' T = some (.tup [x, y]) → R (((wipe σ [2, 3]).set 2 (some x)).set 3 (some y)) H' → g (.ref T) (wipe σ [2, 3]) H' R)
    (hte : ∀ x ∈ xs, ∀ y ∈ ys, ∀ H' (R : VK), R (.int (f (x, y) : Int)) H' → te (((wipe σ [2, 3]).set 2 (some (.int (x : Int)))).set 3 (some (.int (y : Int)))) H' R) (hw : ∀ v u, wipe (((wipe σ [2, 3]).set 2 v).set 3 u) [2, 3] = wipe σ [2, 3])
    (q : ∀ H' p, NewL H H' p (iv ((xs.zip ys).map f)) → Q (.ref p) H') : ∀ D, H D = none → ∃ W : Nat → Nat → Hp → Prop, (∃ m, W 0 m (upd H D (.lst []))) ∧ ∀ i m H, W i m H →
      ((RZ.ItzT K a b).stop i H ∧ Q (.ref D) H) ∨ ((RZ.ItzT K a b).go i H ∧ ∃ Nx : Hp → Prop, (∀ H', Nx H' → ∃ m', m' < m ∧ W (i + 1) m' H') ∧ ∀ x H', (RZ.ItzT K a b).yld i H x H' → g x (wipe σ [2, 3]) H' fun σ2 H2 => wipe σ2 [2, 3] = wipe σ [2, 3] ∧ tYes σ2 H2 fun b H3 =>
        if b = true then te σ2 H3 fun y H4 => ∃ acc, H4 D = some (.lst acc) ∧ acc.length < sizeLine ∧ Nx (upd H4 D (.lst (acc ++ [y]))) else Nx H3) := by
  intro D hD
  refine lc_it (walk_zipT2 (K := K) (a := a) (b := b) (xs := iv xs) (ys := iv ys) (by rw [iv_len, iv_len, hl])) (fun i H' => Same H H' ∧ H' D = some (.lst (iv (((xs.zip ys).take i).map f)))) ⟨same_upd hD, upd_same⟩ (fun i H' _ p => ⟨same_tup p.1 hT, same_tup p.1 hU⟩) ?_ ?_
  · rintro i v H' H'' hi p ⟨T, x, y, rfl, nT, rfl, hx, hy⟩
    obtain ⟨m, hm, rfl⟩ := iv_get hx
    obtain ⟨n, hn', rfl⟩ := iv_get hy
    have sT : Same H' (upd H' T (.tup [V.int (m : Int), V.int (n : Int)])) := same_upd nT
    refine hg T _ _ _ _ upd_same ⟨hw _ _, ?_⟩
    unfold tYes; dsimp only
    rw [if_pos rfl]
    refine hte m (List.mem_of_getElem? hm) n (List.mem_of_getElem? hn') _ _ ⟨_, sT _ _ p.2, ?_, ?_, ?_⟩
    · rw [iv_len, List.length_map, List.length_take, List.length_zip]
      exact small_lt (by omega)
    · intro b o e
      rw [upd_ne (ne_of_none e hD)]
      exact sT _ _ (p.1 b o e)
    · rw [upd_same, zip_take_succ f hm hn']
  · intro H' p
    rw [iv_len, List.take_of_length_le (by rw [List.length_zip]; omega)] at p
    exact q _ _ ⟨p.1, hD, p.2⟩
theorem zip3_take_succ {xs ys zs : List Nat} {i l m n : Nat} (f : Nat × Nat × Nat → Nat) (h1 : xs[i]? = some l) (h2 : ys[i]? = some m) (h3 : zs[i]? = some n) : iv (((xs.zip (ys.zip zs)).take (i + 1)).map f) = iv (((xs.zip (ys.zip zs)).take i).map f) ++ [.int (f (l, m, n) : Int)] := by
  rw [List.take_add_one, (List.getElem?_zip_eq_some (z := (l, m, n))).mpr ⟨h1, (List.getElem?_zip_eq_some (z := (m, n))).mpr ⟨h2, h3⟩⟩, List.map_append]
  simp [iv]
theorem lc_three {K : PySem.W.Frag} {H : Hp} {a b c : Addr} {xs ys zs : List Nat} {te : TE} {f : Nat × Nat × Nat → Nat} {σ : L2.St} {Q : VK} {g : TG} (hT : SqT K H a (iv xs)) (hU : SqT K H b (iv ys)) (hV : SqT K H c (iv zs)) (hn : xs.length ≤ 1000) (hl : ys.length = xs.length) (hl2 : zs.length = xs.length)
    (hg : ∀ (T : Addr) (x y z : V) (H' : Hp) (R : L2.St → Hp → Prop), H' T = some (.tup [x, y, z]) → R ((((wipe σ [2, 3, 4]).set 2 (some x)).set 3 (some y)).set 4 (some z)) H' → g (.ref T) (wipe σ [2, 3, 4]) H' R)
    (hte : ∀ (x y z : Nat) (H' : Hp) (R : VK), R (.int (f (x, y, z) : Int)) H' → te ((((wipe σ [2, 3, 4]).set 2 (some (.int (x : Int)))).set 3 (some (.int (y : Int)))).set 4 (some (.int (z : Int)))) H' R) (hw : ∀ v u t, wipe ((((wipe σ [2, 3, 4]).set 2 v).set 3 u).set 4 t) [2, 3, 4] = wipe σ [2, 3, 4])
    (q : ∀ H' p, NewL H H' p (iv ((xs.zip (ys.zip zs)).map f)) → Q (.ref p) H') : ∀ D, H D = none → ∃ W : Nat → Nat → Hp → Prop, (∃ m, W 0 m (upd H D (.lst []))) ∧ ∀ i m H, W i m H →
      ((ItzT3 K a b c).stop i H ∧ Q (.ref D) H) ∨ ((ItzT3 K a b c).go i H ∧ ∃ Nx : Hp → Prop, (∀ H', Nx H' → ∃ m', m' < m ∧ W (i + 1) m' H') ∧ ∀ x H', (ItzT3 K a b c).yld i H x H' → g x (wipe σ [2, 3, 4]) H' fun σ2 H2 => wipe σ2 [2, 3, 4] = wipe σ [2, 3, 4] ∧ tYes σ2 H2 fun b H3 =>
        if b = true then te σ2 H3 fun y H4 => ∃ acc, H4 D = some (.lst acc) ∧ acc.length < sizeLine ∧ Nx (upd H4 D (.lst (acc ++ [y]))) else Nx H3) := by
  intro D hD
  refine lc_it (walk_zipT3 (K := K) (a := a) (b := b) (c := c) (xs := iv xs) (ys := iv ys) (zs := iv zs) (by rw [iv_len, iv_len, hl]) (by rw [iv_len, iv_len, hl2])) (fun i H' => Same H H' ∧ H' D = some (.lst (iv (((xs.zip (ys.zip zs)).take i).map f)))) ⟨same_upd hD, upd_same⟩ (fun i H' _ p => ⟨same_tup p.1 hT, same_tup p.1 hU, same_tup p.1 hV⟩) ?_ ?_
  · rintro i v H' H'' hi p ⟨T, x, y, z, rfl, nT, rfl, hx, hy, hz⟩
    obtain ⟨l, hl', rfl⟩ := iv_get hx
    obtain ⟨m, hm, rfl⟩ := iv_get hy
    obtain ⟨n, hn', rfl⟩ := iv_get hz
    have sT : Same H' (upd H' T (.tup [V.int (l : Int), V.int (m : Int), V.int (n : Int)])) := same_upd nT
    refine hg T _ _ _ _ _ upd_same ⟨hw _ _ _, ?_⟩
    unfold tYes; dsimp only
    rw [if_pos rfl]
    refine hte l m n _ _ ⟨_, sT _ _ p.2, ?_, ?_, ?_⟩
    · rw [iv_len, List.length_map, List.length_take, List.length_zip]
      exact small_lt (by omega)
    · intro b o e
      rw [upd_ne (ne_of_none e hD)]
      exact sT _ _ (p.1 b o e)
    · rw [upd_same, zip3_take_succ f hl' hm hn']
  · intro H' p
    rw [iv_len, List.take_of_length_le (by rw [List.length_zip, List.length_zip]; omega)] at p
    exact q _ _ ⟨p.1, hD, p.2⟩
end LT
set_option Elab.async false
set_option maxRecDepth 100000
set_option maxHeartbeats 2000000
set_option linter.unusedSimpArgs false
set_option linter.unusedVariables false
namespace LT
open PySem PySem.Spec PyProof.Rows L2
/-! ### the twelve makers -/
theorem bits_and0 : ∀ w < 5, ∀ x < (16 : Nat), ∀ y < (16 : Nat), x < 2 ^ w → y < 2 ^ w → Builtin.bitAnd (x : Int) (y : Int) = ((Sm08.two_ w 4 x y : Nat) : Int) := by decide +kernel
theorem bits_or0 : ∀ w < 5, ∀ x < (16 : Nat), ∀ y < (16 : Nat), x < 2 ^ w → y < 2 ^ w → Builtin.bitOr (x : Int) (y : Int) = ((Sm08.two_ w 5 x y : Nat) : Int) := by decide +kernel
theorem bits_xor0 : ∀ w < 5, ∀ x < (16 : Nat), ∀ y < (16 : Nat), x < 2 ^ w → y < 2 ^ w → Builtin.bitXor (x : Int) (y : Int) = ((Sm08.two_ w 6 x y : Nat) : Int) := by decide +kernel
theorem pow16 {w : Nat} (hw : w ≤ 4) : 2 ^ w ≤ 16 := by
  have := Nat.pow_le_pow_right (n := 2) (by decide) hw
  simpa using this
theorem bits_and (w : Nat) (hw : w ≤ 4) (x y : Nat) (hx : x < 2 ^ w) (hy : y < 2 ^ w) : Builtin.bitAnd (x : Int) (y : Int) = ((Sm08.two_ w 4 x y : Nat) : Int) := bits_and0 w (by omega) x (by have := pow16 hw; omega) y (by have := pow16 hw; omega) hx hy
theorem bits_or (w : Nat) (hw : w ≤ 4) (x y : Nat) (hx : x < 2 ^ w) (hy : y < 2 ^ w) : Builtin.bitOr (x : Int) (y : Int) = ((Sm08.two_ w 5 x y : Nat) : Int) := bits_or0 w (by omega) x (by have := pow16 hw; omega) y (by have := pow16 hw; omega) hx hy
theorem bits_xor (w : Nat) (hw : w ≤ 4) (x y : Nat) (hx : x < 2 ^ w) (hy : y < 2 ^ w) : Builtin.bitXor (x : Int) (y : Int) = ((Sm08.two_ w 6 x y : Nat) : Int) := bits_xor0 w (by omega) x (by have := pow16 hw; omega) y (by have := pow16 hw; omega) hx hy
section
variable {P : Program} {wd : World} {K : PySem.W.Frag} {mg : Str → Option Value} {base : Heap}
abbrev sInvert : Stmt := top 1
theorem scInvert : FnScope ["size", "rows", "a"] ["size", "rows"] (defScope sInvert) := ⟨rfl, rfl, rfl, by decide +kernel, rfl, by decide +kernel, by decide +kernel⟩
theorem ok_invert {f : Addr} {fd : FuncData} {k : Nat} (F : Fun K "invert" "invert" sInvert f fd) : FnOk P wd K mg base CX0 (k + 1) f fd ["size", "rows"] (spMake K 0) := by
  refine F.ok scInvert (fun vs H Q E h => ?_) (fun cdv A outer s H vs Q E hr h => ?_)
  · obtain ⟨w, n, r, parts, rfl, _⟩ := h
    rfl
  · obtain ⟨w, n, r, parts, rfl, hP, hl, q⟩ := h
    obtain ⟨a, xs, rfl, hL, hT, hn, hlt⟩ := parts_one hP hl
    have hp : (0 : Int) < ((2 ^ w : Nat) : Int) := by have := pow_pos2 w; omega
    refine ⟨_, pss_one (ps_ret (pe_lc (own := [("a", 2)]) (g := gName 2) (tt := tYes) rfl scInvert.nd (pi_tup (pe_ix ix_list (pv 1) pe_int (fun _ _ => rfl))) (blkOk_by (N := ["size", "rows", "a"]) (sc := defScope sInvert) (by decide +kernel))
      (fun _ _ _ _ _ => pg_name (i := 2) scInvert.nd rfl (Or.inl rfl)) (fun _ _ _ _ _ => pts_nil) (fun _ _ _ _ _ => pe_op op_sub (pe_op op_sub (pv 0) pe_int) (pv 2)))), ?_⟩
    refine ⟨_, rfl, r, _, 0, .ref a, rfl, rfl, hL, rfl, a, rfl, ⟨_, hT⟩, ?_⟩
    refine lc_row (f := Sm08.one_ w 0) hT hn (fun x hx H' R hR => ?_) (fun v => rfl) q
    have hx' := hlt x hx
    refine ⟨_, rfl, _, _, rfl, rfl, _, rfl, _, _, rfl, rfl, ?_⟩
    have e : ((2 ^ w : Nat) : Int) - 1 - (x : Int) = ((Sm08.one_ w 0 x : Nat) : Int) := by
      simp only [Sm08.one_, if_true]; omega
    exact (congrArg (fun z => R (.int z) H') e).mpr hR
abbrev sNegate : Stmt := top 2
theorem scNegate : FnScope ["size", "rows", "a"] ["size", "rows"] (defScope sNegate) := ⟨rfl, rfl, rfl, by decide +kernel, rfl, by decide +kernel, by decide +kernel⟩
theorem ok_negate {f : Addr} {fd : FuncData} {k : Nat} (F : Fun K "negate" "negate" sNegate f fd) : FnOk P wd K mg base CX0 (k + 1) f fd ["size", "rows"] (spMake K 1) := by
  refine F.ok scNegate (fun vs H Q E h => ?_) (fun cdv A outer s H vs Q E hr h => ?_)
  · obtain ⟨w, n, r, parts, rfl, _⟩ := h
    rfl
  · obtain ⟨w, n, r, parts, rfl, hP, hl, q⟩ := h
    obtain ⟨a, xs, rfl, hL, hT, hn, hlt⟩ := parts_one hP hl
    have hp : (0 : Int) < ((2 ^ w : Nat) : Int) := by have := pow_pos2 w; omega
    refine ⟨_, pss_one (ps_ret (pe_lc (own := [("a", 2)]) (g := gName 2) (tt := tYes) rfl scNegate.nd (pi_tup (pe_ix ix_list (pv 1) pe_int (fun _ _ => rfl))) (blkOk_by (N := ["size", "rows", "a"]) (sc := defScope sNegate) (by decide +kernel))
      (fun _ _ _ _ _ => pg_name (i := 2) scNegate.nd rfl (Or.inl rfl)) (fun _ _ _ _ _ => pts_nil) (fun _ _ _ _ _ => pe_op op_mod (pe_op op_sub (pv 0) (pv 2)) (pv 0)))), ?_⟩
    refine ⟨_, rfl, r, _, 0, .ref a, rfl, rfl, hL, rfl, a, rfl, ⟨_, hT⟩, ?_⟩
    refine lc_row (f := Sm08.one_ w 1) hT hn (fun x hx H' R hR => ?_) (fun v => rfl) q
    have hx' := hlt x hx
    refine ⟨_, rfl, _, rfl, _, _, rfl, rfl, _, rfl, _, _, rfl, rfl, hp, ?_⟩
    have e : (((2 ^ w : Nat) : Int) - (x : Int)) % ((2 ^ w : Nat) : Int) = ((Sm08.one_ w 1 x : Nat) : Int) := by
      have e2 : ((2 ^ w : Nat) : Int) - (x : Int) = ((2 ^ w - x : Nat) : Int) := by omega
      rw [e2]; simp [Sm08.one_]
    exact (congrArg (fun z => R (.int z) H') e).mpr hR
abbrev sDouble : Stmt := top 3
theorem scDouble : FnScope ["size", "rows", "a"] ["size", "rows"] (defScope sDouble) := ⟨rfl, rfl, rfl, by decide +kernel, rfl, by decide +kernel, by decide +kernel⟩
theorem ok_double {f : Addr} {fd : FuncData} {k : Nat} (F : Fun K "double" "double" sDouble f fd) : FnOk P wd K mg base CX0 (k + 1) f fd ["size", "rows"] (spMake K 2) := by
  refine F.ok scDouble (fun vs H Q E h => ?_) (fun cdv A outer s H vs Q E hr h => ?_)
  · obtain ⟨w, n, r, parts, rfl, _⟩ := h
    rfl
  · obtain ⟨w, n, r, parts, rfl, hP, hl, q⟩ := h
    obtain ⟨a, xs, rfl, hL, hT, hn, hlt⟩ := parts_one hP hl
    have hp : (0 : Int) < ((2 ^ w : Nat) : Int) := by have := pow_pos2 w; omega
    refine ⟨_, pss_one (ps_ret (pe_lc (own := [("a", 2)]) (g := gName 2) (tt := tYes) rfl scDouble.nd (pi_tup (pe_ix ix_list (pv 1) pe_int (fun _ _ => rfl))) (blkOk_by (N := ["size", "rows", "a"]) (sc := defScope sDouble) (by decide +kernel))
      (fun _ _ _ _ _ => pg_name (i := 2) scDouble.nd rfl (Or.inl rfl)) (fun _ _ _ _ _ => pts_nil) (fun _ _ _ _ _ => pe_op op_mod (pe_op op_mul pe_int (pv 2)) (pv 0)))), ?_⟩
    refine ⟨_, rfl, r, _, 0, .ref a, rfl, rfl, hL, rfl, a, rfl, ⟨_, hT⟩, ?_⟩
    refine lc_row (f := Sm08.one_ w 2) hT hn (fun x hx H' R hR => ?_) (fun v => rfl) q
    have hx' := hlt x hx
    refine ⟨_, rfl, _, _, rfl, rfl, .inl ⟨by decide, by decide⟩, _, rfl, _, _, rfl, rfl, hp, ?_⟩
    have e : (2 * (x : Int)) % ((2 ^ w : Nat) : Int) = ((Sm08.one_ w 2 x : Nat) : Int) := by
      simp [Sm08.one_]
    exact (congrArg (fun z => R (.int z) H') e).mpr hR
abbrev sHalve : Stmt := top 4
theorem scHalve : FnScope ["size", "rows", "a"] ["size", "rows"] (defScope sHalve) := ⟨rfl, rfl, rfl, by decide +kernel, rfl, by decide +kernel, by decide +kernel⟩
theorem ok_halve {f : Addr} {fd : FuncData} {k : Nat} (F : Fun K "halve" "halve" sHalve f fd) : FnOk P wd K mg base CX0 (k + 1) f fd ["size", "rows"] (spMake K 3) := by
  refine F.ok scHalve (fun vs H Q E h => ?_) (fun cdv A outer s H vs Q E hr h => ?_)
  · obtain ⟨w, n, r, parts, rfl, _⟩ := h
    rfl
  · obtain ⟨w, n, r, parts, rfl, hP, hl, q⟩ := h
    obtain ⟨a, xs, rfl, hL, hT, hn, hlt⟩ := parts_one hP hl
    have hp : (0 : Int) < ((2 ^ w : Nat) : Int) := by have := pow_pos2 w; omega
    refine ⟨_, pss_one (ps_ret (pe_lc (own := [("a", 2)]) (g := gName 2) (tt := tYes) rfl scHalve.nd (pi_tup (pe_ix ix_list (pv 1) pe_int (fun _ _ => rfl))) (blkOk_by (N := ["size", "rows", "a"]) (sc := defScope sHalve) (by decide +kernel))
      (fun _ _ _ _ _ => pg_name (i := 2) scHalve.nd rfl (Or.inl rfl)) (fun _ _ _ _ _ => pts_nil) (fun _ _ _ _ _ => pe_op op_fdiv (pv 2) pe_int))), ?_⟩
    refine ⟨_, rfl, r, _, 0, .ref a, rfl, rfl, hL, rfl, a, rfl, ⟨_, hT⟩, ?_⟩
    refine lc_row (f := Sm08.one_ w 3) hT hn (fun x hx H' R hR => ?_) (fun v => rfl) q
    have hx' := hlt x hx
    refine ⟨_, rfl, _, _, rfl, rfl, ⟨by decide, by decide⟩, ?_⟩
    have e : (x : Int) / 2 = ((Sm08.one_ w 3 x : Nat) : Int) := by
      simp [Sm08.one_]
    exact (congrArg (fun z => R (.int z) H') e).mpr hR
abbrev sConjoin : Stmt := top 5
theorem scConjoin : FnScope ["size", "rows", "a", "b"] ["size", "rows"] (defScope sConjoin) := ⟨rfl, rfl, rfl, by decide +kernel, rfl, by decide +kernel, by decide +kernel⟩
theorem ok_conjoin {f : Addr} {fd : FuncData} {k : Nat} (F : Fun K "conjoin" "conjoin" sConjoin f fd) (mz : mg "zip" = none) : FnOk P wd K mg base CX0 (k + 1) f fd ["size", "rows"] (spMake K 4) := by
  refine F.ok scConjoin (fun vs H Q E h => ?_) (fun cdv A outer s H vs Q E hr h => ?_)
  · obtain ⟨w, n, r, parts, rfl, _⟩ := h
    rfl
  · obtain ⟨w, n, r, parts, rfl, hP, hl, q⟩ := h
    have hw := hP.hw
    obtain ⟨a, xs, b, ys, rfl, hL, hT, hU, hn, hly, hlt, hlt2⟩ := parts_two hP hl
    have hp : (0 : Int) < ((2 ^ w : Nat) : Int) := by have := pow_pos2 w; omega
    have p16 := pow16 hw
    refine ⟨_, pss_one (ps_ret (pe_lc (own := [("a", 2), ("b", 3)]) (g := gTup K 2 (gCons (gName 2) (gCons (gName 3) gNil))) (tt := tYes) rfl scConjoin.nd (RZ.pi_zipA (by rfl) mz (pa_cons (pe_ix ix_list (pv 1) pe_int (fun _ _ => rfl)) (pa_cons (pe_ix ix_list (pv 1) pe_int (fun _ _ => rfl)) pa_nil))) (blkOk_by (N := ["size", "rows", "a", "b"]) (sc := defScope sConjoin) (by decide +kernel))
      (fun _ _ _ _ _ => pg_tup rfl (pgs_cons (pg_name (i := 2) scConjoin.nd rfl (Or.inl rfl)) (pgs_cons (pg_name (i := 3) scConjoin.nd rfl (Or.inl rfl)) pgs_nil))) (fun _ _ _ _ _ => pts_nil) (fun _ _ _ _ _ => pe_op op_and (pv 2) (pv 3)))), ?_⟩
    refine ⟨_, rfl, r, _, 0, .ref a, rfl, rfl, hL, rfl, _, rfl, r, _, 1, .ref b, rfl, rfl, hL, rfl, a, b, _, _, rfl, .inr ⟨hT, hU, ?_⟩⟩
    refine lc_two (f := fun y => Sm08.two_ w 4 y.1 y.2) hT hU hn hly (fun T x y H' R hR hr => ⟨T, _, rfl, SqT.new hR, rfl, x, [y], rfl, y, [], rfl, rfl, hr⟩) (fun x hx y hy H' R hR => ?_) (fun v u => rfl) q
    have hx' := hlt x hx
    have hy' := hlt2 y hy
    refine ⟨_, rfl, _, rfl, _, _, rfl, rfl, ?_⟩
    have e : Builtin.bitAnd (x : Int) (y : Int) = ((Sm08.two_ w 4 x y : Nat) : Int) := by
      exact bits_and w hw x y hx' hy'
    exact (congrArg (fun z => R (.int z) H') e).mpr hR
abbrev sDisjoin : Stmt := top 6
theorem scDisjoin : FnScope ["size", "rows", "a", "b"] ["size", "rows"] (defScope sDisjoin) := ⟨rfl, rfl, rfl, by decide +kernel, rfl, by decide +kernel, by decide +kernel⟩
theorem ok_disjoin {f : Addr} {fd : FuncData} {k : Nat} (F : Fun K "disjoin" "disjoin" sDisjoin f fd) (mz : mg "zip" = none) : FnOk P wd K mg base CX0 (k + 1) f fd ["size", "rows"] (spMake K 5) := by
  refine F.ok scDisjoin (fun vs H Q E h => ?_) (fun cdv A outer s H vs Q E hr h => ?_)
  · obtain ⟨w, n, r, parts, rfl, _⟩ := h
    rfl
  · obtain ⟨w, n, r, parts, rfl, hP, hl, q⟩ := h
    have hw := hP.hw
    obtain ⟨a, xs, b, ys, rfl, hL, hT, hU, hn, hly, hlt, hlt2⟩ := parts_two hP hl
    have hp : (0 : Int) < ((2 ^ w : Nat) : Int) := by have := pow_pos2 w; omega
    have p16 := pow16 hw
    refine ⟨_, pss_one (ps_ret (pe_lc (own := [("a", 2), ("b", 3)]) (g := gTup K 2 (gCons (gName 2) (gCons (gName 3) gNil))) (tt := tYes) rfl scDisjoin.nd (RZ.pi_zipA (by rfl) mz (pa_cons (pe_ix ix_list (pv 1) pe_int (fun _ _ => rfl)) (pa_cons (pe_ix ix_list (pv 1) pe_int (fun _ _ => rfl)) pa_nil))) (blkOk_by (N := ["size", "rows", "a", "b"]) (sc := defScope sDisjoin) (by decide +kernel))
      (fun _ _ _ _ _ => pg_tup rfl (pgs_cons (pg_name (i := 2) scDisjoin.nd rfl (Or.inl rfl)) (pgs_cons (pg_name (i := 3) scDisjoin.nd rfl (Or.inl rfl)) pgs_nil))) (fun _ _ _ _ _ => pts_nil) (fun _ _ _ _ _ => pe_op op_or (pv 2) (pv 3)))), ?_⟩
    refine ⟨_, rfl, r, _, 0, .ref a, rfl, rfl, hL, rfl, _, rfl, r, _, 1, .ref b, rfl, rfl, hL, rfl, a, b, _, _, rfl, .inr ⟨hT, hU, ?_⟩⟩
    refine lc_two (f := fun y => Sm08.two_ w 5 y.1 y.2) hT hU hn hly (fun T x y H' R hR hr => ⟨T, _, rfl, SqT.new hR, rfl, x, [y], rfl, y, [], rfl, rfl, hr⟩) (fun x hx y hy H' R hR => ?_) (fun v u => rfl) q
    have hx' := hlt x hx
    have hy' := hlt2 y hy
    refine ⟨_, rfl, _, rfl, _, _, rfl, rfl, ?_⟩
    have e : Builtin.bitOr (x : Int) (y : Int) = ((Sm08.two_ w 5 x y : Nat) : Int) := by
      exact bits_or w hw x y hx' hy'
    exact (congrArg (fun z => R (.int z) H') e).mpr hR
abbrev sDiffer : Stmt := top 7
theorem scDiffer : FnScope ["size", "rows", "a", "b"] ["size", "rows"] (defScope sDiffer) := ⟨rfl, rfl, rfl, by decide +kernel, rfl, by decide +kernel, by decide +kernel⟩
theorem ok_differ {f : Addr} {fd : FuncData} {k : Nat} (F : Fun K "differ" "differ" sDiffer f fd) (mz : mg "zip" = none) : FnOk P wd K mg base CX0 (k + 1) f fd ["size", "rows"] (spMake K 6) := by
  refine F.ok scDiffer (fun vs H Q E h => ?_) (fun cdv A outer s H vs Q E hr h => ?_)
  · obtain ⟨w, n, r, parts, rfl, _⟩ := h
    rfl
  · obtain ⟨w, n, r, parts, rfl, hP, hl, q⟩ := h
    have hw := hP.hw
    obtain ⟨a, xs, b, ys, rfl, hL, hT, hU, hn, hly, hlt, hlt2⟩ := parts_two hP hl
    have hp : (0 : Int) < ((2 ^ w : Nat) : Int) := by have := pow_pos2 w; omega
    have p16 := pow16 hw
    refine ⟨_, pss_one (ps_ret (pe_lc (own := [("a", 2), ("b", 3)]) (g := gTup K 2 (gCons (gName 2) (gCons (gName 3) gNil))) (tt := tYes) rfl scDiffer.nd (RZ.pi_zipA (by rfl) mz (pa_cons (pe_ix ix_list (pv 1) pe_int (fun _ _ => rfl)) (pa_cons (pe_ix ix_list (pv 1) pe_int (fun _ _ => rfl)) pa_nil))) (blkOk_by (N := ["size", "rows", "a", "b"]) (sc := defScope sDiffer) (by decide +kernel))
      (fun _ _ _ _ _ => pg_tup rfl (pgs_cons (pg_name (i := 2) scDiffer.nd rfl (Or.inl rfl)) (pgs_cons (pg_name (i := 3) scDiffer.nd rfl (Or.inl rfl)) pgs_nil))) (fun _ _ _ _ _ => pts_nil) (fun _ _ _ _ _ => pe_op op_xor (pv 2) (pv 3)))), ?_⟩
    refine ⟨_, rfl, r, _, 0, .ref a, rfl, rfl, hL, rfl, _, rfl, r, _, 1, .ref b, rfl, rfl, hL, rfl, a, b, _, _, rfl, .inr ⟨hT, hU, ?_⟩⟩
    refine lc_two (f := fun y => Sm08.two_ w 6 y.1 y.2) hT hU hn hly (fun T x y H' R hR hr => ⟨T, _, rfl, SqT.new hR, rfl, x, [y], rfl, y, [], rfl, rfl, hr⟩) (fun x hx y hy H' R hR => ?_) (fun v u => rfl) q
    have hx' := hlt x hx
    have hy' := hlt2 y hy
    refine ⟨_, rfl, _, rfl, _, _, rfl, rfl, ?_⟩
    have e : Builtin.bitXor (x : Int) (y : Int) = ((Sm08.two_ w 6 x y : Nat) : Int) := by
      exact bits_xor w hw x y hx' hy'
    exact (congrArg (fun z => R (.int z) H') e).mpr hR
abbrev sAdd : Stmt := top 8
theorem scAdd : FnScope ["size", "rows", "a", "b"] ["size", "rows"] (defScope sAdd) := ⟨rfl, rfl, rfl, by decide +kernel, rfl, by decide +kernel, by decide +kernel⟩
theorem ok_add {f : Addr} {fd : FuncData} {k : Nat} (F : Fun K "add" "add" sAdd f fd) (mz : mg "zip" = none) : FnOk P wd K mg base CX0 (k + 1) f fd ["size", "rows"] (spMake K 7) := by
  refine F.ok scAdd (fun vs H Q E h => ?_) (fun cdv A outer s H vs Q E hr h => ?_)
  · obtain ⟨w, n, r, parts, rfl, _⟩ := h
    rfl
  · obtain ⟨w, n, r, parts, rfl, hP, hl, q⟩ := h
    have hw := hP.hw
    obtain ⟨a, xs, b, ys, rfl, hL, hT, hU, hn, hly, hlt, hlt2⟩ := parts_two hP hl
    have hp : (0 : Int) < ((2 ^ w : Nat) : Int) := by have := pow_pos2 w; omega
    have p16 := pow16 hw
    refine ⟨_, pss_one (ps_ret (pe_lc (own := [("a", 2), ("b", 3)]) (g := gTup K 2 (gCons (gName 2) (gCons (gName 3) gNil))) (tt := tYes) rfl scAdd.nd (RZ.pi_zipA (by rfl) mz (pa_cons (pe_ix ix_list (pv 1) pe_int (fun _ _ => rfl)) (pa_cons (pe_ix ix_list (pv 1) pe_int (fun _ _ => rfl)) pa_nil))) (blkOk_by (N := ["size", "rows", "a", "b"]) (sc := defScope sAdd) (by decide +kernel))
      (fun _ _ _ _ _ => pg_tup rfl (pgs_cons (pg_name (i := 2) scAdd.nd rfl (Or.inl rfl)) (pgs_cons (pg_name (i := 3) scAdd.nd rfl (Or.inl rfl)) pgs_nil))) (fun _ _ _ _ _ => pts_nil) (fun _ _ _ _ _ => pe_op op_mod (pe_op op_add (pv 2) (pv 3)) (pv 0)))), ?_⟩
    refine ⟨_, rfl, r, _, 0, .ref a, rfl, rfl, hL, rfl, _, rfl, r, _, 1, .ref b, rfl, rfl, hL, rfl, a, b, _, _, rfl, .inr ⟨hT, hU, ?_⟩⟩
    refine lc_two (f := fun y => Sm08.two_ w 7 y.1 y.2) hT hU hn hly (fun T x y H' R hR hr => ⟨T, _, rfl, SqT.new hR, rfl, x, [y], rfl, y, [], rfl, rfl, hr⟩) (fun x hx y hy H' R hR => ?_) (fun v u => rfl) q
    have hx' := hlt x hx
    have hy' := hlt2 y hy
    refine ⟨_, rfl, _, rfl, _, _, rfl, rfl, _, rfl, _, _, rfl, rfl, hp, ?_⟩
    have e : ((x : Int) + (y : Int)) % ((2 ^ w : Nat) : Int) = ((Sm08.two_ w 7 x y : Nat) : Int) := by
      simp [Sm08.two_]
    exact (congrArg (fun z => R (.int z) H') e).mpr hR
abbrev sSubtract : Stmt := top 9
theorem scSubtract : FnScope ["size", "rows", "a", "b"] ["size", "rows"] (defScope sSubtract) := ⟨rfl, rfl, rfl, by decide +kernel, rfl, by decide +kernel, by decide +kernel⟩
theorem ok_subtract {f : Addr} {fd : FuncData} {k : Nat} (F : Fun K "subtract" "subtract" sSubtract f fd) (mz : mg "zip" = none) : FnOk P wd K mg base CX0 (k + 1) f fd ["size", "rows"] (spMake K 8) := by
  refine F.ok scSubtract (fun vs H Q E h => ?_) (fun cdv A outer s H vs Q E hr h => ?_)
  · obtain ⟨w, n, r, parts, rfl, _⟩ := h
    rfl
  · obtain ⟨w, n, r, parts, rfl, hP, hl, q⟩ := h
    have hw := hP.hw
    obtain ⟨a, xs, b, ys, rfl, hL, hT, hU, hn, hly, hlt, hlt2⟩ := parts_two hP hl
    have hp : (0 : Int) < ((2 ^ w : Nat) : Int) := by have := pow_pos2 w; omega
    have p16 := pow16 hw
    refine ⟨_, pss_one (ps_ret (pe_lc (own := [("a", 2), ("b", 3)]) (g := gTup K 2 (gCons (gName 2) (gCons (gName 3) gNil))) (tt := tYes) rfl scSubtract.nd (RZ.pi_zipA (by rfl) mz (pa_cons (pe_ix ix_list (pv 1) pe_int (fun _ _ => rfl)) (pa_cons (pe_ix ix_list (pv 1) pe_int (fun _ _ => rfl)) pa_nil))) (blkOk_by (N := ["size", "rows", "a", "b"]) (sc := defScope sSubtract) (by decide +kernel))
      (fun _ _ _ _ _ => pg_tup rfl (pgs_cons (pg_name (i := 2) scSubtract.nd rfl (Or.inl rfl)) (pgs_cons (pg_name (i := 3) scSubtract.nd rfl (Or.inl rfl)) pgs_nil))) (fun _ _ _ _ _ => pts_nil) (fun _ _ _ _ _ => pe_op op_mod (pe_op op_sub (pv 2) (pv 3)) (pv 0)))), ?_⟩
    refine ⟨_, rfl, r, _, 0, .ref a, rfl, rfl, hL, rfl, _, rfl, r, _, 1, .ref b, rfl, rfl, hL, rfl, a, b, _, _, rfl, .inr ⟨hT, hU, ?_⟩⟩
    refine lc_two (f := fun y => Sm08.two_ w 8 y.1 y.2) hT hU hn hly (fun T x y H' R hR hr => ⟨T, _, rfl, SqT.new hR, rfl, x, [y], rfl, y, [], rfl, rfl, hr⟩) (fun x hx y hy H' R hR => ?_) (fun v u => rfl) q
    have hx' := hlt x hx
    have hy' := hlt2 y hy
    refine ⟨_, rfl, _, rfl, _, _, rfl, rfl, _, rfl, _, _, rfl, rfl, hp, ?_⟩
    have e : ((x : Int) - (y : Int)) % ((2 ^ w : Nat) : Int) = ((Sm08.two_ w 8 x y : Nat) : Int) := by
      have e2 : ((x + 2 ^ w - y : Nat) : Int) = (x : Int) - (y : Int) + ((2 ^ w : Nat) : Int) := by omega
      have e3 : ((x + 2 ^ w - y : Nat) : Int) % ((2 ^ w : Nat) : Int) = ((x : Int) - (y : Int)) % ((2 ^ w : Nat) : Int) := by rw [e2, Int.add_emod_right]
      rw [← e3]; simp [Sm08.two_]
    exact (congrArg (fun z => R (.int z) H') e).mpr hR
abbrev sMultiply : Stmt := top 10
theorem scMultiply : FnScope ["size", "rows", "a", "b"] ["size", "rows"] (defScope sMultiply) := ⟨rfl, rfl, rfl, by decide +kernel, rfl, by decide +kernel, by decide +kernel⟩
theorem ok_multiply {f : Addr} {fd : FuncData} {k : Nat} (F : Fun K "multiply" "multiply" sMultiply f fd) (mz : mg "zip" = none) : FnOk P wd K mg base CX0 (k + 1) f fd ["size", "rows"] (spMake K 9) := by
  refine F.ok scMultiply (fun vs H Q E h => ?_) (fun cdv A outer s H vs Q E hr h => ?_)
  · obtain ⟨w, n, r, parts, rfl, _⟩ := h
    rfl
  · obtain ⟨w, n, r, parts, rfl, hP, hl, q⟩ := h
    have hw := hP.hw
    obtain ⟨a, xs, b, ys, rfl, hL, hT, hU, hn, hly, hlt, hlt2⟩ := parts_two hP hl
    have hp : (0 : Int) < ((2 ^ w : Nat) : Int) := by have := pow_pos2 w; omega
    have p16 := pow16 hw
    refine ⟨_, pss_one (ps_ret (pe_lc (own := [("a", 2), ("b", 3)]) (g := gTup K 2 (gCons (gName 2) (gCons (gName 3) gNil))) (tt := tYes) rfl scMultiply.nd (RZ.pi_zipA (by rfl) mz (pa_cons (pe_ix ix_list (pv 1) pe_int (fun _ _ => rfl)) (pa_cons (pe_ix ix_list (pv 1) pe_int (fun _ _ => rfl)) pa_nil))) (blkOk_by (N := ["size", "rows", "a", "b"]) (sc := defScope sMultiply) (by decide +kernel))
      (fun _ _ _ _ _ => pg_tup rfl (pgs_cons (pg_name (i := 2) scMultiply.nd rfl (Or.inl rfl)) (pgs_cons (pg_name (i := 3) scMultiply.nd rfl (Or.inl rfl)) pgs_nil))) (fun _ _ _ _ _ => pts_nil) (fun _ _ _ _ _ => pe_op op_mod (pe_op op_mul (pv 2) (pv 3)) (pv 0)))), ?_⟩
    refine ⟨_, rfl, r, _, 0, .ref a, rfl, rfl, hL, rfl, _, rfl, r, _, 1, .ref b, rfl, rfl, hL, rfl, a, b, _, _, rfl, .inr ⟨hT, hU, ?_⟩⟩
    refine lc_two (f := fun y => Sm08.two_ w 9 y.1 y.2) hT hU hn hly (fun T x y H' R hR hr => ⟨T, _, rfl, SqT.new hR, rfl, x, [y], rfl, y, [], rfl, rfl, hr⟩) (fun x hx y hy H' R hR => ?_) (fun v u => rfl) q
    have hx' := hlt x hx
    have hy' := hlt2 y hy
    refine ⟨_, rfl, _, rfl, _, _, rfl, rfl, .inl ⟨by omega, by omega⟩, _, rfl, _, _, rfl, rfl, hp, ?_⟩
    have e : ((x : Int) * (y : Int)) % ((2 ^ w : Nat) : Int) = ((Sm08.two_ w 9 x y : Nat) : Int) := by
      simp [Sm08.two_]
    exact (congrArg (fun z => R (.int z) H') e).mpr hR
abbrev sLess : Stmt := top 11
theorem scLess : FnScope ["size", "rows", "a", "b"] ["size", "rows"] (defScope sLess) := ⟨rfl, rfl, rfl, by decide +kernel, rfl, by decide +kernel, by decide +kernel⟩
theorem ok_less {f : Addr} {fd : FuncData} {k : Nat} (F : Fun K "less" "less" sLess f fd) (mz : mg "zip" = none) : FnOk P wd K mg base CX0 (k + 1) f fd ["size", "rows"] (spMake K 10) := by
  refine F.ok scLess (fun vs H Q E h => ?_) (fun cdv A outer s H vs Q E hr h => ?_)
  · obtain ⟨w, n, r, parts, rfl, _⟩ := h
    rfl
  · obtain ⟨w, n, r, parts, rfl, hP, hl, q⟩ := h
    obtain ⟨a, xs, b, ys, rfl, hL, hT, hU, hn, hly, hlt, hlt2⟩ := parts_two hP hl
    refine ⟨_, pss_one (ps_ret (pe_lc (own := [("a", 2), ("b", 3)]) (g := gTup K 2 (gCons (gName 2) (gCons (gName 3) gNil))) (tt := tYes) rfl scLess.nd (RZ.pi_zipA (by rfl) mz (pa_cons (pe_ix ix_list (pv 1) pe_int (fun _ _ => rfl)) (pa_cons (pe_ix ix_list (pv 1) pe_int (fun _ _ => rfl)) pa_nil))) (blkOk_by (N := ["size", "rows", "a", "b"]) (sc := defScope sLess) (by decide +kernel))
      (fun _ _ _ _ _ => pg_tup rfl (pgs_cons (pg_name (i := 2) scLess.nd rfl (Or.inl rfl)) (pgs_cons (pg_name (i := 3) scLess.nd rfl (Or.inl rfl)) pgs_nil))) (fun _ _ _ _ _ => pts_nil) (fun _ _ _ _ _ => pe_ifExp (pt_cmpR op_lt (pv 2) (pv 3) (nomark _)) pe_int pe_int))), ?_⟩
    refine ⟨_, rfl, r, _, 0, .ref a, rfl, rfl, hL, rfl, _, rfl, r, _, 1, .ref b, rfl, rfl, hL, rfl, a, b, _, _, rfl, .inr ⟨hT, hU, ?_⟩⟩
    refine lc_two (f := fun y => Sm08.two_ w 10 y.1 y.2) hT hU hn hly (fun T x y H' R hR hr => ⟨T, _, rfl, SqT.new hR, rfl, x, [y], rfl, y, [], rfl, rfl, hr⟩) (fun x hx y hy H' R hR => ?_) (fun v u => rfl) q
    refine ⟨_, rfl, _, rfl, _, _, rfl, rfl, _, rfl, ?_⟩
    have e : Sm08.two_ w 10 x y = if x < y then 1 else 0 := by simp [Sm08.two_]
    dsimp only at hR
    rw [e] at hR
    by_cases c : x < y
    · rw [if_pos c] at hR
      dsimp only
      rw [if_pos (decide_eq_true (by omega))]
      exact hR
    · rw [if_neg c] at hR
      dsimp only
      rw [if_neg (by simpa using c)]
      exact hR
abbrev sPick : Stmt := top 12
theorem scPick : FnScope ["size", "rows", "a", "b", "c"] ["size", "rows"] (defScope sPick) := ⟨rfl, rfl, rfl, by decide +kernel, rfl, by decide +kernel, by decide +kernel⟩
theorem ok_pick {f : Addr} {fd : FuncData} {k : Nat} (F : Fun K "pick" "pick" sPick f fd) (mz : mg "zip" = none) : FnOk P wd K mg base CX0 (k + 1) f fd ["size", "rows"] (spMake K 11) := by
  refine F.ok scPick (fun vs H Q E h => ?_) (fun cdv A outer s H vs Q E hr h => ?_)
  · obtain ⟨w, n, r, parts, rfl, _⟩ := h
    rfl
  · obtain ⟨w, n, r, parts, rfl, hP, hl, q⟩ := h
    obtain ⟨a, xs, b, ys, c, zs, rfl, hL, hT, hU, hV, hn, hly, hlz⟩ := parts_three hP hl
    refine ⟨_, pss_one (ps_ret (pe_lc (own := [("a", 2), ("b", 3), ("c", 4)]) (g := gTup K 3 (gCons (gName 2) (gCons (gName 3) (gCons (gName 4) gNil)))) (tt := tYes) rfl scPick.nd (pi_zipT3 (by rfl) mz (pa_cons (pe_ix ix_list (pv 1) pe_int (fun _ _ => rfl)) (pa_cons (pe_ix ix_list (pv 1) pe_int (fun _ _ => rfl)) (pa_cons (pe_ix ix_list (pv 1) pe_int (fun _ _ => rfl)) pa_nil)))) (blkOk_by (N := ["size", "rows", "a", "b", "c"]) (sc := defScope sPick) (by decide +kernel))
      (fun _ _ _ _ _ => pg_tup rfl (pgs_cons (pg_name (i := 2) scPick.nd rfl (Or.inl rfl)) (pgs_cons (pg_name (i := 3) scPick.nd rfl (Or.inl rfl)) (pgs_cons (pg_name (i := 4) scPick.nd rfl (Or.inl rfl)) pgs_nil)))) (fun _ _ _ _ _ => pts_nil) (fun _ _ _ _ _ => pe_ifExp (pt_cmpR op_ne (pv 2) pe_int (nomark _)) (pv 3) (pv 4)))), ?_⟩
    refine ⟨_, rfl, r, _, 0, .ref a, rfl, rfl, hL, rfl, _, rfl, r, _, 1, .ref b, rfl, rfl, hL, rfl, _, rfl, r, _, 2, .ref c, rfl, rfl, hL, rfl, a, b, c, _, _, _, rfl, hT, hU, hV, ?_⟩
    refine lc_three (f := fun y => if y.1 ≠ 0 then y.2.1 else y.2.2) hT hU hV hn hly hlz (fun T x y z H' R hR hr => ⟨T, _, rfl, SqT.new hR, rfl, x, _, rfl, y, _, rfl, z, [], rfl, rfl, hr⟩) (fun x y z H' R hR => ?_) (fun v u t => rfl) q
    refine ⟨_, rfl, rfl, _, rfl, ?_⟩
    dsimp only at hR
    by_cases c0 : x = 0
    · subst c0
      rw [if_neg (by simp)] at hR
      show if (!decide (V.int 0 = V.int 0)) = true then _ else _
      rw [if_neg (by simp)]
      exact ⟨_, rfl, hR⟩
    · rw [if_pos c0] at hR
      show if (!decide (V.int (x : Int) = V.int 0)) = true then _ else _
      rw [if_pos (by simp; omega)]
      exact ⟨_, rfl, hR⟩
end
end LT
set_option Elab.async false
set_option maxRecDepth 100000
set_option maxHeartbeats 2000000
set_option linter.unusedSimpArgs false
set_option linter.unusedVariables false
namespace LT
open PySem PySem.Spec PyProof.Rows L2
/-! ### operate, all_rows -/
/-- a tuple that the module's top has written, under a name -/
def GTup (K : PySem.W.Frag) (mg : Str → Option Value) (x : Str) (xs : List V) : Prop := ∃ a, mg x = some (.ref a) ∧ ∀ H, SqT K H a xs
/-- a def that may be called: its promise -/
structure Cal0 (P : Program) (wd : World) (K : PySem.W.Frag) (mg : Str → Option Value) (base : Heap) (k : Nat) (f : Addr) (ps : List Str) (sp : Sp) : Prop where
  ex : ∃ fd, FnOk P wd K mg base CX0 k f fd ps sp ∧ Binds K fd ps [] ∧ PySem.W.keepIn K (.ref f) = true
/-- the same by its name -/
structure CalN (P : Program) (wd : World) (K : PySem.W.Frag) (mg : Str → Option Value) (base : Heap) (k : Nat) (x : Str) (ps : List Str) (sp : Sp) : Prop where
  ex : ∃ f, mg x = some (.ref f) ∧ Cal0 P wd K mg base k f ps sp
def spOperate (K : PySem.W.Frag) : Sp := fun vs H Q _ => ∃ (o w n : Nat) (r : Addr) (parts : List (Addr × List Nat)), vs = [.int (o : Int), .int ((2 ^ w : Nat) : Int), .ref r] ∧ o < 12 ∧ Parts K H w n r parts ∧ parts.length = ary o ∧
  ∀ H' p, NewT H H' p (iv (opRow w o (parts.map (·.2)))) → Q (.ref p) H'
abbrev sOperate : Stmt := top 15
theorem scOperate : FnScope ["operation", "size", "rows", "make"] ["operation", "size", "rows"] (defScope sOperate) := ⟨rfl, rfl, rfl, by decide +kernel, rfl, by decide +kernel, by decide +kernel⟩
theorem Parts.mono {K : PySem.W.Frag} {H H' : Hp} {w n : Nat} {r : Addr} {parts : List (Addr × List Nat)} (h : Parts K H w n r parts) (s : Same H H') : Parts K H' w n r parts :=
  ⟨h.hw, s.seq h.ls, fun p hp => same_tup s (h.tp p hp), h.ln, h.lt, h.nn⟩
theorem NewT.ofL {H H1 : Hp} {p q : Addr} {xs : List V} (h : NewL H H1 p xs) (hq : H1 q = none) : NewT H (upd H1 q (.tup xs)) q xs :=
  ⟨h.same.trans (same_upd hq), h.same.free hq, upd_same⟩
theorem opRow_len {w o n : Nat} {parts : List (List Nat)} (h : ∀ p ∈ parts, p.length = n) (hl : parts.length = ary o) : (opRow w o parts).length = n := by
  unfold ary at hl
  match parts, h with
  | [], _ => split at hl <;> (try split at hl) <;> simp at hl
  | [a], h => simpa [opRow] using h a (by simp)
  | [a, b], h =>
    have h1 := h a (by simp)
    have h2 := h b (by simp)
    simp [opRow, h1, h2]
  | [a, b, c], h =>
    have h1 := h a (by simp)
    have h2 := h b (by simp)
    have h3 := h c (by simp)
    simp [opRow, h1, h2, h3]
  | a :: b :: c :: d :: r, _ => split at hl <;> (try split at hl) <;> simp at hl
section
variable {P : Program} {wd : World} {K : PySem.W.Frag} {mg : Str → Option Value} {base : Heap}
theorem ok_operate {f : Addr} {fd : FuncData} {fs : List Addr} (F : Fun K "operate" "operate" sOperate f fd) (mt : mg "tuple" = none) (hM : GTup K mg "MAKERS" (fs.map V.ref)) (hl : fs.length = 12)
    (G : ∀ o f, fs[o]? = some f → Cal0 P wd K mg base 1 f ["size", "rows"] (spMake K o)) : FnOk P wd K mg base CX0 2 f fd ["operation", "size", "rows"] (spOperate K) := by
  refine F.ok scOperate (fun vs H Q E h => ?_) (fun cdv A outer s H vs Q E hr h => ?_)
  · obtain ⟨o, w, n, r, parts, rfl, _⟩ := h
    rfl
  · obtain ⟨o, w, n, r, parts, rfl, ho, hP, hpl, q⟩ := h
    obtain ⟨aM, hmg, hS⟩ := hM
    have hf : fs[o]? = some fs[o] := by simp [hl, ho]
    obtain ⟨fdo, Fo, bo, ko⟩ := (G o _ hf).ex
    refine ⟨_, pss_cons (ps_set (i := 3) scOperate.nd rfl (Or.inl rfl) (pe_ix ix_tup (pe_glob (v := .ref aM) rfl hmg rfl) (pv 0) (fun _ _ => rfl)))
      (pss_one (ps_ret (pe_tupleOf rfl mt (pe_callL (i := 3) Fo hr rfl (Or.inl rfl) ko bo .nil pass0 (pa_cons (pv 1) (pa_cons (pv 2) pa_nil)))))), ?_⟩
    refine ⟨_, rfl, aM, _, (o : Int), .ref fs[o], rfl, rfl, hS H, atI_nat (by rw [List.getElem?_map, hf]; rfl), ?_⟩
    refine ⟨rfl, _, rfl, _, rfl, w, n, r, parts, rfl, hP, hpl, fun H1 p hN => ?_⟩
    exact .inl ⟨p, _, rfl, SqL.new hN.at_, fun q' hq' => q _ q' (NewT.ofL hN hq')⟩
end
end LT
set_option Elab.async false
set_option maxRecDepth 100000
set_option maxHeartbeats 2000000
set_option linter.unusedSimpArgs false
set_option linter.unusedVariables false
namespace LT
open PySem PySem.Spec PyProof.Rows L2
/-! ### is_there, arity, is_term -/
def GInt (mg : Str → Option Value) (x : Str) (n : Int) : Prop := ∃ t, mg x = some (.int n t)
theorem ifT {c : Bool} {A B : Prop} (hc : c = true) (h : A) : if c = true then A else B := by
  rw [if_pos hc]
  exact h
theorem ifF {c : Bool} {A B : Prop} (hc : c = false) (h : B) : if c = true then A else B := by
  rw [hc, if_neg Bool.false_ne_true]
  exact h
def arities : List Nat := [1, 1, 1, 1, 2, 2, 2, 2, 2, 2, 2, 3]
def spThere : Sp := fun vs H Q _ => ∃ s size k : Nat, vs = [.int (s : Int), .int (size : Int), .int (k : Int)] ∧ Q (.bl (there size k s)) H
abbrev sThere : Stmt := top 21
theorem scThere : FnScope ["sign", "size", "inputs"] ["sign", "size", "inputs"] (defScope sThere) := ⟨rfl, rfl, rfl, by decide +kernel, rfl, by decide +kernel, by decide +kernel⟩
def spArity : Sp := fun vs H Q _ => ∃ s : Nat, vs = [.int (s : Int)] ∧ s < 32 ∧ Q (.int (ar s : Int)) H
abbrev sArity : Stmt := top 22
theorem scArity : FnScope ["sign"] ["sign"] (defScope sArity) := ⟨rfl, rfl, rfl, by decide +kernel, rfl, by decide +kernel, by decide +kernel⟩
theorem arities_ar : ∀ s < 32, 20 ≤ s → arities[s - 20]? = some (ar s) := by decide
def isTerm (size k : Nat) (l : List Nat) : Bool := decide (l.length ≤ 24) && scan size k 1 l
def spIsTerm (K : PySem.W.Frag) : Sp := fun vs H Q _ => ∃ (a : Addr) (l : List Nat) (size k : Nat), vs = [.ref a, .int (size : Int), .int (k : Int)] ∧ SqL K H a (iv l) ∧ Q (.bl (isTerm size k l)) H
abbrev sIsTerm : Stmt := top 23
theorem scIsTerm : FnScope ["signs", "size", "inputs", "missing", "sign"] ["signs", "size", "inputs"] (defScope sIsTerm) := ⟨rfl, rfl, rfl, by decide +kernel, rfl, by decide +kernel, by decide +kernel⟩
section
variable {P : Program} {wd : World} {K : PySem.W.Frag} {mg : Str → Option Value} {base : Heap}
theorem ok_there {f : Addr} {fd : FuncData} {k : Nat} (F : Fun K "is_there" "is_there" sThere f fd) (ml : mg "len" = none) (h20 : GInt mg "FIRST_OPERATION" 20) (h2 : GInt mg "FIRST_NUMBER" 2) (hA : GTup K mg "ARITIES" (iv arities)) : FnOk P wd K mg base CX0 (k + 1) f fd ["sign", "size", "inputs"] spThere := by
  refine F.ok scThere (fun vs H Q E h => ?_) (fun cdv A outer s H vs Q E hr h => ?_)
  · obtain ⟨a, b, c, rfl, _⟩ := h
    rfl
  · obtain ⟨sg, size, kk, rfl, q⟩ := h
    obtain ⟨t20, g20⟩ := h20
    obtain ⟨t2, g2⟩ := h2
    obtain ⟨aA, gA, hS⟩ := hA
    refine ⟨_, pss_cons (ps_if (pt_cmpR op_ge (pv 0) (pe_glob (v := .int 20) rfl g20 ⟨_, rfl⟩) (nomark _)) (pss_one (ps_ret (pe_cmpR op_lt (pe_op op_sub (pv 0) (pe_glob (v := .int 20) rfl g20 ⟨_, rfl⟩)) (pe_callB call_len_seq (by rfl) ml PySem.boot_len (pa_cons (pe_glob (v := .ref aA) rfl gA rfl) pa_nil)) (nomark _)))) pss_nil)
      (pss_cons (ps_if (pt_cmpR op_ge (pv 0) (pe_glob (v := .int 2) rfl g2 ⟨_, rfl⟩) (nomark _)) (pss_one (ps_ret (pe_cmpR op_lt (pe_op op_sub (pv 0) (pe_glob (v := .int 2) rfl g2 ⟨_, rfl⟩)) (pv 1) (nomark _)))) pss_nil)
      (pss_one (ps_ret (pe_cmpR op_lt (pv 0) (pv 2) (nomark _))))), ?_⟩
    refine ⟨_, rfl, _, _, rfl, rfl, _, rfl, ?_⟩
    unfold there at q
    by_cases c1 : 20 ≤ sg
    · rw [if_pos c1] at q
      refine ifT (decide_eq_true (by omega)) ?_
      refine ⟨_, rfl, _, _, rfl, rfl, aA, _, rfl, .inr (hS H), _, _, rfl, rfl, ?_⟩
      have e : decide ((sg : Int) - 20 < (((iv arities).length : Nat) : Int)) = decide (sg < 32) := by
        have : (iv arities).length = 12 := rfl
        rw [this, Bool.eq_iff_iff, decide_eq_true_eq, decide_eq_true_eq]
        omega
      exact (congrArg (fun z => Q (.bl z) H) e).mpr q
    · rw [if_neg c1] at q
      refine ifF (decide_eq_false (by omega)) ?_
      refine ⟨_, rfl, _, _, rfl, rfl, _, rfl, ?_⟩
      by_cases c2 : 2 ≤ sg
      · rw [if_pos c2] at q
        refine ifT (decide_eq_true (by omega)) ?_
        refine ⟨_, rfl, _, _, rfl, rfl, _, rfl, _, _, rfl, rfl, ?_⟩
        have e : decide ((sg : Int) - 2 < (size : Int)) = decide (sg - 2 < size) := by
          rw [Bool.eq_iff_iff, decide_eq_true_eq, decide_eq_true_eq]
          omega
        exact (congrArg (fun z => Q (.bl z) H) e).mpr q
      · rw [if_neg c2] at q
        refine ifF (decide_eq_false (by omega)) ?_
        refine ⟨_, rfl, _, rfl, _, _, rfl, rfl, ?_⟩
        have e : decide ((sg : Int) < (kk : Int)) = decide (sg < kk) := by
          rw [Bool.eq_iff_iff, decide_eq_true_eq, decide_eq_true_eq]
          omega
        exact (congrArg (fun z => Q (.bl z) H) e).mpr q
theorem ok_arity {f : Addr} {fd : FuncData} {k : Nat} (F : Fun K "arity" "arity" sArity f fd) (h20 : GInt mg "FIRST_OPERATION" 20) (hA : GTup K mg "ARITIES" (iv arities)) : FnOk P wd K mg base CX0 (k + 1) f fd ["sign"] spArity := by
  refine F.ok scArity (fun vs H Q E h => ?_) (fun cdv A outer s H vs Q E hr h => ?_)
  · obtain ⟨a, rfl, _⟩ := h
    rfl
  · obtain ⟨sg, rfl, hs, q⟩ := h
    obtain ⟨t20, g20⟩ := h20
    obtain ⟨aA, gA, hS⟩ := hA
    refine ⟨_, pss_cons (ps_if (pt_cmpR op_ge (pv 0) (pe_glob (v := .int 20) rfl g20 ⟨_, rfl⟩) (nomark _)) (pss_one (ps_ret (pe_ix ix_tup (pe_glob (v := .ref aA) rfl gA rfl) (pe_op op_sub (pv 0) (pe_glob (v := .int 20) rfl g20 ⟨_, rfl⟩)) (fun _ _ => rfl)))) pss_nil)
      (pss_one (ps_ret pe_int)), ?_⟩
    refine ⟨_, rfl, _, _, rfl, rfl, _, rfl, ?_⟩
    by_cases c1 : 20 ≤ sg
    · refine ifT (decide_eq_true (by omega)) ?_
      have e1 := arities_ar sg hs c1
      have e : ((sg - 20 : Nat) : Int) = (sg : Int) - 20 := by omega
      refine ⟨_, rfl, _, _, rfl, rfl, aA, _, (sg : Int) - 20, .int (ar sg : Int), rfl, rfl, hS H, ?_, q⟩
      rw [← e]
      exact atI_nat (by rw [iv, List.getElem?_map, e1]; rfl)
    · refine ifF (decide_eq_false (by omega)) ?_
      have e : ar sg = 0 := by simp [ar]; omega
      rw [e] at q
      exact q
theorem ok_isTerm {f : Addr} {fd : FuncData} (F : Fun K "is_term" "is_term" sIsTerm f fd) (ml : mg "len" = none) (h24 : GInt mg "LONGEST_TERM" 24) (GT : CalN P wd K mg base 1 "is_there" ["sign", "size", "inputs"] spThere) (GA : CalN P wd K mg base 1 "arity" ["sign"] spArity) : FnOk P wd K mg base CX0 2 f fd ["signs", "size", "inputs"] (spIsTerm K) := by
  refine F.ok scIsTerm (fun vs H Q E h => ?_) (fun cdv A outer s H vs Q E hr h => ?_)
  · obtain ⟨a, l, b, c, rfl, _⟩ := h
    rfl
  · obtain ⟨a, l, size, kk, rfl, hS, q⟩ := h
    obtain ⟨t24, g24⟩ := h24
    obtain ⟨fT, gT, ⟨fdT, FT, bT, kT⟩⟩ := GT.ex
    obtain ⟨fA, gA, ⟨fdA, FA, bA, kA⟩⟩ := GA.ex
    refine ⟨_, pss_cons (ps_if (pt_cmpR op_gt (pe_callB call_len_seq (by rfl) ml PySem.boot_len (pa_cons (pv 0) pa_nil)) (pe_glob (v := .int 24) rfl g24 ⟨_, rfl⟩) (nomark _)) (pss_one (ps_ret pe_bl)) pss_nil)
      (pss_cons (ps_set (i := 3) scIsTerm.nd rfl (Or.inl rfl) pe_int)
      (pss_cons (ps_for PassesOwn.never rfl (pi_list (pv 0)) (pg_name (i := 4) scIsTerm.nd rfl (Or.inl rfl))
        (pss_cons (ps_if (PW.pt (pw_or (pt_cmpR op_eq (pv 3) pe_int (nomark _)) (pw_or1 (pt_not (pt_val (pe_call FT hr rfl gT kT bT .nil pass0 (pa_cons (pv 4) (pa_cons (pv 1) (pa_cons (pv 2) pa_nil))))))))) (pss_one (ps_ret pe_bl)) pss_nil)
        (pss_one (ps_aug (i := 3) scIsTerm.nd rfl (Or.inl rfl) (pe_op op_sub (pe_call FA hr rfl gA kA bA .nil pass0 (pa_cons (pv 4) pa_nil)) pe_int) ip_add))))
      (pss_one (ps_ret (pe_cmpR op_eq (pv 3) pe_int (nomark _)))))), ?_⟩
    refine ⟨_, rfl, a, _, rfl, .inl hS, _, _, rfl, rfl, _, rfl, ?_⟩
    rw [iv_len]
    unfold isTerm at q
    by_cases c : l.length ≤ 24
    · rw [decide_eq_true c, Bool.true_and] at q
      refine ifF (decide_eq_false (by omega)) ?_
      refine ⟨_, rfl, a, rfl, ⟨_, hS⟩, for_list (K := K) (a := a) (xs := iv l) (fun i σ H' => ∃ (m : Nat) (v : Option V), H' = H ∧ σ = [some (.ref a), some (.int (size : Int)), some (.int (kk : Int)), some (.int (m : Int)), v] ∧ scan size kk m (l.drop i) = scan size kk 1 l)
        ⟨1, none, rfl, rfl, rfl⟩ (fun i σ H' _ ⟨_, _, e, _⟩ => e ▸ hS) ?_ ?_⟩
      · rintro i x σ H' hx ⟨m, v, rfl, rfl, hm⟩
        obtain ⟨sg, hs, rfl⟩ := iv_get hx
        have hlt : i < l.length := by
          rcases Nat.lt_or_ge i l.length with z | z
          · exact z
          · rw [List.getElem?_eq_none z] at hs; cases hs
        have hd : l.drop i = sg :: l.drop (i + 1) := by
          rw [List.drop_eq_getElem_cons hlt]
          rw [List.getElem?_eq_getElem hlt] at hs
          rw [Option.some.inj hs]
        rw [hd] at hm
        simp only [scan] at hm
        refine ⟨_, rfl, rfl, _, rfl, ?_⟩
        by_cases m0 : m = 0
        · rw [if_pos m0] at hm
          refine ifT (decide_eq_true (by rw [m0]; rfl)) ?_
          refine ifT rfl ?_
          rw [← hm] at q
          exact q
        · rw [if_neg m0] at hm
          refine ifF (decide_eq_false (fun z => m0 (by cases z; rfl))) ?_
          refine ⟨_, rfl, _, rfl, _, rfl, sg, size, kk, rfl, _, rfl, ?_⟩
          by_cases ht : there size kk sg = true
          · rw [if_pos ht] at hm
            refine ifF (by rw [ht]; rfl) ?_
            have h32 : sg < 32 := by
              unfold there at ht
              split at ht
              · simpa using ht
              · omega
            refine ⟨_, rfl, _, rfl, sg, rfl, h32, _, _, rfl, rfl, _, _, rfl, rfl, ?_⟩
            refine ⟨m + ar sg - 1, some (.int (sg : Int)), rfl, ?_, hm⟩
            have e : (m : Int) + ((ar sg : Int) - 1) = ((m + ar sg - 1 : Nat) : Int) := by omega
            rw [← e]
            rfl
          · rw [if_neg ht] at hm
            refine ifT (by simp [ht]) ?_
            rw [← hm] at q
            exact q
      · rintro σ H' ⟨m, v, rfl, rfl, hm⟩
        rw [iv_len, List.drop_length] at hm
        simp only [scan] at hm
        refine ⟨_, rfl, rfl, ?_⟩
        rw [← hm] at q
        have e : decide (V.int (m : Int) = V.int 0) = (m == 0) := by
          rw [Bool.eq_iff_iff, decide_eq_true_eq, beq_iff_eq]
          constructor
          · intro z
            cases m with
            | zero => rfl
            | succ m => exact absurd (V.int.inj z) (by omega)
          · intro z
            rw [z]
            rfl
        rw [← e] at q
        exact q
    · rw [decide_eq_false c, Bool.false_and] at q
      refine ifT (decide_eq_true (by omega)) ?_
      exact q
end
end LT
set_option Elab.async false
set_option maxRecDepth 100000
set_option maxHeartbeats 2000000
set_option linter.unusedSimpArgs false
set_option linter.unusedVariables false
namespace LT
open PySem PySem.Spec PyProof.Rows L2
/-! ### rows of inputs; leaf_outcomes, all_rows -/
/-- tuples at addresses -/
def Tups (K : PySem.W.Frag) (H : Hp) (as : List Addr) (rows : List (List Nat)) : Prop := Paired (fun a row => SqT K H a (iv row)) as rows
theorem Tups.mono {K : PySem.W.Frag} {H H' : Hp} {as : List Addr} {rows : List (List Nat)} (h : Tups K H as rows) (s : Same H H') : Tups K H' as rows := by
  unfold Tups at h ⊢
  induction h with
  | nil => exact .nil
  | cons h t ih => exact .cons (same_tup s h) ih
theorem Tups.length {K : PySem.W.Frag} {H : Hp} {as : List Addr} {rows : List (List Nat)} (h : Tups K H as rows) : as.length = rows.length := Paired.length h
theorem paired_append {α β : Type} {R : α → β → Prop} {l1 : List α} {r1 : List β} {l2 : List α} {r2 : List β} (h : Paired R l1 r1) (h2 : Paired R l2 r2) : Paired R (l1 ++ l2) (r1 ++ r2) := by
  induction h with
  | nil => exact h2
  | cons h t ih => exact .cons h ih
theorem Tups.append {K : PySem.W.Frag} {H : Hp} {as bs : List Addr} {rows rows2 : List (List Nat)} (h : Tups K H as rows) (h2 : Tups K H bs rows2) : Tups K H (as ++ bs) (rows ++ rows2) := paired_append h h2
theorem Tups.get {K : PySem.W.Frag} {H : Hp} {as : List Addr} {rows : List (List Nat)} (h : Tups K H as rows) {i : Nat} {a : Addr} (e : as[i]? = some a) : ∃ row, rows[i]? = some row ∧ SqT K H a (iv row) := paired_get h e
structure RowsAt (K : PySem.W.Frag) (H : Hp) (r : Addr) (rows : List (List Nat)) : Prop where
  ex : ∃ as, SqL K H r (as.map V.ref) ∧ Tups K H as rows
theorem RowsAt.mono {K : PySem.W.Frag} {H H' : Hp} {r : Addr} {rows : List (List Nat)} (h : RowsAt K H r rows) (s : Same H H') : RowsAt K H' r rows := by
  obtain ⟨as, h1, h2⟩ := h.ex
  exact ⟨as, s.seq h1, h2.mono s⟩
theorem paired_imp {α β : Type} {R S : α → β → Prop} {l : List α} {r : List β} (h : Paired R l r) (f : ∀ a b, a ∈ l → R a b → S a b) : Paired S l r := by
  induction h with
  | nil => exact .nil
  | cons h t ih => exact .cons (f _ _ (by simp) h) (ih fun a b ha => f a b (by simp [ha]))
/-- lists or tuples at addresses -/
def SqE (K : PySem.W.Frag) (H : Hp) (a : Addr) (xs : List V) : Prop := SqT K H a xs ∨ SqL K H a xs
theorem SqE.mono {K : PySem.W.Frag} {H H' : Hp} {a : Addr} {xs : List V} (h : SqE K H a xs) (s : Same H H') : SqE K H' a xs := by
  rcases h with h | h
  · exact .inl (same_tup s h)
  · exact .inr (s.seq h)
structure RowsE (K : PySem.W.Frag) (H : Hp) (r : Addr) (rows : List (List Nat)) : Prop where
  ex : ∃ as, SqL K H r (as.map V.ref) ∧ Paired (fun a row => SqE K H a (iv row)) as rows
theorem RowsE.mono {K : PySem.W.Frag} {H H' : Hp} {r : Addr} {rows : List (List Nat)} (h : RowsE K H r rows) (s : Same H H') : RowsE K H' r rows := by
  obtain ⟨as, h1, h2⟩ := h.ex
  exact ⟨as, s.seq h1, paired_imp h2 fun _ _ _ p => p.mono s⟩
theorem RowsAt.any {K : PySem.W.Frag} {H : Hp} {r : Addr} {rows : List (List Nat)} (h : RowsAt K H r rows) : RowsE K H r rows := by
  obtain ⟨as, h1, h2⟩ := h.ex
  exact ⟨as, h1, paired_imp h2 fun _ _ _ p => .inl p⟩
def rIxE (K : PySem.W.Frag) : R2 := fun x y H Q => rIxT K x y H Q ∨ rIxL K x y H Q
theorem ix_any {X : Cx} : IxR X (rIxE X.K) := by
  intro value slice pins s σ H x y v u Q I rx ry h hs
  rcases h with h | h
  · exact ix_tup value slice pins s σ H x y v u Q I rx ry h hs
  · exact ix_list value slice pins s σ H x y v u Q I rx ry h hs
theorem refs_get {as : List Addr} {i : Nat} {x : V} (h : (as.map V.ref)[i]? = some x) : ∃ a, as[i]? = some a ∧ x = .ref a := by
  rw [List.getElem?_map] at h
  cases e : as[i]? with
  | none => rw [e] at h; cases h
  | some a => rw [e] at h; exact ⟨a, rfl, (Option.some.inj h).symm⟩
def spLeaf (K : PySem.W.Frag) : Sp := fun vs H Q _ => ∃ (s : Nat) (r : Addr) (rows : List (List Nat)), vs = [.int (s : Int), .ref r] ∧ RowsE K H r rows ∧ rows.length ≤ 1000 ∧ (s < 2 → ∀ row ∈ rows, s < row.length) ∧
  ∀ H' p, NewT H H' p (iv (leaf rows s)) → Q (.ref p) H'
abbrev sLeaf : Stmt := top 24
theorem scLeaf : FnScope ["sign", "rows", "row"] ["sign", "rows"] (defScope sLeaf) := ⟨rfl, rfl, rfl, by decide +kernel, rfl, by decide +kernel, by decide +kernel⟩
theorem take_map_succ {α : Type} {l : List α} {i : Nat} {x : α} (f : α → Nat) (h : l[i]? = some x) : iv ((l.take (i + 1)).map f) = iv ((l.take i).map f) ++ [.int (f x : Int)] := by
  rw [List.take_add_one, h, List.map_append]
  simp [iv]
section
variable {P : Program} {wd : World} {K : PySem.W.Frag} {mg : Str → Option Value} {base : Heap}
/-- a comprehension over the rows that gives a number for each -/
theorem lc_rows {H : Hp} {r : Addr} {as : List Addr} {rows : List (List Nat)} {te : TE} {f : List Nat → Nat} {σ : L2.St} {Qd : Hp → Prop} {D : Addr} (hD : H D = none) (hL : SqL K H r (as.map V.ref)) (hT : Paired (fun a row => SqE K H a (iv row)) as rows) (hn : rows.length ≤ 1000)
    (hte : ∀ (a : Addr) (row : List Nat) (H' : Hp) (R : VK), row ∈ rows → SqE K H' a (iv row) → R (.int (f row : Int)) H' → te ((wipe σ [2]).set 2 (some (.ref a))) H' R) (hw : ∀ v, wipe ((wipe σ [2]).set 2 v) [2] = wipe σ [2])
    (q : ∀ H', NewL H H' D (iv (rows.map f)) → Qd H') : ∃ W : Nat → Nat → Hp → Prop, (∃ m, W 0 m (upd H D (.lst []))) ∧ ∀ i m H, W i m H →
      ((Itl K r).stop i H ∧ Qd H) ∨ ((Itl K r).go i H ∧ ∃ Nx : Hp → Prop, (∀ H', Nx H' → ∃ m', m' < m ∧ W (i + 1) m' H') ∧ ∀ x H', (Itl K r).yld i H x H' → gName 2 x (wipe σ [2]) H' fun σ2 H2 => wipe σ2 [2] = wipe σ [2] ∧ tYes σ2 H2 fun b H3 =>
        if b = true then te σ2 H3 fun y H4 => ∃ acc, H4 D = some (.lst acc) ∧ acc.length < sizeLine ∧ Nx (upd H4 D (.lst (acc ++ [y]))) else Nx H3) := by
  refine lc_list (K := K) (a := r) (xs := as.map V.ref) (fun i H' => Same H H' ∧ H' D = some (.lst (iv ((rows.take i).map f)))) ⟨same_upd hD, upd_same⟩ (fun i H' _ p => Same.seq p.1 hL) ?_ ?_
  · intro i x H' hx p
    obtain ⟨a, ha, rfl⟩ := refs_get hx
    obtain ⟨row, hrow, hS⟩ := paired_get hT ha
    refine ⟨hw _, ?_⟩
    unfold tYes; dsimp only
    rw [if_pos rfl]
    refine hte a row H' _ (List.mem_of_getElem? hrow) (hS.mono p.1) ⟨_, p.2, ?_, ?_, ?_⟩
    · rw [iv_len, List.length_map, List.length_take]
      exact small_lt (by omega)
    · intro b o e
      rw [upd_ne (ne_of_none e hD)]
      exact p.1 b o e
    · rw [upd_same, take_map_succ f hrow]
  · intro H' p
    rw [List.length_map, show as.length = rows.length from Paired.length hT, List.take_length] at p
    exact q _ ⟨p.1, hD, p.2⟩
theorem ok_leaf {f : Addr} {fd : FuncData} {k : Nat} (F : Fun K "leaf_outcomes" "leaf_outcomes" sLeaf f fd) (mt : mg "tuple" = none) (h2 : GInt mg "FIRST_NUMBER" 2) : FnOk P wd K mg base CX0 (k + 1) f fd ["sign", "rows"] (spLeaf K) := by
  refine F.ok scLeaf (fun vs H Q E h => ?_) (fun cdv A outer s H vs Q E hr h => ?_)
  · obtain ⟨a, b, c, rfl, _⟩ := h
    rfl
  · obtain ⟨sg, r, rows, rfl, hR, hn, hs, q⟩ := h
    obtain ⟨as, hL, hT⟩ := hR.ex
    obtain ⟨t2, g2⟩ := h2
    refine ⟨_, pss_cons (ps_if (pt_cmpR op_lt (pv 0) (pe_glob (v := .int 2) rfl g2 ⟨_, rfl⟩) (nomark _)) (pss_one (ps_ret (pe_tupleOf rfl mt
        (pe_lc (own := [("row", 2)]) (g := gName 2) (tt := tYes) (te := tOp (rIxE K) (tVar 2) (tVar 0)) rfl scLeaf.nd (pi_list (pv 1)) (blkOk_by (N := ["sign", "rows", "row"]) (sc := defScope sLeaf) (by decide +kernel))
          (fun _ _ _ _ _ => pg_name (i := 2) scLeaf.nd rfl (Or.inl rfl)) (fun _ _ _ _ _ => pts_nil) (fun _ _ _ _ _ => pe_ix ix_any (pv 2) (pv 0) (fun _ _ => rfl)))))) pss_nil)
      (pss_one (ps_ret (pe_tupleOf rfl mt (pe_lc (own := [("row", 2)]) (g := gName 2) (tt := tYes) rfl scLeaf.nd (pi_list (pv 1)) (blkOk_by (N := ["sign", "rows", "row"]) (sc := defScope sLeaf) (by decide +kernel))
          (fun _ _ _ _ _ => pg_name (i := 2) scLeaf.nd rfl (Or.inl rfl)) (fun _ _ _ _ _ => pts_nil) (fun _ _ _ _ _ => pe_op op_sub (pv 0) (pe_glob (v := .int 2) rfl g2 ⟨_, rfl⟩)))))), ?_⟩
    refine ⟨_, rfl, _, _, rfl, rfl, _, rfl, ?_⟩
    unfold leaf at q
    by_cases c : sg < 2
    · rw [if_pos c] at q
      refine ifT (decide_eq_true (by omega)) ?_
      refine ⟨_, rfl, r, rfl, ⟨_, hL⟩, fun D hD => lc_rows (f := fun r => r.getD sg 0) hD hL hT hn (fun a row H' R hm hS hR => ?_) (fun v => rfl) (fun H1 hN => ?_)⟩
      · have hl := hs c row hm
        have hat : atI (iv row) (sg : Int) = some (.int ((row.getD sg 0 : Nat) : Int)) := atI_nat (by simp [iv, hl])
        rcases hS with hS | hS
        · exact ⟨_, rfl, _, rfl, .inl ⟨a, _, (sg : Int), .int ((row.getD sg 0 : Nat) : Int), rfl, rfl, hS, hat, hR⟩⟩
        · exact ⟨_, rfl, _, rfl, .inr ⟨a, _, (sg : Int), .int ((row.getD sg 0 : Nat) : Int), rfl, rfl, hS, hat, hR⟩⟩
      · exact .inl ⟨D, _, rfl, SqL.new hN.at_, fun p hp => q _ p (NewT.ofL hN hp)⟩
    · rw [if_neg c] at q
      refine ifF (decide_eq_false (by omega)) ?_
      refine ⟨_, rfl, r, rfl, ⟨_, hL⟩, fun D hD => lc_rows (f := fun _ => sg - 2) hD hL hT hn (fun a row H' R hm hS hR => ?_) (fun v => rfl) (fun H1 hN => ?_)⟩
      · refine ⟨_, rfl, _, _, rfl, rfl, ?_⟩
        have e : (sg : Int) - 2 = ((sg - 2 : Nat) : Int) := by omega
        exact (congrArg (fun z => R (.int z) H') e).mpr hR
      · exact .inl ⟨D, _, rfl, SqL.new hN.at_, fun p hp => q _ p (NewT.ofL hN hp)⟩
end
end LT
set_option linter.unusedSimpArgs false
set_option linter.unusedVariables false
/-! Mathematics F: what stands behind a sign; values stay words. -/
namespace LT
open Sm08
def kids : Term → List Term
  | .input _ => []
  | .const _ => []
  | .one _ a => [a]
  | .two _ a b => [a, b]
  | .pick a b c => [a, b, c]
def hd : Term → Nat
  | .input i => i
  | .const c => 2 + c
  | .one o _ => 20 + o
  | .two o _ _ => 20 + o
  | .pick _ _ _ => 31
theorem code_kids (t : Term) : code t = hd t :: (kids t).flatMap code := by cases t <;> simp [code, hd, kids]
theorem fine_kids {w k : Nat} {t : Term} (h : fine w k t = true) : ∀ u ∈ kids t, fine w k u = true := by
  cases t <;> simp [kids, fine, good, fitsIn] at h ⊢
  · exact ⟨h.1.2, h.2⟩
  · exact ⟨⟨h.1.2.2.1, h.2.1⟩, h.1.2.2.2, h.2.2⟩
  · exact ⟨⟨h.1.1, h.2.1⟩, ⟨h.1.2.1, h.2.2.1⟩, h.1.2.2, h.2.2.2⟩
theorem ar_lo {s : Nat} (h : s < 20) : ar s = 0 := by simp [ar, h]
theorem ar_one {s : Nat} (h : ¬ s < 20) (h2 : s < 24) : ar s = 1 := by simp [ar, h, h2]
theorem ar_two {s : Nat} (h : ¬ s < 24) (h2 : s < 31) : ar s = 2 := by
  have : ¬ s < 20 := by omega
  simp [ar, this, h, h2]
theorem ar_hd {w k : Nat} {t : Term} (h : fine w k t = true) : ar (hd t) = (kids t).length := by
  cases t <;> simp [fine, good] at h
  · exact ar_lo (by simp [hd]; omega)
  · exact ar_lo (by simp [hd]; omega)
  · exact ar_one (by simp [hd]) (by simp [hd]; omega)
  · exact ar_two (by simp [hd]; omega) (by simp [hd]; omega)
  · rfl
theorem hd_lt {w k : Nat} {t : Term} (h : fine w k t = true) : hd t < 32 := by
  cases t <;> simp [fine, good] at h <;> simp [hd] <;> omega
theorem suffix_terms {w k : Nat} : ∀ (n : Nat) (ts : List Term) (r s : List Nat), (ts.flatMap code).length ≤ n → (∀ t ∈ ts, fine w k t = true) → ts.flatMap code = r ++ s → ∃ us : List Term, (∀ t ∈ us, fine w k t = true) ∧ s = us.flatMap code
  | 0, ts, r, s, hn, hf, e => by
    have h0 : ts.flatMap code = [] := List.length_eq_zero_iff.mp (by omega)
    rw [h0] at e
    have := List.append_eq_nil_iff.mp e.symm
    exact ⟨[], by simp, by simpa using this.2⟩
  | n + 1, ts, [], s, hn, hf, e => ⟨ts, hf, by simpa using e.symm⟩
  | n + 1, [], x :: r, s, hn, hf, e => by simp at e
  | n + 1, t :: ts, x :: r, s, hn, hf, e => by
    have e1 : (t :: ts).flatMap code = hd t :: (kids t ++ ts).flatMap code := by
      rw [List.flatMap_cons, code_kids t, List.flatMap_append]
      rfl
    rw [e1] at e hn
    have e2 := (List.cons.inj e).2
    refine suffix_terms n (kids t ++ ts) r s (by simp at hn ⊢; omega) (fun u hu => ?_) e2
    rcases List.mem_append.mp hu with hu | hu
    · exact fine_kids (hf t (by simp)) u hu
    · exact hf u (by simp [hu])
theorem parse_unique {w k : Nat} : ∀ (ts us : List Term), (∀ t ∈ ts, fine w k t = true) → (∀ t ∈ us, fine w k t = true) → ts.flatMap code = us.flatMap code → ts = us
  | [], [], _, _, _ => rfl
  | [], u :: us, _, _, e => by
    have h1 := code_pos u
    have h2 := congrArg List.length e
    rw [List.flatMap_cons, List.length_append, List.flatMap_nil, List.length_nil] at h2
    omega
  | t :: ts, [], _, _, e => by
    have h1 := code_pos t
    have h2 := congrArg List.length e
    rw [List.flatMap_cons, List.length_append, List.flatMap_nil, List.length_nil] at h2
    omega
  | t :: ts, u :: us, ht, hu, e => by
    have gt := ht t (by simp)
    have gu := hu u (by simp)
    simp [fine] at gt gu
    simp only [List.flatMap_cons] at e
    have a := read_of t gt.1 ((code t).length + (code u).length) (ts.flatMap code) (by omega)
    have b := read_of u gu.1 ((code t).length + (code u).length) (us.flatMap code) (by omega)
    rw [e, b] at a
    obtain ⟨e1, e2⟩ := Prod.mk.inj (Option.some.inj a)
    rw [e1, parse_unique ts us (fun x hx => ht x (by simp [hx])) (fun x hx => hu x (by simp [hx])) e2.symm]
/-- one sign more, in front -/
theorem sign_front {w k : Nat} {s : Nat} {rest : List Nat} {ts us : List Term} (ht : ∀ t ∈ ts, fine w k t = true) (hu : ∀ t ∈ us, fine w k t = true) (e1 : rest = ts.flatMap code) (e2 : s :: rest = us.flatMap code) :
    ∃ t us', us = t :: us' ∧ hd t = s ∧ ts = kids t ++ us' := by
  match us, hu, e2 with
  | [], _, e2 => simp at e2
  | t :: us', hu, e2 =>
    rw [List.flatMap_cons, code_kids t] at e2
    simp only [List.cons_append] at e2
    obtain ⟨e3, e4⟩ := List.cons.inj e2
    refine ⟨t, us', rfl, e3.symm, ?_⟩
    refine parse_unique ts (kids t ++ us') ht (fun u hu' => ?_) (by rw [← e1, e4, List.flatMap_append])
    rcases List.mem_append.mp hu' with h | h
    · exact fine_kids (hu t (by simp)) u h
    · exact hu u (by simp [h])
theorem outs_leaf {w k : Nat} (rows : List (List Nat)) {t : Term} (h : fine w k t = true) (hs : hd t < 20) : leaf rows (hd t) = outs w rows t := by
  cases t <;> simp [fine, good] at h <;> simp only [hd] at hs
  · rename_i i
    have : i < 2 := by omega
    simp [leaf, hd, this, outs, eval]
  · rename_i c
    have : ¬ (2 + c < 2) := by omega
    simp [leaf, hd, this, outs, eval]
  · omega
  · omega
  · omega
theorem outs_op {w k : Nat} (rows : List (List Nat)) {t : Term} (h : fine w k t = true) (hs : ¬ hd t < 20) : opRow w (hd t - 20) ((kids t).map (outs w rows)) = outs w rows t := by
  cases t <;> simp [fine, good] at h <;> simp only [hd] at hs
  · omega
  · omega
  · simp [hd, kids, opRow, outs, eval, List.map_map]
  · simp [hd, kids, opRow, outs, eval, zip_outs, List.map_map]
  · simp [hd, kids, opRow, outs, eval, zip_outs, List.map_map]
theorem ary_hd {w k : Nat} {t : Term} (h : fine w k t = true) (hs : ¬ hd t < 20) : ary (hd t - 20) = (kids t).length := by
  cases t <;> simp [fine, good] at h <;> simp only [hd] at hs
  · omega
  · omega
  · rename_i o a
    have : 20 + o - 20 < 4 := by omega
    simp [hd, kids, ary]
    omega
  · rename_i o a b
    have h1 : ¬ (o < 4) := by omega
    have h2 : o < 11 := by omega
    simp [hd, kids, ary, h1, h2]
  · rfl
/-- rows of inputs that are there -/
def RowOk (w k : Nat) (row : List Nat) : Prop := row.length = k ∧ ∀ x ∈ row, x < 2 ^ w
def twoAll : Bool := (List.range 5).all fun w => (List.range 11).all fun o => (List.range 16).all fun a => (List.range 16).all fun b => decide (w = 0) || (decide (2 ^ w ≤ a) || (decide (2 ^ w ≤ b) || decide (two_ w o a b < 2 ^ w)))
theorem twoAll_true : twoAll = true := by decide +kernel
theorem two_lt0 (w : Nat) (h1 : w < 5) (o : Nat) (h2 : o < 11) (a : Nat) (h3 : a < 16) (b : Nat) (h4 : b < 16) (h : 1 ≤ w ∧ a < 2 ^ w ∧ b < 2 ^ w) : two_ w o a b < 2 ^ w := by
  have t := twoAll_true
  unfold twoAll at t
  simp only [List.all_eq_true, List.mem_range, Bool.or_eq_true, decide_eq_true_eq] at t
  rcases t w h1 o h2 a h3 b h4 with e | e | e | e
  · omega
  · omega
  · omega
  · exact e
theorem two_ge (w o a b : Nat) (h : 10 ≤ o) : two_ w o a b = two_ w 10 a b := by
  have h4 : ¬ o = 4 := by omega
  have h5 : ¬ o = 5 := by omega
  have h6 : ¬ o = 6 := by omega
  have h7 : ¬ o = 7 := by omega
  have h8 : ¬ o = 8 := by omega
  have h9 : ¬ o = 9 := by omega
  simp [two_, h4, h5, h6, h7, h8, h9]
theorem two_lt {w o a b : Nat} (hw1 : 1 ≤ w) (hw : w ≤ 4) (ha : a < 2 ^ w) (hb : b < 2 ^ w) : two_ w o a b < 2 ^ w := by
  have p16 : 2 ^ w ≤ 16 := by
    have := Nat.pow_le_pow_right (n := 2) (by decide) hw
    simpa using this
  by_cases ho : o < 11
  · exact two_lt0 w (by omega) o ho a (by omega) b (by omega) ⟨hw1, ha, hb⟩
  · rw [two_ge w o a b (by omega)]
    exact two_lt0 w (by omega) 10 (by omega) a (by omega) b (by omega) ⟨hw1, ha, hb⟩
theorem one_lt {w o a : Nat} (ha : a < 2 ^ w) : one_ w o a < 2 ^ w := by
  unfold one_
  split
  · omega
  · split
    · exact Nat.mod_lt _ (by omega)
    · split
      · exact Nat.mod_lt _ (by omega)
      · omega
theorem eval_lt {w k : Nat} (hw1 : 1 ≤ w) (hw : w ≤ 4) {row : List Nat} (hr : RowOk w k row) : ∀ t : Term, fitsIn w k t = true → eval w row t < 2 ^ w
  | .input i, h => by
    simp [fitsIn] at h
    have hi : i < row.length := by rw [hr.1]; exact h
    simp only [eval, List.getD_eq_getElem?_getD, List.getElem?_eq_getElem hi, Option.getD_some]
    exact hr.2 _ (List.getElem_mem hi)
  | .const c, h => by simpa [fitsIn, eval] using h
  | .one o a, h => one_lt (eval_lt hw1 hw hr a (by simpa [fitsIn] using h))
  | .two o a b, h => by
    simp [fitsIn] at h
    exact two_lt hw1 hw (eval_lt hw1 hw hr a h.1) (eval_lt hw1 hw hr b h.2)
  | .pick a b c, h => by
    simp [fitsIn] at h
    simp only [eval]
    split
    · exact eval_lt hw1 hw hr b h.2.1
    · exact eval_lt hw1 hw hr c h.2.2
theorem outs_lt {w k : Nat} (hw1 : 1 ≤ w) (hw : w ≤ 4) {rows : List (List Nat)} (hr : ∀ row ∈ rows, RowOk w k row) {t : Term} (ht : fitsIn w k t = true) : ∀ x ∈ outs w rows t, x < 2 ^ w := by
  intro x hx
  obtain ⟨row, hm, rfl⟩ := List.mem_map.mp hx
  exact eval_lt hw1 hw (hr row hm) t ht
theorem outs_len (w : Nat) (rows : List (List Nat)) (t : Term) : (outs w rows t).length = rows.length := by simp [outs]
end LT
set_option Elab.async false
set_option maxRecDepth 100000
set_option maxHeartbeats 2000000
set_option linter.unusedSimpArgs false
set_option linter.unusedVariables false
namespace LT
open PySem PySem.Spec PyProof.Rows L2
/-! ### term_outcomes -/
def TupsH (H : Hp) (as : List Addr) (rows : List (List Nat)) : Prop := Paired (fun a row => H a = some (.tup (iv row))) as rows
theorem TupsH.mono {H H' : Hp} {as : List Addr} {rows : List (List Nat)} (h : TupsH H as rows) (s : Same H H') : TupsH H' as rows := by
  unfold TupsH at h ⊢
  induction h with
  | nil => exact .nil
  | cons h t ih => exact .cons (s _ _ h) ih
/-- what is tracked, but for the list at d -/
theorem TupsH.upd {H : Hp} {as : List Addr} {rows : List (List Nat)} {d : Addr} {xs ys : List V} (h : TupsH H as rows) (hd : H d = some (.lst xs)) : TupsH (upd H d (.lst ys)) as rows := by
  unfold TupsH at h ⊢
  induction h with
  | nil => exact .nil
  | cons h t ih => exact .cons (by rw [upd_ne (ne_of h hd (by intro z; cases z))]; exact h) ih
theorem TupsH.length {H : Hp} {as : List Addr} {rows : List (List Nat)} (h : TupsH H as rows) : as.length = rows.length := Paired.length h
theorem TupsH.get {H : Hp} {as : List Addr} {rows : List (List Nat)} (h : TupsH H as rows) {i : Nat} {a : Addr} (e : as[i]? = some a) : ∃ row, rows[i]? = some row ∧ H a = some (.tup (iv row)) := paired_get h e
theorem paired_split {α β : Type} {R : α → β → Prop} : ∀ {l : List α} {r1 r2 : List β}, Paired R l (r1 ++ r2) → Paired R (l.take r1.length) r1 ∧ Paired R (l.drop r1.length) r2
  | l, [], r2, h => ⟨.nil, h⟩
  | _, x :: r1, r2, .cons h t => by
    obtain ⟨a, b⟩ := paired_split t
    exact ⟨.cons h a, b⟩
structure Words (w k : Nat) : Prop where
  w1 : 1 ≤ w
  w4 : w ≤ 4
  k2 : k ≤ 2
def spTermOut (K : PySem.W.Frag) : Sp := fun vs H Q _ => ∃ (w k : Nat) (t : Sm08.Term) (a r : Addr) (rows : List (List Nat)), vs = [.ref a, .int ((2 ^ w : Nat) : Int), .ref r] ∧ Words w k ∧ SqL K H a (iv (Sm08.code t)) ∧ fine w k t = true ∧ RowsE K H r rows ∧ (∀ row ∈ rows, RowOk w k row) ∧ rows.length ≤ 1000 ∧ (Sm08.code t).length ≤ 1000 ∧
  ∀ H' p, Same H H' → H' p = some (.tup (iv (outs w rows t))) → Q (.ref p) H'
abbrev sTermOut : Stmt := top 25
theorem scTermOut : FnScope ["term", "size", "rows", "done", "sign", "parts", "part"] ["term", "size", "rows"] (defScope sTermOut) := ⟨rfl, rfl, rfl, by decide +kernel, rfl, by decide +kernel, by decide +kernel⟩
theorem Same.put {H H' : Hp} {d : Addr} {o : HO} (s : Same H H') (hd : H d = none) : Same H (upd H' d o) := fun b x e => by
  rw [upd_ne (ne_of_none e hd)]
  exact s b x e
/-- the loop's state: terms whose outcomes lie on the pile, the topmost last in the list -/
structure Pile (H H' : Hp) (d : Addr) (w k : Nat) (rows : List (List Nat)) (l : List Nat) (cs : List Addr) (ts : List Sm08.Term) : Prop where
  same : Same H H'
  fin : ∀ t ∈ ts, fine w k t = true
  cod : l = ts.flatMap Sm08.code
  lst : H' d = some (.lst (cs.reverse.map V.ref))
  tup : TupsH H' cs (ts.map (outs w rows))
theorem row_leaf {w k : Nat} {rows : List (List Nat)} {t : Sm08.Term} (h : fine w k t = true) (hs : hd t < 20) (hr : ∀ row ∈ rows, RowOk w k row) : hd t < 2 → ∀ row ∈ rows, hd t < row.length := by
  intro h2 row hm
  rw [(hr row hm).1]
  cases t <;> simp [fine, good, Sm08.fitsIn] at h <;> simp [hd] at h2 ⊢ <;> omega
theorem flat_len : ∀ ts : List Sm08.Term, ts.length ≤ (ts.flatMap Sm08.code).length
  | [] => Nat.le_refl _
  | t :: ts => by
    have := code_pos t
    have := flat_len ts
    simp only [List.flatMap_cons, List.length_append, List.length_cons]
    omega
theorem ar_le3 (s : Nat) : ar s ≤ 3 := by
  unfold ar
  split
  · omega
  · split
    · omega
    · split <;> omega
section
variable {P : Program} {wd : World} {K : PySem.W.Frag} {mg : Str → Option Value} {base : Heap}
theorem ok_termOut {f : Addr} {fd : FuncData} (F : Fun K "term_outcomes" "term_outcomes" sTermOut f fd) (mr : mg "reversed" = none) (mrg : mg "range" = none) (h20 : GInt mg "FIRST_OPERATION" 20)
    (GL : CalN P wd K mg base 1 "leaf_outcomes" ["sign", "rows"] (spLeaf K)) (GA : CalN P wd K mg base 1 "arity" ["sign"] spArity) (GO : CalN P wd K mg base 2 "operate" ["operation", "size", "rows"] (spOperate K)) : FnOk P wd K mg base CX0 3 f fd ["term", "size", "rows"] (spTermOut K) := by
  refine F.ok scTermOut (fun vs H Q E h => ?_) (fun cdv A outer s H vs Q E hr h => ?_)
  · obtain ⟨w, k, t, a, r, rows, rfl, _⟩ := h
    rfl
  · obtain ⟨w, k, t, a, r, rows, rfl, hW, hS, hf, hR, hro, hn, hcl, q⟩ := h
    obtain ⟨t20, g20⟩ := h20
    obtain ⟨fL, gL, ⟨fdL, FL, bL, kL⟩⟩ := GL.ex
    obtain ⟨fA, gA, ⟨fdA, FA, bA, kA⟩⟩ := GA.ex
    obtain ⟨fO, gO, ⟨fdO, FO, bO, kO⟩⟩ := GO.ex
    have hr1 : Room 1 _ := hr.mono (by decide)
    refine ⟨_, pss_cons (ps_set (i := 3) scTermOut.nd rfl (Or.inr rfl) (pe_lst pa_nil))
      (pss_cons (ps_for PassesOwn.never rfl (pi_reversed (by rfl) mr (pa_cons (pv 0) pa_nil)) (pg_name (i := 4) scTermOut.nd rfl (Or.inl rfl))
        (pss_one (ps_if (pt_cmpR op_lt (pv 4) (pe_glob (v := .int 20) rfl g20 ⟨_, rfl⟩) (nomark _))
          (pss_one (ps_expr (pe_bm PySem.F.plainAttrs_list PySem.F.slot_list_append PySem.F.type_list_append mt_append (pv 3) (pa_cons (pe_call FL hr1 rfl gL kL bL .nil pass0 (pa_cons (pv 4) (pa_cons (pv 2) pa_nil))) pa_nil))))
          (pss_cons (ps_setLc (i := 5) (own := [("part", 6)]) (g := gName 6) (tt := tYes) (te := tBM0 K "list" rPop (tVar 3)) rfl scTermOut.nd rfl rfl (sw_true rfl rfl rfl (by decide +kernel)) (pi_range1 (by rfl) mrg (pa_cons (pe_call FA hr1 rfl gA kA bA .nil pass0 (pa_cons (pv 4) pa_nil)) pa_nil)) (blkOk_by (N := ["term", "size", "rows", "done", "sign", "parts", "part"]) (sc := defScope sTermOut) (by decide +kernel))
              (fun _ _ _ _ _ => pg_name (i := 6) scTermOut.nd rfl (Or.inl rfl)) (fun _ _ _ _ _ => pts_nil) (fun _ _ _ _ _ => pe_bm0 PySem.F.plainAttrs_list PySem.F.slot_list_pop PySem.F.type_list_pop mt_pop (pv 3)))
          (pss_one (ps_expr (pe_bm PySem.F.plainAttrs_list PySem.F.slot_list_append PySem.F.type_list_append mt_append (pv 3) (pa_cons (pe_call FO hr rfl gO kO bO .nil pass0 (pa_cons (pe_op op_sub (pv 4) (pe_glob (v := .int 20) rfl g20 ⟨_, rfl⟩)) (pa_cons (pv 1) (pa_cons (pv 5) pa_nil)))) pa_nil))))))))
      (pss_one (ps_ret (pe_ix ix_list (pv 3) pe_int (fun _ _ => rfl))))), ?_⟩
    refine ⟨Nat.zero_le _, fun d hd => ?_⟩
    refine ⟨_, rfl, a, iv (Sm08.code t), rfl, Same.seq (same_upd hd) hS, ?_⟩
    refine for_it (walk_rev (K := K) (a := a) (xs := iv (Sm08.code t))) (fun i σ H' => ∃ (v4 v5 : Option V) (cs : List Addr) (ts : List Sm08.Term), σ = [some (.ref a), some (.int ((2 ^ w : Nat) : Int)), some (.ref r), some (.ref d), v4, v5, none] ∧ Pile H H' d w k rows ((Sm08.code t).drop ((Sm08.code t).length - i)) cs ts)
      ⟨none, none, [], [], rfl, same_upd hd, by simp, by simp, upd_same, .nil⟩ (fun i σ H' _ ⟨_, _, _, _, _, p⟩ => Same.seq p.same hS) ?_ ?_
    · rintro i x σ H' H'' hi ⟨v4, v5, cs, ts, rfl, p⟩ ⟨rfl, hx⟩
      rw [iv_len] at hi hx
      obtain ⟨sg, hsg, rfl⟩ := iv_get hx
      -- one sign more in front
      have hdrop : (Sm08.code t).drop ((Sm08.code t).length - (i + 1)) = sg :: (Sm08.code t).drop ((Sm08.code t).length - i) := by
        have e1 : (Sm08.code t).length - (i + 1) < (Sm08.code t).length := by omega
        rw [List.drop_eq_getElem_cons e1]
        have e2 : (Sm08.code t).length - (i + 1) + 1 = (Sm08.code t).length - i := by omega
        rw [e2]
        have e3 : (Sm08.code t).length - 1 - i = (Sm08.code t).length - (i + 1) := by omega
        rw [e3, List.getElem?_eq_getElem e1] at hsg
        rw [Option.some.inj hsg]
      obtain ⟨us, hu, eu⟩ := suffix_terms (w := w) (k := k) _ [t] ((Sm08.code t).take ((Sm08.code t).length - (i + 1))) ((Sm08.code t).drop ((Sm08.code t).length - (i + 1))) (Nat.le_refl _) (by simpa using hf) (by simp)
      rw [hdrop] at eu
      obtain ⟨u, us', rfl, hsu, hts⟩ := sign_front p.fin hu p.cod eu
      have hfu : fine w k u = true := hu u (by simp)
      have lcs : cs.length = ts.length := by have := p.tup.length; simpa using this
      have lts : ts.length ≤ 1000 := by
        have h1 := flat_len ts
        rw [← p.cod, List.length_drop] at h1
        omega
      have body : ∀ (H2 : Hp) (c : Addr) (v5' : Option V) (cs' : List Addr), Same H H2 → H2 d = some (.lst (cs'.reverse.map V.ref)) → TupsH H2 cs' (us'.map (outs w rows)) → H2 c = some (.tup (iv (outs w rows u))) → cs'.length ≤ 1000 →
          ∃ (v4 v5 : Option V) (cs : List Addr) (ts : List Sm08.Term), [some (V.ref a), some (.int ((2 ^ w : Nat) : Int)), some (.ref r), some (.ref d), some (.int (sg : Int)), v5', none] = [some (V.ref a), some (.int ((2 ^ w : Nat) : Int)), some (.ref r), some (.ref d), v4, v5, none] ∧ Pile H (upd H2 d (.lst (cs'.reverse.map V.ref ++ [V.ref c]))) d w k rows ((Sm08.code t).drop ((Sm08.code t).length - (i + 1))) cs ts := by
        intro H2 c v5' cs' sm hd2 tp hc _
        refine ⟨_, _, c :: cs', u :: us', rfl, Same.put sm hd, hu, by rw [hdrop, eu], by rw [upd_same]; simp, ?_⟩
        exact .cons (by rw [upd_ne (ne_of hc hd2 (by intro z; cases z))]; exact hc) (tp.upd hd2)
      refine ⟨_, rfl, _, _, rfl, rfl, _, rfl, ?_⟩
      by_cases c20 : sg < 20
      · -- an input or a number
        refine ifT (decide_eq_true (by omega)) ?_
        have hk0 : kids u = [] := by
          have := ar_hd hfu
          rw [hsu, ar_lo c20] at this
          exact List.length_eq_zero_iff.mp this.symm
        rw [hk0, List.nil_append] at hts
        subst hts
        refine ⟨_, rfl, .inl ⟨rfl, _, SqL.new p.lst⟩, _, rfl, _, rfl, sg, r, rows, rfl, hR.mono p.same, hn, ?_, fun H2 c hN => ?_⟩
        · rw [← hsu]
          exact row_leaf hfu (by rw [hsu]; exact c20) hro
        · have hd2 := hN.same _ _ p.lst
          have eo : leaf rows sg = outs w rows u := by rw [← hsu]; exact outs_leaf rows hfu (by rw [hsu]; exact c20)
          refine ⟨d, _, _, rfl, rfl, hd2, ?_, ?_⟩
          · rw [List.length_map, List.length_reverse, lcs]
            exact small_lt (by omega)
          · exact body H2 c v5 cs (Same.trans p.same hN.same) hd2 (p.tup.mono hN.same) (by rw [← eo]; exact hN.at_) (by omega)
      · -- an operation
        refine ifF (decide_eq_false (by omega)) ?_
        have h32 : sg < 32 := by rw [← hsu]; exact hd_lt hfu
        have har : ar sg = (kids u).length := by rw [← hsu]; exact ar_hd hfu
        have tp0 := p.tup
        rw [hts, List.map_append] at tp0
        obtain ⟨tpk, tpr⟩ := paired_split tp0
        rw [List.length_map] at tpk tpr
        have ar3 : ar sg ≤ 3 := ar_le3 sg
        refine ⟨_, rfl, sg, rfl, h32, (ar sg : Int), rfl, by omega, by omega, ?_⟩
        rw [Int.toNat_natCast]
        intro D hD
        have nDd : d ≠ D := ne_of_none p.lst hD
        refine lc_range (lo := 0) (n := ar sg) (fun j H2 => Same H H2 ∧ H2 d = some (.lst ((cs.drop j).reverse.map V.ref)) ∧ H2 D = some (.lst ((cs.take j).map V.ref)) ∧ TupsH H2 cs (ts.map (outs w rows))) ?_ ?_ ?_
        · refine ⟨Same.put p.same (p.same.free hD), ?_, by rw [upd_same]; rfl, p.tup.mono (same_upd hD)⟩
          rw [upd_ne nDd]
          exact p.lst
        · intro j H2 hj pj
          obtain ⟨sm2, hd2, hD2, tp2⟩ := pj
          refine ⟨rfl, ?_⟩
          unfold tYes; dsimp only
          rw [if_pos rfl]
          have hjc : j < cs.length := by
            have : (kids u).length ≤ ts.length := by rw [hts, List.length_append]; omega
            omega
          have edrop : cs.drop j = cs[j] :: cs.drop (j + 1) := List.drop_eq_getElem_cons hjc
          have e1 : (cs.drop j).reverse.map V.ref = (cs.drop (j + 1)).reverse.map V.ref ++ [V.ref cs[j]] := by rw [edrop, List.reverse_cons, List.map_append]; rfl
          refine ⟨_, rfl, .inl ⟨rfl, _, SqL.new hd2⟩, d, _, V.ref cs[j], rfl, rfl, hd2, ?_, ?_⟩
          · rw [e1]
            simp
          · rw [e1, List.dropLast_concat]
            refine ⟨(cs.take j).map V.ref, ?_, ?_, ?_, ?_, ?_, ?_⟩
            · rw [upd_ne nDd.symm]
              exact hD2
            · rw [List.length_map, List.length_take]
              exact small_lt (by omega)
            · exact Same.put (Same.put sm2 hd) (p.same.free hD)
            · rw [upd_ne nDd, upd_same]
            · rw [upd_same, List.take_add_one, List.getElem?_eq_getElem hjc, List.map_append]
              rfl
            · have t1 := tp2.upd (ys := (cs.drop (j + 1)).reverse.map V.ref) hd2
              exact t1.upd (by rw [upd_ne nDd.symm]; exact hD2)
        · intro H2 ⟨sm2, hd2, hD2, tp2⟩
          rw [har] at hd2 hD2
          rw [hts, List.map_append] at tp2
          obtain ⟨tk, tr⟩ := paired_split tp2
          rw [List.length_map] at tk tr
          have hP : Parts K H2 w rows.length D ((cs.take (kids u).length).zip ((kids u).map (outs w rows))) := by
            have lz : (cs.take (kids u).length).length = ((kids u).map (outs w rows)).length := Paired.length tk
            have em : ((cs.take (kids u).length).zip ((kids u).map (outs w rows))).map (fun p => V.ref p.1) = (cs.take (kids u).length).map V.ref := by
              have : (fun p : Addr × List Nat => V.ref p.1) = V.ref ∘ Prod.fst := rfl
              rw [this, ← List.map_map, List.map_fst_zip (by omega)]
            refine ⟨hW.w4, by rw [em]; exact SqL.new hD2, fun pr hp => ?_, fun pr hp => ?_, fun pr hp => ?_, hn⟩
            · obtain ⟨j, hj⟩ := List.mem_iff_getElem?.mp hp
              obtain ⟨h1, h2⟩ := List.getElem?_zip_eq_some.mp hj
              obtain ⟨row, hrow, ha⟩ := TupsH.get tk h1
              rw [h2] at hrow
              rw [Option.some.inj hrow]
              exact SqT.new ha
            · obtain ⟨y, hy, e⟩ := List.mem_map.mp (List.of_mem_zip hp).2
              rw [← e, outs_len]
            · obtain ⟨y, hy, e⟩ := List.mem_map.mp (List.of_mem_zip hp).2
              rw [← e]
              have fy := fine_kids hfu y hy
              simp [fine] at fy
              exact outs_lt hW.w1 hW.w4 hro fy.2
          have ez : ((cs.take (kids u).length).zip ((kids u).map (outs w rows))).map (·.2) = (kids u).map (outs w rows) := by
            have lz : (cs.take (kids u).length).length = ((kids u).map (outs w rows)).length := Paired.length tk
            exact List.map_snd_zip (by omega)
          have el : ((cs.take (kids u).length).zip ((kids u).map (outs w rows))).length = ary (sg - 20) := by
            have lz : (cs.take (kids u).length).length = ((kids u).map (outs w rows)).length := Paired.length tk
            rw [List.length_zip, lz, Nat.min_self, List.length_map, ← hsu, ary_hd hfu (by rw [hsu]; exact c20)]
          have e20 : (sg : Int) - 20 = ((sg - 20 : Nat) : Int) := by omega
          refine ⟨_, rfl, .inl ⟨rfl, _, SqL.new hd2⟩, _, rfl, _, _, rfl, rfl, _, rfl, _, rfl, sg - 20, w, rows.length, D, _, ?_, by omega, hP, el, fun H3 c hN => ?_⟩
          · show [V.int ((sg : Int) - 20), V.int ((2 ^ w : Nat) : Int), V.ref D] = _
            rw [e20]
          · rw [ez] at hN
            have eo : opRow w (sg - 20) ((kids u).map (outs w rows)) = outs w rows u := by rw [← hsu]; exact outs_op rows hfu (by rw [hsu]; exact c20)
            rw [eo] at hN
            have hd3 := hN.same _ _ hd2
            refine ⟨d, _, _, rfl, rfl, hd3, ?_, ?_⟩
            · rw [List.length_map, List.length_reverse, List.length_drop]
              exact small_lt (by omega)
            · exact body H3 c (some (.ref D)) (cs.drop (kids u).length) (Same.trans sm2 hN.same) hd3 (TupsH.mono tr hN.same) hN.at_ (by rw [List.length_drop]; omega)
    · rintro σ H' ⟨v4, v5, cs, ts, rfl, p⟩
      rw [iv_len, Nat.sub_self, List.drop_zero] at p
      have e : ts = [t] := parse_unique (w := w) (k := k) ts [t] p.fin (by simpa using hf) (by rw [← p.cod]; simp)
      subst e
      have hc := p.tup
      simp only [List.map_cons, List.map_nil] at hc
      cases hc with
      | cons h1 h2 =>
        cases h2
        have h1' := h1
        refine ⟨_, rfl, d, _, 0, .ref _, rfl, rfl, SqL.new p.lst, rfl, q _ _ p.same h1⟩
end
end LT
set_option Elab.async false
set_option maxRecDepth 100000
set_option maxHeartbeats 2000000
set_option linter.unusedSimpArgs false
set_option linter.unusedVariables false
namespace LT
open PySem PySem.Spec PyProof.Rows L2
/-! ### Search: dicts from things to terms' signs -/
def keyOf (v : List Nat) : List Key := v.map fun (n : Nat) => (Sum.inl (n : Int) : Key)
theorem key_iv (v : List Nat) : (keyOf v).map kV = iv v := by simp [keyOf, iv, kV]
theorem key_inj : ∀ {v u : List Nat}, keyOf v = keyOf u → v = u
  | [], [], _ => rfl
  | [], _ :: _, h => by simp [keyOf] at h
  | _ :: _, [], h => by simp [keyOf] at h
  | a :: v, b :: u, h => by
    simp only [keyOf, List.map_cons, List.cons.injEq, Sum.inl.injEq] at h
    have := key_inj (v := v) (u := u) h.2
    have : a = b := by omega
    subst this
    simp_all
/-- an entry of a level in the heap -/
def EntAt (H : Hp) (e : Ent) (kv : List Key × V) : Prop := kv.1 = keyOf e.1 ∧ ∃ c, kv.2 = .ref c ∧ H c = some (.lst (iv e.2))
def LvRel (H : Hp) (l : List Ent) (kvs : List (List Key × V)) : Prop := Paired (EntAt H) l kvs
theorem EntAt.mono {H H' : Hp} {e : Ent} {kv : List Key × V} (h : EntAt H e kv) (s : ∀ c xs, H c = some (.lst xs) → H' c = some (.lst xs)) : EntAt H' e kv := by
  obtain ⟨h1, c, h2, h3⟩ := h
  exact ⟨h1, c, h2, s _ _ h3⟩
theorem LvRel.mono {H H' : Hp} {l : List Ent} {kvs : List (List Key × V)} (h : LvRel H l kvs) (s : ∀ c xs, H c = some (.lst xs) → H' c = some (.lst xs)) : LvRel H' l kvs := by
  unfold LvRel at h ⊢
  induction h with
  | nil => exact .nil
  | cons h t ih => exact .cons (h.mono s) ih
theorem LvRel.val {H : Hp} {l : List Ent} {kvs : List (List Key × V)} (h : LvRel H l kvs) (v : List Nat) : match lookE l v with
    | none => valV kvs (keyOf v) = none
    | some s => ∃ c, valV kvs (keyOf v) = some (.ref c) ∧ H c = some (.lst (iv s)) := by
  unfold LvRel at h
  induction h with
  | nil => rfl
  | @cons e kv l kvs h t ih =>
    obtain ⟨h1, c, h2, h3⟩ := h
    by_cases q : e.1 = v
    · have e1 : lookE (e :: l) v = some e.2 := by simp [lookE, q]
      rw [e1]
      exact ⟨c, by rw [valV_pos (by rw [h1, q]), h2], h3⟩
    · have e1 : lookE (e :: l) v = lookE l v := by simp [lookE, q]
      have e2 : valV (kv :: kvs) (keyOf v) = valV kvs (keyOf v) := valV_neg (by rw [h1]; exact fun z => q (key_inj z))
      rw [e1]
      simp only [e2]
      exact ih
theorem LvRel.val_some {H : Hp} {l : List Ent} {kvs : List (List Key × V)} (h : LvRel H l kvs) (v : List Nat) : (valV kvs (keyOf v)).isSome = (lookE l v).isSome := by
  have := h.val v
  cases e : lookE l v with
  | none => rw [e] at this; simp only at this; rw [this]; rfl
  | some s => rw [e] at this; obtain ⟨c, h1, _⟩ := this; rw [h1]; rfl
theorem putK_ne {kvs : List (List Key × V)} {kv : List Key × V} {k : List Key} {v : V} (h : ¬ kv.1 = k) : putK (kv :: kvs) k v = kv :: putK kvs k v := by
  unfold putK
  simp only [List.any_cons, h, decide_false, Bool.false_or, List.map_cons, if_false]
  split <;> rfl
theorem putK_eq {kvs : List (List Key × V)} {kv : List Key × V} {k : List Key} {v : V} (h : kv.1 = k) (hn : k ∉ kvs.map (·.1)) : putK (kv :: kvs) k v = (kv.1, v) :: kvs := by
  unfold putK
  simp only [List.any_cons, h, decide_true, Bool.true_or, if_true, List.map_cons]
  congr 1
  have : ∀ p ∈ kvs, (if p.1 = k then (p.1, v) else p) = p := fun p hp => if_neg fun z => hn (by rw [← z]; exact List.mem_map_of_mem (f := (·.1)) hp)
  rw [List.map_congr_left this]
  simp
theorem LvRel.keys {H : Hp} {l : List Ent} {kvs : List (List Key × V)} (h : LvRel H l kvs) : kvs.map (·.1) = l.map fun e => keyOf e.1 := by
  unfold LvRel at h
  induction h with
  | nil => rfl
  | cons h t ih => rw [List.map_cons, List.map_cons, ih, h.1]
theorem LvRel.length {H : Hp} {l : List Ent} {kvs : List (List Key × V)} (h : LvRel H l kvs) : l.length = kvs.length := Paired.length h
theorem LvRel.put {H : Hp} {l : List Ent} {kvs : List (List Key × V)} (h : LvRel H l kvs) (hn : (l.map (·.1)).Nodup) {v s : List Nat} {c : Addr} (hc : H c = some (.lst (iv s))) : LvRel H (putE l v s) (putK kvs (keyOf v) (.ref c)) := by
  unfold LvRel at h
  induction h with
  | nil => exact .cons ⟨rfl, c, rfl, hc⟩ .nil
  | @cons e kv l kvs h t ih =>
    simp only [List.map_cons, List.nodup_cons] at hn
    by_cases q : e.1 = v
    · have hk : keyOf v ∉ kvs.map (·.1) := by
        rw [LvRel.keys t]
        intro hm
        obtain ⟨e', he', z⟩ := List.mem_map.mp hm
        exact hn.1 (by rw [q, ← key_inj z]; exact List.mem_map_of_mem (f := (·.1)) he')
      rw [putK_eq (by rw [h.1, q]) hk]
      simp only [putE, if_pos q]
      exact .cons ⟨by rw [h.1, q], c, rfl, hc⟩ t
    · rw [putK_ne (by rw [h.1]; exact fun z => q (key_inj z))]
      simp only [putE, if_neg q]
      exact .cons h (ih hn.2)
/-- the class Search, as the top has written it -/
structure SCls (K : PySem.W.Frag) (C : Addr) : Prop where
  cl : Cls K C
  nL : NoAttr K C "language"
  nR : NoAttr K C "rows"
  nV : NoAttr K C "levels"
  nK : NoAttr K C "known"
/-- a search: its fields -/
def sF (lg rw lv kn : Addr) : List (Str × V) := [("language", .ref lg), ("rows", .ref rw), ("levels", .ref lv), ("known", .ref kn)]
theorem lk_here {k : Str} {v : V} {r : List (Str × V)} : List.lookup k ((k, v) :: r) = some v := by
  have e : (k == k) = true := beq_self_eq_true k
  simp only [List.lookup, e]
theorem lk_past {k g : Str} {v : V} {r : List (Str × V)} (h : (k == g) = false) : List.lookup k ((g, v) :: r) = List.lookup k r := by
  simp only [List.lookup, h]
theorem sF_language (lg rw lv kn : Addr) : (sF lg rw lv kn).lookup ("language" : Str) = some (.ref lg) := lk_here
theorem sF_rows (lg rw lv kn : Addr) : (sF lg rw lv kn).lookup ("rows" : Str) = some (.ref rw) := (lk_past (by decide +kernel)).trans lk_here
theorem sF_levels (lg rw lv kn : Addr) : (sF lg rw lv kn).lookup ("levels" : Str) = some (.ref lv) := (lk_past (by decide +kernel)).trans ((lk_past (by decide +kernel)).trans lk_here)
theorem sF_known (lg rw lv kn : Addr) : (sF lg rw lv kn).lookup ("known" : Str) = some (.ref kn) := (lk_past (by decide +kernel)).trans ((lk_past (by decide +kernel)).trans ((lk_past (by decide +kernel)).trans lk_here))
def knownD (kk : List (List Key × V)) (v : List Nat) : Bool := (valV kk (keyOf v)).isSome
/-- all that is tracked stays but what stands at d -/
def SameBut (d : Addr) (H H' : Hp) : Prop := ∀ b o, b ≠ d → H b = some o → H' b = some o
def spOffer (C : Addr) : Sp := fun vs H Q _ => ∃ (S dx lg rw lv kn d b c : Addr) (kk kvs : List (List Key × V)) (l : List Ent) (v s : List Nat), vs = [.ref S, .ref d, .ref b, .ref c] ∧ H S = some (.ins C dx (sF lg rw lv kn)) ∧ H kn = some (.dT kk) ∧ H d = some (.dT kvs) ∧ d ≠ kn ∧
  LvRel H l kvs ∧ (l.map (·.1)).Nodup ∧ l.length ≤ 100000 ∧ H b = some (.tup (iv v)) ∧ H c = some (.lst (iv s)) ∧
  ∀ H' kvs', SameBut d H H' → H' d = some (.dT kvs') → LvRel H' (offer (knownD kk) l (v, s)) kvs' → Q .non H'
abbrev sOffer : Stmt := inClass (top 37) 4
theorem scOffer : FnScope ["self", "level", "thing", "signs"] ["self", "level", "thing", "signs"] (defScope sOffer) := ⟨rfl, rfl, rfl, by decide +kernel, rfl, by decide +kernel, by decide +kernel⟩
section
variable {P : Program} {wd : World} {K : PySem.W.Frag} {mg : Str → Option Value} {base : Heap} {C : Addr}
theorem ok_offer {f : Addr} {fd : FuncData} {k : Nat} (F : Fun K "offer" "Search.offer" sOffer f fd) (T : SCls K C) : FnOk P wd K mg base CX0 (k + 1) f fd ["self", "level", "thing", "signs"] (spOffer C) := by
  refine F.ok scOffer (fun vs H Q E h => ?_) (fun cdv A outer s H vs Q E hr h => ?_)
  · obtain ⟨S, dx, lg, rw, lv, kn, d, b, c, kk, kvs, l, v, s, rfl, _⟩ := h
    rfl
  · obtain ⟨S, dx, lg, rw, lv, kn, d, b, c, kk, kvs, l, v, sg, rfl, hS, hk, hd, hne, hl, hnd, hsz, hb, hc, q⟩ := h
    refine ⟨_, pss_cons (ps_if (pt_cmp (pc_din (hu_of hr) (pv 2) (pe_fld (pv 0) rfl))) (pss_one ps_retN) pss_nil)
      (pss_one (ps_if (PW.pt (pw_or (pt_cmp (pc_dnotin (hu_of hr) (pv 2) (pv 1))) (pw_or1 (pt_cmpR (op_ltL (Nat.lt_of_succ_lt (hu_of hr))) (pv 3) (pe_dget (hu_of hr) (pv 1) (pv 2) (fun _ _ => rfl)) (nomark _)))))
        (pss_one (ps_dput (hu_of hr) (pv 1) (pv 2) (pv 3) rfl)) pss_nil)), ?_⟩
    have key : (keyOf v).map kV = iv v := key_iv v
    have gk : DGet H kn (.ref b) (valV kk (keyOf v)) := DGet.t hk (by rw [key]; exact hb)
    have gd : DGet H d (.ref b) (valV kvs (keyOf v)) := DGet.t hd (by rw [key]; exact hb)
    have gp : DPut H d (.ref b) (.ref c) (upd H d (.dT (putK kvs (keyOf v) (.ref c)))) := DPut.t hd (by rw [key]; exact hb) (by rw [← hl.length]; exact small_lt (by omega))
    have lst2 : ∀ c' xs, H c' = some (.lst xs) → (upd H d (.dT (putK kvs (keyOf v) (.ref c)))) c' = some (.lst xs) := fun c' xs e => by
      rw [upd_ne (ne_of e hd (by intro z; cases z))]
      exact e
    refine ⟨_, rfl, _, rfl, S, C, dx, _, _, rfl, hS, T.cl, T.nK, sF_known .., kn, _, rfl, gk, _, rfl, ?_⟩
    by_cases c1 : knownD kk v = true
    · refine ifT c1 ?_
      refine q H kvs (fun b o _ e => e) hd ?_
      unfold offer
      rw [if_pos c1]
      exact hl
    · have c1' : (valV kk (keyOf v)).isSome = false := by simpa [knownD] using c1
      refine ifF c1' ?_
      have off : offer (knownD kk) l (v, sg) = match lookE l v with
        | none => putE l v sg
        | some c => if Sm08.before sg c = true then putE l v sg else l := by
        unfold offer
        rw [if_neg c1] <;> rfl
      have hv := hl.val v
      have hvs := hl.val_some v
      refine ⟨_, rfl, _, rfl, d, _, rfl, gd, _, rfl, ?_⟩
      cases e : lookE l v with
      | none =>
        rw [e] at hvs off
        refine ifT (by rw [hvs]; rfl) ?_
        refine ifT rfl ?_
        refine ⟨_, rfl, _, rfl, _, rfl, d, _, rfl, gp, ?_⟩
        refine q _ _ (fun b o hb' e => by rw [upd_ne hb']; exact e) upd_same ?_
        rw [off]
        exact (hl.put hnd hc).mono lst2
      | some s0 =>
        rw [e] at hvs off hv
        obtain ⟨c0, hv1, hc0⟩ := hv
        refine ifF (by rw [hvs]; rfl) ?_
        refine ⟨_, rfl, _, rfl, _, rfl, d, .ref c0, rfl, by rw [← hv1]; exact gd, c, c0, sg, s0, rfl, rfl, SqL.new hc, SqL.new hc0, _, rfl, ?_⟩
        by_cases c2 : Sm08.before sg s0 = true
        · refine ifT c2 ?_
          refine ⟨_, rfl, _, rfl, _, rfl, d, _, rfl, gp, ?_⟩
          refine q _ _ (fun b o hb' e => by rw [upd_ne hb']; exact e) upd_same ?_
          rw [off]
          simp only [if_pos c2]
          exact (hl.put hnd hc).mono lst2
        · refine ifF (by simpa using c2) ?_
          refine q H kvs (fun b o _ e => e) hd ?_
          rw [off]
          simp only [if_neg c2]
          exact hl
end
end LT
set_option Elab.async false
set_option maxRecDepth 100000
set_option maxHeartbeats 2000000
set_option linter.unusedSimpArgs false
set_option linter.unusedVariables false
namespace LT
open PySem PySem.Spec PyProof.Rows L2
/-! ### part_rows -/
/-- a part: a tuple of a thing and its term's signs; Z: the lists of signs that are there -/
def PartAt (Z : Addr → Prop) (H : Hp) (T : Addr) (e : Ent) : Prop := ∃ q c, H T = some (.tup [.ref q, .ref c]) ∧ H q = some (.tup (iv e.1)) ∧ Z c ∧ H c = some (.lst (iv e.2))
def RowPart (Z : Addr → Prop) (H : Hp) (x : Addr) (ps : List Ent) : Prop := ∃ Ts : List Addr, H x = some (.lst (Ts.map V.ref)) ∧ Paired (PartAt Z H) Ts ps
def RowsP (Z : Addr → Prop) (H : Hp) (xs : List Addr) (rows : List (List Ent)) : Prop := Paired (RowPart Z H) xs rows
/-- tuples stay, and the lists of signs -/
structure Stay (Z : Addr → Prop) (H H' : Hp) : Prop where
  tup : ∀ t ys, H t = some (.tup ys) → H' t = some (.tup ys)
  lst : ∀ c ys, Z c → H c = some (.lst ys) → H' c = some (.lst ys)
theorem paired_imp2 {α β : Type} {R S : α → β → Prop} {l : List α} {r : List β} (h : Paired R l r) (f : ∀ a b, b ∈ r → R a b → S a b) : Paired S l r := by
  induction h with
  | nil => exact .nil
  | cons h t ih => exact .cons (f _ _ (by simp) h) (ih fun a b hb => f a b (by simp [hb]))
theorem parts_row_len (lv : Nat → List Ent) : ∀ (c m : Nat) (ps : List Ent), ps ∈ partsM lv c m → ps.length = c
  | 0, m, ps, h => by
    simp only [partsM] at h
    split at h
    · simp at h; simp [h]
    · cases h
  | c + 1, m, ps, h => by
    simp only [partsM, List.mem_flatMap, List.mem_map] at h
    obtain ⟨f, _, others, ho, a, _, rfl⟩ := h
    simp [parts_row_len lv c _ others ho]
theorem flat_take_len {α β : Type} (f : α → List β) (l : List α) (j : Nat) : ((l.take j).flatMap f).length ≤ (l.flatMap f).length := by
  have e : l.flatMap f = (l.take j).flatMap f ++ (l.drop j).flatMap f := by rw [← List.flatMap_append, List.take_append_drop]
  rw [e, List.length_append]
  omega
theorem flat_pre_len {β : Type} (g : Nat → List β) (h : List β) {i m : Nat} (hi : i < m) (hh : h.length ≤ (g (1 + i)).length) : ((List.range' 1 i).flatMap g ++ h).length ≤ ((List.range' 1 m).flatMap g).length := by
  have e : List.range' 1 m = List.range' 1 i ++ (1 + i) :: List.range' (1 + i + 1) (m - i - 1) := by
    have e1 : m = i + (m - i) := by omega
    have e2 : m - i = (m - i - 1) + 1 := by omega
    rw [e1, List.range'_append_1.symm, e2, List.range'_succ]
    congr 3
    omega
  rw [e, List.flatMap_append, List.flatMap_cons, List.length_append, List.length_append, List.length_append]
  omega
theorem PartAt.mono {Z : Addr → Prop} {H H' : Hp} {T : Addr} {e : Ent} (h : PartAt Z H T e) (s : Stay Z H H') : PartAt Z H' T e := by
  obtain ⟨q, c, h1, h2, h3, h4⟩ := h
  exact ⟨q, c, s.tup _ _ h1, s.tup _ _ h2, h3, s.lst _ _ h3 h4⟩
theorem RowPart.mono {Z : Addr → Prop} {H H' : Hp} {x : Addr} {ps : List Ent} (h : RowPart Z H x ps) (s : Stay Z H H') (hx : ∀ ys, H x = some (.lst ys) → H' x = some (.lst ys)) : RowPart Z H' x ps := by
  obtain ⟨Ts, h1, h2⟩ := h
  exact ⟨Ts, hx _ h1, paired_imp h2 fun _ _ _ p => p.mono s⟩
theorem RowsP.mono {Z : Addr → Prop} {H H' : Hp} {xs : List Addr} {rows : List (List Ent)} (h : RowsP Z H xs rows) (s : Stay Z H H') (hx : ∀ x ∈ xs, ∀ ys, H x = some (.lst ys) → H' x = some (.lst ys)) : RowsP Z H' xs rows :=
  paired_imp h fun x _ hm p => p.mono s (hx x hm)
theorem Stay.same {Z : Addr → Prop} {H H' : Hp} (s : Same H H') : Stay Z H H' := ⟨fun _ _ e => s _ _ e, fun _ _ _ e => s _ _ e⟩
theorem Stay.trans {Z : Addr → Prop} {H H1 H2 : Hp} (a : Stay Z H H1) (b : Stay Z H1 H2) : Stay Z H H2 := ⟨fun t ys e => b.tup _ _ (a.tup _ _ e), fun c ys z e => b.lst _ _ z (a.lst _ _ z e)⟩
/-- a list that is none of Z's is stored -/
theorem Stay.put {Z : Addr → Prop} {H : Hp} {d : Addr} {xs ys : List V} (hd : H d = some (.lst xs)) (hz : ¬ Z d) : Stay Z H (upd H d (.lst ys)) :=
  ⟨fun t zs e => by rw [upd_ne (ne_of e hd (by intro z; cases z))]; exact e, fun c zs z e => by rw [upd_ne (fun q => hz (by rw [← q]; exact z))]; exact e⟩
/-- a dict is locked, or let free -/
theorem Stay.dict {Z : Addr → Prop} {H : Hp} {d : Addr} {o o' : HO} (hd : H d = some o) (h1 : ∀ ys, o ≠ .tup ys) (h2 : ∀ ys, o ≠ .lst ys) : Stay Z H (upd H d o') :=
  ⟨fun t zs e => by rw [upd_ne (fun q => by rw [q, hd] at e; exact h1 _ (Option.some.inj e))]; exact e, fun c zs _ e => by rw [upd_ne (fun q => by rw [q, hd] at e; exact h2 _ (Option.some.inj e))]; exact e⟩
/-- the levels: a list of dicts -/
structure LevelsAt (Z : Addr → Prop) (H : Hp) (lv : Addr) (lvl : Nat → List Ent) (n : Nat) : Prop where
  ex : ∃ ds : List Addr, H lv = some (.lst (ds.map V.ref)) ∧ ds.length = n ∧ ∀ f d, ds[f]? = some d → ∃ kvs, H d = some (.dT kvs) ∧ LvRel H (lvl f) kvs ∧ ∀ c, V.ref c ∈ kvs.map (·.2) → Z c
theorem LevelsAt.mono {Z : Addr → Prop} {H H' : Hp} {lv : Addr} {lvl : Nat → List Ent} {n : Nat} (h : LevelsAt Z H lv lvl n) (s : Same H H') : LevelsAt Z H' lv lvl n := by
  obtain ⟨ds, h1, h2, h3⟩ := h.ex
  refine ⟨ds, s _ _ h1, h2, fun f d e => ?_⟩
  obtain ⟨kvs, a, b, c⟩ := h3 f d e
  exact ⟨kvs, s _ _ a, b.mono fun _ _ z => s _ _ z, c⟩
def spParts (c : Nat) : Sp := fun vs H Q _ => ∃ (Z : Addr → Prop) (lv : Addr) (lvl : Nat → List Ent) (n : Nat) (cost : Int), vs = [.ref lv, .int (c : Int), .int cost] ∧ (c = 0 → 0 ≤ cost) ∧ cost < (n : Int) ∧ n ≤ 1000 ∧ c ≤ 10 ∧ -1000 ≤ cost ∧ (∀ x, Z x → ∃ ys, H x = some (.lst ys)) ∧ LevelsAt Z H lv lvl n ∧
  (∀ c' ≤ c, ∀ m, m < n → (partsM lvl c' m).length ≤ 10000) ∧ (∀ f, (lvl f).length ≤ 100000) ∧
  ∀ H' p xs, Same H H' → H p = none → H' p = some (.lst (xs.map V.ref)) → RowsP Z H' xs (partsM lvl c cost.toNat) → (∀ x ∈ xs, H x = none) → Q (.ref p) H'
abbrev sParts : Stmt := top 38
theorem scParts : FnScope ["levels", "count", "cost", "rows", "first_cost", "others", "part"] ["levels", "count", "cost"] (defScope sParts) := ⟨rfl, rfl, rfl, by decide +kernel, rfl, by decide +kernel, by decide +kernel⟩
theorem take_flat {α β : Type} {l : List α} {i : Nat} {x : α} (f : α → List β) (h : l[i]? = some x) : (l.take (i + 1)).flatMap f = (l.take i).flatMap f ++ f x := by
  rw [List.take_add_one, h, List.flatMap_append]
  simp
theorem lvrel_get {H : Hp} {l : List Ent} {kvs : List (List Key × V)} (h : LvRel H l kvs) {i : Nat} {k : List Key} {v : V} (e : kvs[i]? = some (k, v)) : ∃ en, l[i]? = some en ∧ EntAt H en (k, v) := by
  unfold LvRel at h
  induction h generalizing i with
  | nil => simp at e
  | cons h t ih =>
    cases i with
    | zero => simp at e; subst e; exact ⟨_, rfl, h⟩
    | succ i => simpa using ih (by simpa using e)
structure Out (Z : Addr → Prop) (H H' : Hp) (rw : Addr) (xs : List Addr) (rows : List (List Ent)) : Prop where
  same : Same H H'
  at_ : H' rw = some (.lst (xs.map V.ref))
  rp : RowsP Z H' xs rows
  nx : ∀ x ∈ xs, H x = none ∧ x ≠ rw
theorem RowsP.length {Z : Addr → Prop} {H : Hp} {xs : List Addr} {rows : List (List Ent)} (h : RowsP Z H xs rows) : xs.length = rows.length := Paired.length h
/-- what the comprehension over a level makes -/
structure Made (Z : Addr → Prop) (H Hc : Hp) (d D : Addr) (od : Obj) (kvs : List (List Key × V)) (ys : List Addr) (rows : List (List Ent)) : Prop where
  frz : Hc d = some (.frz od (.dT kvs))
  keep : ∀ b o, b ≠ d → H b = some o → Hc b = some o
  at_ : Hc D = some (.lst (ys.map V.ref))
  rp : RowsP Z Hc ys rows
  nx : ∀ y ∈ ys, H y = none ∧ y ≠ D
theorem Made.step {Z : Addr → Prop} {H Hc : Hp} {d D T q c p1 p2 : Addr} {od : Obj} {kvs : List (List Key × V)} {ys Ts : List Addr} {rows : List (List Ent)} {e : Ent} {ps : List Ent} (m : Made Z H Hc d D od kvs ys rows) (hZ : ∀ x, Z x → ∃ zs, H x = some (.lst zs)) (hDn : H D = none) (hDd : D ≠ d)
    (hd : ∀ zs, H d ≠ some (.lst zs)) (hT : Hc T = none) (hq : Hc q = some (.tup (iv e.1))) (zc : Z c) (hc : H c = some (.lst (iv e.2)))
    (h5 : Paired (PartAt Z H) Ts ps) (hp1 : (upd Hc T (.tup [.ref q, .ref c])) p1 = none) (hp2 : (upd (upd Hc T (.tup [.ref q, .ref c])) p1 (.lst [V.ref T])) p2 = none) (hdt : ∀ zs, H d ≠ some (.tup zs)) :
    Made Z H (upd (upd (upd (upd Hc T (.tup [.ref q, .ref c])) p1 (.lst [V.ref T])) p2 (.lst ([V.ref T] ++ Ts.map V.ref))) D (.lst (ys.map V.ref ++ [.ref p2]))) d D od kvs (ys ++ [p2]) (rows ++ [e :: ps]) := by
  have s1 : Same Hc (upd Hc T (.tup [.ref q, .ref c])) := same_upd hT
  have s2 := same_upd (o := .lst [V.ref T]) hp1
  have s3 := same_upd (o := .lst ([V.ref T] ++ Ts.map V.ref)) hp2
  have s : Same Hc (upd (upd (upd Hc T (.tup [.ref q, .ref c])) p1 (.lst [V.ref T])) p2 (.lst ([V.ref T] ++ Ts.map V.ref))) := (s1.trans s2).trans s3
  have nTD : T ≠ D := (ne_of_none m.at_ hT).symm
  have np2D : p2 ≠ D := (ne_of_none (s2 _ _ (s1 _ _ m.at_)) hp2).symm
  have zD : ¬ Z D := fun z => by obtain ⟨zs, hz⟩ := hZ D z; rw [hDn] at hz; cases hz
  have keep : ∀ b o, b ≠ D → Hc b = some o → (upd (upd (upd (upd Hc T (.tup [.ref q, .ref c])) p1 (.lst [V.ref T])) p2 (.lst ([V.ref T] ++ Ts.map V.ref))) D (.lst (ys.map V.ref ++ [.ref p2]))) b = some o := fun b o hb e => by
    rw [upd_ne hb]
    exact s _ _ e
  have st : Stay Z Hc (upd (upd (upd (upd Hc T (.tup [.ref q, .ref c])) p1 (.lst [V.ref T])) p2 (.lst ([V.ref T] ++ Ts.map V.ref))) D (.lst (ys.map V.ref ++ [.ref p2]))) :=
    (Stay.same s).trans (Stay.put (s _ _ m.at_) zD)
  have stH : Stay Z H Hc := ⟨fun t zs e => m.keep _ _ (fun z => hdt zs (by rw [← z]; exact e)) e, fun c' zs _ e => m.keep _ _ (fun z => hd zs (by rw [← z]; exact e)) e⟩
  refine ⟨keep _ _ hDd.symm m.frz, fun b o hb e => keep _ _ (fun z => by rw [z, hDn] at e; cases e) (m.keep b o hb e), by rw [upd_same, List.map_append]; rfl, ?_, ?_⟩
  · refine paired_append (m.rp.mono st fun y hy zs e => keep _ _ (m.nx y hy).2 e) (.cons ⟨T :: Ts, ?_, .cons ⟨q, c, ?_, keep _ _ (fun z => by rw [z, m.at_] at hq; cases hq) hq, zc, st.lst _ _ zc (stH.lst _ _ zc hc)⟩ (paired_imp h5 fun _ _ _ p => (p.mono stH).mono st)⟩ .nil)
    · rw [upd_ne np2D, upd_same]
      rfl
    · rw [upd_ne nTD]
      exact s3 _ _ (s2 _ _ upd_same)
  · intro y hy
    rcases List.mem_append.mp hy with hy | hy
    · exact m.nx y hy
    · have e : y = p2 := by simpa using hy
      subst e
      refine ⟨?_, np2D⟩
      cases e2 : H y with
      | none => rfl
      | some o =>
        by_cases z : y = d
        · rw [z] at hp2
          rw [s2 _ _ (s1 _ _ m.frz)] at hp2
          cases hp2
        · rw [s2 _ _ (s1 _ _ (m.keep _ _ z e2))] at hp2
          cases hp2
section
variable {P : Program} {wd : World} {K : PySem.W.Frag} {mg : Str → Option Value} {base : Heap}
theorem ok_parts0 {f : Addr} {fd : FuncData} (F : Fun K "part_rows" "part_rows" sParts f fd) (mrg : mg "range" = none) (gf : mg "part_rows" = some (.ref f)) (kf : PySem.W.keepIn K (.ref f) = true) (bf : Binds K fd ["levels", "count", "cost"] []) : ∀ c, FnOk P wd K mg base CX0 (c + 1) f fd ["levels", "count", "cost"] (spParts c) := by
  intro c
  induction c with
  | zero =>
    refine F.ok scParts (fun vs H Q E h => ?_) (fun cdv A outer s H vs Q E hr h => ?_)
    · obtain ⟨Z, lv, lvl, n, cost, rfl, _⟩ := h
      rfl
    · obtain ⟨Z, lv, lvl, n, cost, rfl, h0, hn, hn1, hc10, hc1, hZ, hL, hb, hb2, q⟩ := h
      have h0 := h0 rfl
      refine ⟨_, pss_cons (ps_if (pt_cmpR op_eq (pv 1) pe_int (nomark _)) (pss_one (ps_ret (pe_ifExp (pt_cmpR op_eq (pv 2) pe_int (nomark _)) (pe_lst (pa_cons (pe_lst pa_nil) pa_nil)) (pe_lst pa_nil)))) pss_nil) pss_never, ?_⟩
      refine ⟨_, rfl, rfl, _, rfl, ?_⟩
      refine ifT (decide_eq_true rfl) ?_
      refine ⟨_, rfl, rfl, _, rfl, ?_⟩
      by_cases c0 : cost = 0
      · refine ifT (decide_eq_true (by rw [c0])) ?_
        refine ⟨Nat.zero_le _, fun x hx => ⟨by show 1 ≤ sizeLine; decide, fun p hp => ?_⟩⟩
        have nxp : x ≠ p := fun z => by rw [← z, upd_same] at hp; cases hp
        have hp' : H p = none := by rw [upd_ne nxp.symm] at hp; exact hp
        refine q _ p [x] (Same.trans (same_upd hx) (same_upd hp)) hp' upd_same ?_ (by simpa using hx)
        subst c0
        refine .cons ⟨[], ?_, .nil⟩ .nil
        rw [upd_ne nxp, upd_same]
        rfl
      · refine ifF (decide_eq_false (fun z => c0 (by cases z; rfl))) ?_
        refine ⟨Nat.zero_le _, fun p hp => ?_⟩
        refine q _ p [] (same_upd hp) hp upd_same ?_ (by simp)
        have e : cost.toNat ≠ 0 := by omega
        simp only [partsM, if_neg e]
        exact .nil
  | succ c ih =>
    refine F.ok scParts (fun vs H Q E h => ?_) (fun cdv A outer s H vs Q E hr h => ?_)
    · obtain ⟨Z, lv, lvl, n, cost, rfl, _⟩ := h
      rfl
    · obtain ⟨Z, lv, lvl, n, cost, rfl, _, hn, hn1, hc10, hc1, hZ, hL, hb, hb2, q⟩ := h
      refine ⟨_, pss_cons (ps_if (pt_cmpR op_eq (pv 1) pe_int (nomark _)) pss_never pss_nil)
        (pss_cons (ps_set (i := 3) scParts.nd rfl (Or.inl rfl) (pe_lst pa_nil))
        (pss_cons (ps_for PassesOwn.never rfl (pi_range2 (by rfl) mrg (pa_cons pe_int (pa_cons (pe_op op_add (pe_op op_sub (pv 2) (pv 1)) pe_int) pa_nil))) (pg_name (i := 4) scParts.nd rfl (Or.inl rfl))
          (pss_one (ps_for PassesOwn.never rfl (pi_list (pe_call ih hr rfl gf kf bf .nil pass0 (pa_cons (pv 0) (pa_cons (pe_op op_sub (pv 1) pe_int) (pa_cons (pe_op op_sub (pv 2) (pv 4)) pa_nil))))) (pg_name (i := 5) scParts.nd rfl (Or.inr rfl))
            (pss_one (ps_expr (pe_bm PySem.F.plainAttrs_list PySem.F.slot_list_extend PySem.F.type_list_extend mt_extend (pv 3) (pa_cons (pe_lock
              (pe_lc (own := [("part", 6)]) (g := gName 6) (tt := tYes) (te := tOp rCat (tLst (tCons (tVar 6) tNil)) (tVar 5)) rfl scParts.nd (pi_itemsTN (pe_ix ix_list (pv 0) (pv 4) (fun _ _ => rfl))) (blkOk_by (N := ["levels", "count", "cost", "rows", "first_cost", "others", "part"]) (sc := defScope sParts) (by decide +kernel))
                (fun _ _ _ _ _ => pg_name (i := 6) scParts.nd rfl (Or.inl rfl)) (fun _ _ _ _ _ => pts_nil) (fun _ _ _ _ _ => pe_op op_cat (pe_lst (pa_cons (pv 6) pa_nil)) (pv 5)))) pa_nil)))))))
        (pss_one (ps_ret (pv 3))))), ?_⟩
      refine ⟨_, rfl, rfl, _, rfl, ?_⟩
      refine ifF (decide_eq_false (fun z => by have := V.int.inj z; omega)) ?_
      refine ⟨Nat.zero_le _, fun rw hrw => ?_⟩
      have zrw : ¬ Z rw := fun z => by obtain ⟨zs, hz⟩ := hZ rw z; rw [hrw] at hz; cases hz
      refine ⟨_, rfl, _, rfl, _, _, rfl, rfl, _, _, rfl, rfl, 1, _, rfl, ⟨by omega, by omega, by omega, by omega⟩, ?_⟩
      have eN : (cost - ((c + 1 : Nat) : Int) + 2 - 1).toNat = cost.toNat - c := by omega
      rw [eN]
      refine for_range (lo := 1) (n := cost.toNat - c) (fun i σ H' => ∃ (v4 v5 : Option V) (xs : List Addr), σ = [some (.ref lv), some (.int ((c + 1 : Nat) : Int)), some (.int cost), some (.ref rw), v4, v5, none] ∧ Out Z H H' rw xs ((List.range' 1 i).flatMap fun f => (partsM lvl c (cost.toNat - f)).flatMap fun others => (lvl f).map (· :: others)))
        ⟨none, none, [], rfl, same_upd hrw, upd_same, .nil, by simp⟩ ?_ ?_
      · rintro i σ H' hi ⟨v4, v5, xs, rfl, o⟩
        have e1 : ((c + 1 : Nat) : Int) - 1 = (c : Int) := by omega
        refine ⟨_, rfl, _, rfl, _, _, rfl, rfl, _, rfl, _, rfl, _, _, rfl, rfl, Z, lv, lvl, n, cost - (1 + (i : Int)), ?_, fun h0 => by omega, by omega, hn1, by omega, by omega, ?_, hL.mono o.same, fun c' hc' => hb c' (by omega), hb2, fun H2 p2 xs2 sm2 np2 hp2 rp2 nx2 => ?_⟩
        · show [V.ref lv, V.int (((c + 1 : Nat) : Int) - 1), V.int (cost - (1 + (i : Int)))] = _
          rw [e1]
        · intro x z
          obtain ⟨ys, hy⟩ := hZ x z
          exact ⟨ys, o.same _ _ hy⟩
        · have em : (cost - (1 + (i : Int))).toNat = cost.toNat - (1 + i) := by omega
          rw [em] at rp2
          have nprw : p2 ≠ rw := (ne_of_none o.at_ np2).symm
          obtain ⟨ds, hlv, hdl, hds⟩ := (hL.mono (Same.trans o.same sm2)).ex
          have fl : 1 + i < ds.length := by omega
          obtain ⟨kvs, hd, hrel, hzc⟩ := hds (1 + i) ds[1 + i] (by simp [fl])
          refine ⟨p2, rfl, ⟨_, SqL.new hp2⟩, ?_⟩
          refine for_list (K := K) (a := p2) (xs := xs2.map V.ref) (fun j σ H3 => ∃ (v5 : Option V) (xs : List Addr), σ = [some (.ref lv), some (.int ((c + 1 : Nat) : Int)), some (.int cost), some (.ref rw), some (.int (1 + (i : Int))), v5, none] ∧ SameBut rw H2 H3 ∧ Out Z H H3 rw xs (((List.range' 1 i).flatMap fun f => (partsM lvl c (cost.toNat - f)).flatMap fun others => (lvl f).map (· :: others)) ++ ((partsM lvl c (cost.toNat - (1 + i))).take j).flatMap fun others => (lvl (1 + i)).map (· :: others)))
            ?_ ?_ ?_ ?_
          · refine ⟨v5, xs, rfl, fun b o _ e => e, Same.trans o.same sm2, sm2 _ _ o.at_, ?_, o.nx⟩
            rw [List.take_zero, List.flatMap_nil, List.append_nil]
            exact o.rp.mono (Stay.same sm2) fun x _ ys e => sm2 _ _ e
          · rintro j σ H3 _ ⟨v5, xs, rfl, sb, o3⟩
            exact SqL.new (sb _ _ nprw hp2)
          · rintro j x σ H3 hx ⟨v5, xs, rfl, sb, o3⟩
            obtain ⟨x5, hx5, rfl⟩ := refs_get hx
            obtain ⟨ps5, hps5, Ts5, hl5, hp5⟩ := paired_get rp2 hx5
            have x5rw : x5 ≠ rw := (ne_of_none o.at_ (nx2 x5 (List.mem_of_getElem? hx5))).symm
            have drw : ds[1 + i] ≠ rw := ne_of hd (sm2 _ _ o.at_) (by intro z; cases z)
            have hd3 : H3 ds[1 + i] = some (.dT kvs) := sb _ _ drw hd
            have hlv3 : H3 lv = some (.lst (ds.map V.ref)) := sb _ _ (fun z => by
              obtain ⟨ds0, h1, _⟩ := hL.ex
              rw [z, hrw] at h1; cases h1) hlv
            have ndl : ∀ zs, H3 ds[1 + i] ≠ some (.lst zs) := fun zs e => by rw [hd3] at e; cases e
            have ndt : ∀ zs, H3 ds[1 + i] ≠ some (.tup zs) := fun zs e => by rw [hd3] at e; cases e
            have hZ3 : ∀ x, Z x → ∃ zs, H3 x = some (.lst zs) := fun x z => by
              obtain ⟨ys, hy⟩ := hZ x z
              exact ⟨ys, o3.same _ _ hy⟩
            have hrel3 : LvRel H3 (lvl (1 + i)) kvs := by
              unfold LvRel
              refine paired_imp2 hrel fun e kv hkv p => ?_
              obtain ⟨p1, c0, p2', p3⟩ := p
              have zc := hzc c0 (by rw [← p2']; exact List.mem_map_of_mem (f := (·.2)) hkv)
              exact ⟨p1, c0, p2', sb _ _ (fun y => zrw (by rw [← y]; exact zc)) p3⟩
            have hl53 : H3 x5 = some (.lst (Ts5.map V.ref)) := sb _ _ x5rw hl5
            have hp53 : Paired (PartAt Z H3) Ts5 ps5 := paired_imp hp5 fun _ _ _ p => p.mono ⟨fun t zs e => sb _ _ (ne_of e (sm2 _ _ o.at_) (by intro z; cases z)) e, fun c0 zs z e => sb _ _ (fun y => zrw (by rw [← y]; exact z)) e⟩
            -- rows.extend([[part] + others for part in levels[first_cost].items()])
            refine ⟨_, rfl, .inl ⟨rfl, _, SqL.new o3.at_⟩, ds[1 + i], _, hd3, trivial, fun od => ?_⟩
            have hlvf : (upd H3 ds[1 + i] (.frz od (.dT kvs))) lv = some (.lst (ds.map V.ref)) := by
              rw [upd_ne (fun z => ndl _ (by rw [← z]; exact hlv3))]
              exact hlv3
            refine ⟨_, rfl, _, rfl, lv, _, 1 + (i : Int), .ref ds[1 + i], rfl, rfl, SqL.new hlvf, ?_, ds[1 + i], od, kvs, rfl, upd_same, fun D hD => ?_⟩
            · have e2 : (1 + (i : Int)) = ((1 + i : Nat) : Int) := by omega
              rw [e2]
              exact atI_nat (by rw [List.getElem?_map]; simp [fl])
            · have hDd : D ≠ ds[1 + i] := fun z => by rw [z, upd_same] at hD; cases hD
              have hD3 : H3 D = none := by rw [upd_ne hDd] at hD; exact hD
              refine lc_it (walk_itemsTN (d := ds[1 + i]) (o := od) (kvs := kvs)) (fun t Hc => ∃ ys, Made Z H3 Hc ds[1 + i] D od kvs ys (((lvl (1 + i)).take t).map (· :: ps5))) ?_ (fun t Hc _ ⟨ys, m⟩ => m.frz) ?_ ?_
              · refine ⟨[], ?_, fun b o hb e => ?_, upd_same, .nil, by simp⟩
                · rw [upd_ne hDd.symm, upd_same]
                · rw [upd_ne (ne_of_none e hD3), upd_ne hb]
                  exact e
              · rintro t x Hc Hc' ht ⟨ys, m⟩ ⟨T, q0, k0, v0, hkv, rfl, hT, hq0, rfl⟩
                obtain ⟨en, hen, hk0, c0, hv0, hc0⟩ := lvrel_get hrel3 hkv
                have hv0' : v0 = .ref c0 := hv0
                subst hv0'
                have hk0' : k0 = keyOf en.1 := hk0
                subst hk0'
                rw [key_iv] at hq0
                have zc : Z c0 := hzc c0 (List.mem_map.mpr ⟨_, List.mem_of_getElem? hkv, rfl⟩)
                refine ⟨rfl, ?_⟩
                unfold tYes; dsimp only
                rw [if_pos rfl]
                have l5 : Ts5.length ≤ 10 := by
                  have e5 : Ts5.length = ps5.length := Paired.length hp5
                  rw [e5, parts_row_len lvl c _ ps5 (List.mem_of_getElem? hps5)]
                  omega
                have lys : ys.length ≤ 100000 := by
                  have e6 := m.rp.length
                  rw [List.length_map, List.length_take] at e6
                  have := hb2 (1 + i)
                  omega
                refine ⟨_, rfl, by show 1 ≤ sizeLine; decide, fun p1 hp1 => ⟨_, rfl, p1, x5, [V.ref T], Ts5.map V.ref, rfl, rfl, upd_same, ?_, ?_, fun p2' hp2' => ⟨ys.map V.ref, ?_, ?_, ys ++ [p2'], ?_⟩⟩⟩
                · exact same_upd hp1 _ _ (same_upd hT _ _ (m.keep _ _ (fun z => ndl _ (by rw [← z]; exact hl53)) hl53))
                · rw [List.length_map]
                  exact small_line (by simp; omega)
                · exact same_upd hp2' _ _ (same_upd hp1 _ _ (same_upd hT _ _ m.at_))
                · rw [List.length_map]
                  exact small_lt (by omega)
                · have st := m.step (e := en) (ps := ps5) hZ3 hD3 hDd ndl hT hq0 zc hc0 hp53 hp1 hp2' ndt
                  have et : ((lvl (1 + i)).take (t + 1)).map (· :: ps5) = ((lvl (1 + i)).take t).map (· :: ps5) ++ [en :: ps5] := by
                    rw [List.take_add_one, hen, List.map_append]
                    rfl
                  rw [et]
                  exact st
              · rintro Hc ⟨ys, m⟩
                have hkl : kvs.length = (lvl (1 + i)).length := hrel3.length.symm
                rw [hkl, List.take_length] at m
                refine ⟨m.frz, rw, D, xs.map V.ref, ys.map V.ref, rfl, rfl, ?_, ?_, ?_, ?_⟩
                · rw [upd_ne drw.symm]
                  exact m.keep _ _ drw.symm o3.at_
                · rw [upd_ne hDd]
                  exact m.at_
                · have h1 := o3.rp.length
                  have h2 := m.rp.length
                  have h3 := hb (c + 1) (Nat.le_refl _) cost.toNat (by omega)
                  have h4 := flat_pre_len (fun f => (partsM lvl c (cost.toNat - f)).flatMap fun others => (lvl f).map (· :: others)) (((partsM lvl c (cost.toNat - (1 + i))).take j).flatMap fun others => (lvl (1 + i)).map (· :: others)) hi (flat_take_len _ _ j)
                  have h5 := hb2 (1 + i)
                  rw [List.length_map] at h2
                  have h6 : xs.length ≤ 10000 := by
                    rw [h1]
                    exact Nat.le_trans h4 h3
                  rw [List.length_map, List.length_map]
                  exact small_line (by omega)
                · -- the loop's state again
                  have nDrw : D ≠ rw := (ne_of_none o3.at_ hD3).symm
                  have back : ∀ b o, b ≠ rw → H3 b = some o → (upd (upd Hc ds[1 + i] (.dT kvs)) rw (.lst (xs.map V.ref ++ ys.map V.ref))) b = some o := fun b o hb' e => by
                    rw [upd_ne hb']
                    by_cases z : b = ds[1 + i]
                    · subst z
                      rw [upd_same, ← hd3]
                      exact e
                    · rw [upd_ne z]
                      exact m.keep _ _ z e
                  have hcd : Stay Z Hc (upd Hc ds[1 + i] (.dT kvs)) := Stay.dict m.frz (by intro ys z; cases z) (by intro ys z; cases z)
                  have hrwc : (upd Hc ds[1 + i] (.dT kvs)) rw = some (.lst (xs.map V.ref)) := by
                    rw [upd_ne drw.symm]
                    exact m.keep _ _ drw.symm o3.at_
                  have st2 : Stay Z Hc (upd (upd Hc ds[1 + i] (.dT kvs)) rw (.lst (xs.map V.ref ++ ys.map V.ref))) := hcd.trans (Stay.put hrwc zrw)
                  have st1 : Stay Z H3 (upd (upd Hc ds[1 + i] (.dT kvs)) rw (.lst (xs.map V.ref ++ ys.map V.ref))) :=
                    ⟨fun t zs e => back _ _ (ne_of e o3.at_ (by intro z; cases z)) e, fun c0 zs z e => back _ _ (fun y => zrw (by rw [← y]; exact z)) e⟩
                  refine ⟨some (.ref x5), xs ++ ys, rfl, fun b o hb' e => back b o hb' (sb b o hb' e), fun b o e => back b o (ne_of_none e hrw) (o3.same b o e), by rw [upd_same, List.map_append], ?_, ?_⟩
                  · rw [take_flat _ hps5, ← List.append_assoc]
                    refine paired_append (o3.rp.mono st1 fun x hx zs e => back _ _ (o3.nx x hx).2 e) (m.rp.mono st2 fun y hy zs e => ?_)
                    have yrw : y ≠ rw := (ne_of_none o3.at_ (m.nx y hy).1).symm
                    rw [upd_ne yrw, upd_ne (fun z => by rw [z, m.frz] at e; cases e)]
                    exact e
                  · intro x hx
                    rcases List.mem_append.mp hx with hx | hx
                    · exact o3.nx x hx
                    · have y0 := (m.nx x hx).1
                      exact ⟨o3.same.free y0, (ne_of_none o3.at_ y0).symm⟩
          · rintro σ H3 ⟨v5, xs, rfl, sb, o3⟩
            have e7 : xs2.length = (partsM lvl c (cost.toNat - (1 + i))).length := rp2.length
            rw [List.length_map, e7, List.take_length] at o3
            refine ⟨_, v5, xs, rfl, ?_⟩
            have e8 : (List.range' 1 (i + 1)).flatMap (fun f => (partsM lvl c (cost.toNat - f)).flatMap fun others => (lvl f).map (· :: others)) = ((List.range' 1 i).flatMap fun f => (partsM lvl c (cost.toNat - f)).flatMap fun others => (lvl f).map (· :: others)) ++ (partsM lvl c (cost.toNat - (1 + i))).flatMap fun others => (lvl (1 + i)).map (· :: others) := by
              rw [List.range'_concat, List.flatMap_append]
              simp
            rw [e8]
            exact o3
      · rintro σ H' ⟨v4, v5, xs, rfl, o⟩
        exact ⟨_, rfl, q H' rw xs o.same hrw o.at_ o.rp fun x hx => (o.nx x hx).1⟩
end
end LT
set_option Elab.async false
set_option maxRecDepth 100000
set_option maxHeartbeats 2000000
set_option linter.unusedSimpArgs false
set_option linter.unusedVariables false
namespace LT
open PySem PySem.Spec PyProof.Rows L2
/-! ### the language in the heap; Search.offer_leaves, offer_operation -/
structure LCls (K : PySem.W.Frag) (C : Addr) : Prop where
  cl : Cls K C
  nS : NoAttr K C "size"
  nI : NoAttr K C "inputs"
  nN : NoAttr K C "numbers"
  nP : NoAttr K C "prices"
def lF (w k : Nat) (an ap : Addr) : List (Str × V) := [("size", .int ((2 ^ w : Nat) : Int)), ("inputs", .int (k : Int)), ("numbers", .ref an), ("prices", .ref ap)]
theorem lF_size (w k : Nat) (an ap : Addr) : (lF w k an ap).lookup ("size" : Str) = some (.int ((2 ^ w : Nat) : Int)) := lk_here
theorem lF_inputs (w k : Nat) (an ap : Addr) : (lF w k an ap).lookup ("inputs" : Str) = some (.int (k : Int)) := (lk_past (by decide +kernel)).trans lk_here
theorem lF_numbers (w k : Nat) (an ap : Addr) : (lF w k an ap).lookup ("numbers" : Str) = some (.ref an) := (lk_past (by decide +kernel)).trans ((lk_past (by decide +kernel)).trans lk_here)
theorem lF_prices (w k : Nat) (an ap : Addr) : (lF w k an ap).lookup ("prices" : Str) = some (.ref ap) := (lk_past (by decide +kernel)).trans ((lk_past (by decide +kernel)).trans ((lk_past (by decide +kernel)).trans lk_here))
def opsK (ops : List (Nat × Nat)) : List (Key × V) := ops.map fun x => (Sum.inl (x.1 : Int), V.int (x.2 : Int))
structure LangAt (CL : Addr) (H : Hp) (a : Addr) (w k : Nat) (g : Sm08.Lang) : Prop where
  ex : ∃ dx an ap, H a = some (.ins CL dx (lF w k an ap)) ∧ H an = some (.lst (iv g.consts)) ∧ Rd H ap (.dK (opsK g.ops))
theorem LangAt.mono {CL : Addr} {H H' : Hp} {a : Addr} {w k : Nat} {g : Sm08.Lang} (h : LangAt CL H a w k g) (s : ∀ b o, (∀ kvs, o ≠ .dT kvs) → H b = some o → H' b = some o) : LangAt CL H' a w k g := by
  obtain ⟨dx, an, ap, h1, h2, h3⟩ := h.ex
  refine ⟨dx, an, ap, s _ _ (by intro kvs z; cases z) h1, s _ _ (by intro kvs z; cases z) h2, ?_⟩
  rcases h3 with h3 | ⟨o, h3⟩
  · exact .inl (s _ _ (by intro kvs z; cases z) h3)
  · exact .inr ⟨o, s _ _ (by intro kvs z; cases z) h3⟩
/-- what holds of all but dicts with tuple keys -/
def NoD (H H' : Hp) : Prop := ∀ b o, (∀ kvs, o ≠ .dT kvs) → H b = some o → H' b = some o
theorem NoD.of {d : Addr} {H H' : Hp} {kvs : List (List Key × V)} (s : SameBut d H H') (hd : H d = some (.dT kvs)) : NoD H H' := fun b o ho e => s b o (fun z => by
  rw [z, hd] at e
  exact ho _ (Option.some.inj e).symm) e
theorem NoD.same {H H' : Hp} (s : Same H H') : NoD H H' := fun b o _ e => s b o e
theorem sqL_noD {K : PySem.W.Frag} {H H' : Hp} {a : Addr} {xs : List V} (h : SqL K H a xs) (s : NoD H H') : SqL K H' a xs := by
  rcases h with h | h
  · left
    rcases h with h | ⟨o, h⟩
    · exact .inl (s _ _ (by intro kvs z; cases z) h)
    · exact .inr ⟨o, s _ _ (by intro kvs z; cases z) h⟩
  · exact .inr h
theorem sqT_noD {K : PySem.W.Frag} {H H' : Hp} {a : Addr} {xs : List V} (h : SqT K H a xs) (s : NoD H H') : SqT K H' a xs := by
  rcases h with h | h
  · left
    rcases h with h | ⟨o, h⟩
    · exact .inl (s _ _ (by intro kvs z; cases z) h)
    · exact .inr ⟨o, s _ _ (by intro kvs z; cases z) h⟩
  · exact .inr h
theorem RowsAt.noD {K : PySem.W.Frag} {H H' : Hp} {r : Addr} {rows : List (List Nat)} (h : RowsAt K H r rows) (s : NoD H H') : RowsAt K H' r rows := by
  obtain ⟨as, h1, h2⟩ := h.ex
  exact ⟨as, sqL_noD h1 s, paired_imp h2 fun _ _ _ p => sqT_noD p s⟩
/-- a search that is under way, apart from the level at d -/
structure SrchAt (K : PySem.W.Frag) (C CL : Addr) (H : Hp) (S d : Addr) (w k : Nat) (g : Sm08.Lang) (rows : List (List Nat)) (lvl : Nat → List Ent) (n : Nat) (kk : List (List Key × V)) : Prop where
  ex : ∃ dx lg rw lv kn, ∃ ds : List Addr, H S = some (.ins C dx (sF lg rw lv kn)) ∧ LangAt CL H lg w k g ∧ RowsAt K H rw rows ∧ H lv = some (.lst (ds.map V.ref)) ∧ ds.length = n ∧
    (∀ f x, ds[f]? = some x → x ≠ d ∧ ∃ kvs, H x = some (.dT kvs) ∧ LvRel H (lvl f) kvs) ∧ H kn = some (.dT kk) ∧ kn ≠ d
theorem LvRel.noD {H H' : Hp} {l : List Ent} {kvs : List (List Key × V)} (h : LvRel H l kvs) (s : NoD H H') : LvRel H' l kvs := h.mono fun c xs e => s _ _ (by intro kvs z; cases z) e
theorem SrchAt.but {K : PySem.W.Frag} {C CL : Addr} {H H' : Hp} {S d : Addr} {w k : Nat} {g : Sm08.Lang} {rows : List (List Nat)} {lvl : Nat → List Ent} {n : Nat} {kk kvs : List (List Key × V)} (h : SrchAt K C CL H S d w k g rows lvl n kk) (s : SameBut d H H') (hd : H d = some (.dT kvs)) : SrchAt K C CL H' S d w k g rows lvl n kk := by
  have nd := NoD.of s hd
  obtain ⟨dx, lg, rw, lv, kn, ds, h1, h2, h3, h4, h5, h6, h7, h8⟩ := h.ex
  refine ⟨dx, lg, rw, lv, kn, ds, nd _ _ (by intro kvs z; cases z) h1, h2.mono nd, h3.noD nd, nd _ _ (by intro kvs z; cases z) h4, h5, fun f x e => ?_, s _ _ h8 h7, h8⟩
  obtain ⟨a, kvs', b, c⟩ := h6 f x e
  exact ⟨a, kvs', s _ _ a b, c.noD nd⟩
theorem SameBut.trans {d : Addr} {H H1 H2 : Hp} (a : SameBut d H H1) (b : SameBut d H1 H2) : SameBut d H H2 := fun x o hx e => b x o hx (a x o hx e)
theorem SameBut.same {d : Addr} {H H' : Hp} (s : Same H H') : SameBut d H H' := fun b o _ e => s b o e
/-- the level at d: what stands there -/
structure LvD (H : Hp) (d : Addr) (l : List Ent) : Prop where
  ex : ∃ kvs, H d = some (.dT kvs) ∧ LvRel H l kvs
theorem LvD.mono {H H' : Hp} {d : Addr} {l : List Ent} (h : LvD H d l) (s : Same H H') : LvD H' d l := by
  obtain ⟨kvs, h1, h2⟩ := h.ex
  exact ⟨kvs, s _ _ h1, h2.noD (NoD.same s)⟩
theorem offer_nd {known : List Nat → Bool} {l : List Ent} (h : (l.map (·.1)).Nodup) (x : Ent) : ((offer known l x).map (·.1)).Nodup := by
  unfold offer
  split
  · exact h
  · split
    · exact putE_nd h _ _
    · split
      · exact putE_nd h _ _
      · exact h
theorem foldl_offer_nd {known : List Nat → Bool} : ∀ (xs : List Ent) {l : List Ent}, (l.map (·.1)).Nodup → ((xs.foldl (offer known) l).map (·.1)).Nodup
  | [], _, h => h
  | x :: xs, _, h => foldl_offer_nd xs (offer_nd h x)
def spLeaves (K : PySem.W.Frag) (C CL : Addr) : Sp := fun vs H Q _ => ∃ (S d : Addr) (w k : Nat) (g : Sm08.Lang) (rows : List (List Nat)) (lvl : Nat → List Ent) (n : Nat) (kk : List (List Key × V)) (l : List Ent), vs = [.ref S, .ref d] ∧ SrchAt K C CL H S d w k g rows lvl n kk ∧ LvD H d l ∧ (l.map (·.1)).Nodup ∧ l.length ≤ 50000 ∧ k ≤ 2 ∧ g.consts.length ≤ 2 ∧ (∀ row ∈ rows, row.length = k) ∧ rows.length ≤ 1000 ∧
  ∀ H', SameBut d H H' → LvD H' d ((leavesM k g.consts rows).foldl (offer (knownD kk)) l) → Q .non H'
abbrev sLeaves : Stmt := inClass (top 37) 2
theorem scLeaves : FnScope ["self", "level", "numbers", "sign", "number"] ["self", "level"] (defScope sLeaves) := ⟨rfl, rfl, rfl, by decide +kernel, rfl, by decide +kernel, by decide +kernel⟩
theorem iv_append (a b : List Nat) : iv (a ++ b) = iv a ++ iv b := by simp [iv]
theorem rgV_iv (k : Nat) : rgV 0 (k : Int) = iv (List.range k) := by
  simp [rgV, iv]
section
variable {P : Program} {wd : World} {K : PySem.W.Frag} {mg : Str → Option Value} {base : Heap} {C CL : Addr}
theorem ok_leaves {f fO : Addr} {fd fdO : FuncData} (F : Fun K "offer_leaves" "Search.offer_leaves" sLeaves f fd) (T : SCls K C) (TL : LCls K CL) (ml : mg "list" = none) (mrg : mg "range" = none) (h2 : GInt mg "FIRST_NUMBER" 2)
    (GL : CalN P wd K mg base 1 "leaf_outcomes" ["sign", "rows"] (spLeaf K)) (FO : FnOk P wd K mg base CX0 1 fO fdO ["self", "level", "thing", "signs"] (spOffer C)) (bO : Binds K fdO ["self", "level", "thing", "signs"] []) (mO : Meth K C "offer" fO) : FnOk P wd K mg base CX0 2 f fd ["self", "level"] (spLeaves K C CL) := by
  refine F.ok scLeaves (fun vs H Q E h => ?_) (fun cdv A outer s H vs Q E hr h => ?_)
  · obtain ⟨S, d, w, k, g, rows, lvl, n, kk, l, rfl, _⟩ := h
    rfl
  · obtain ⟨S, d, w, k, g, rows, lvl, n, kk, l, rfl, hS, hD, hnd, hl5, hk, hgc, hro, hrn, q⟩ := h
    obtain ⟨t2, g2⟩ := h2
    obtain ⟨fL, gL, ⟨fdL, FL, bL, kL⟩⟩ := GL.ex
    refine ⟨_, pss_cons (ps_setLc (i := 2) (own := [("number", 4)]) (g := gName 4) (tt := tYes) rfl scLeaves.nd rfl rfl (sw_true rfl rfl rfl (by decide +kernel)) (pi_list (pe_fld (pe_fld (pv 0) rfl) rfl)) (blkOk_by (N := ["self", "level", "numbers", "sign", "number"]) (sc := defScope sLeaves) (by decide +kernel))
          (fun _ _ _ _ _ => pg_name (i := 4) scLeaves.nd rfl (Or.inl rfl)) (fun _ _ _ _ _ => pts_nil) (fun _ _ _ _ _ => pe_op op_add (pe_glob (v := .int 2) rfl g2 ⟨_, rfl⟩) (pv 4)))
      (pss_one (ps_for PassesOwn.never rfl (pi_list (pe_op op_cat (pe_listRg rfl rfl ml (prg_1 rfl mrg (pe_fld (pe_fld (pv 0) rfl) rfl))) (pv 2))) (pg_name (i := 3) scLeaves.nd rfl (Or.inl rfl))
        (pss_one (ps_expr (pe_meth (pv 0) T.cl mO FO hr bO .nil pass0 (pa_cons (pv 1) (pa_cons (pe_call FL hr rfl gL kL bL .nil pass0 (pa_cons (pv 3) (pa_cons (pe_fld (pv 0) rfl) pa_nil))) (pa_cons (pe_lst (pa_cons (pv 3) pa_nil)) pa_nil)))))))), ?_⟩
    obtain ⟨dx, lg, rw, lv, kn, ds, e1, eL, eR, e4, e5, e6, e7, e8⟩ := hS.ex
    obtain ⟨dL, an, ap, a1, a2, a3⟩ := eL.ex
    refine ⟨_, rfl, S, C, dx, _, _, rfl, e1, T.cl, T.nL, sF_language .., lg, CL, dL, _, _, rfl, a1, TL.cl, TL.nN, lF_numbers .., an, rfl, ⟨_, SqL.new a2⟩, fun D hD' => ?_⟩
    refine lc_list (K := K) (a := an) (xs := iv g.consts) (fun i H' => Same H H' ∧ H' D = some (.lst (iv ((g.consts.take i).map (2 + ·))))) ⟨same_upd hD', upd_same⟩ (fun i H' _ p => SqL.new (p.1 _ _ a2)) ?_ ?_
    · intro i x H' hx p
      obtain ⟨m, hm, rfl⟩ := iv_get hx
      refine ⟨rfl, ?_⟩
      unfold tYes; dsimp only
      rw [if_pos rfl]
      refine ⟨_, rfl, _, _, rfl, rfl, _, p.2, ?_, ?_, ?_⟩
      · rw [iv_len, List.length_map, List.length_take]
        exact small_lt (by omega)
      · intro b o e
        rw [upd_ne (ne_of_none e hD')]
        exact p.1 b o e
      · rw [upd_same, iv_take_succ (2 + ·) hm]
        rfl
    · rintro H1 ⟨s1, hD1⟩
      rw [iv_len, List.take_length] at hD1
      refine ⟨_, rfl, S, C, dx, _, _, rfl, s1 _ _ e1, T.cl, T.nL, sF_language .., lg, CL, dL, _, _, rfl, s1 _ _ a1, TL.cl, TL.nI, lF_inputs .., (k : Int), rfl, RgOk.of_le (by omega) (by omega) (by omega) (by omega), fun p1 hp1 => ⟨_, rfl, p1, D, rgV 0 (k : Int), iv (g.consts.map (2 + ·)), rfl, rfl, upd_same, ?_, ?_, fun p2 hp2 => ?_⟩⟩
      · rw [upd_ne (ne_of_none hD1 hp1)]
        exact hD1
      · rw [iv_len, List.length_map, rgV_iv, iv_len, List.length_range]
        exact small_line (by omega)
      · rw [rgV_iv, ← iv_append]
        rw [rgV_iv] at hp2
        have s3 : Same H (upd (upd H1 p1 (.lst (iv (List.range k)))) p2 (.lst (iv (List.range k ++ g.consts.map (2 + ·))))) := (Same.trans s1 (same_upd hp1)).trans (same_upd hp2)
        obtain ⟨kvs0, hd0, hr0⟩ := hD.ex
        have np2d : p2 ≠ d := fun z => by
          have := same_upd (o := .lst (iv (List.range k))) hp1 _ _ (s1 _ _ hd0)
          rw [z, this] at hp2; cases hp2
        generalize hLs : List.range k ++ g.consts.map (2 + ·) = Ls at *
        have lL : Ls.length ≤ 4 := by
          rw [← hLs, List.length_append, List.length_range, List.length_map]
          omega
        have hin : ∀ s ∈ Ls, s < 2 → s < k := by
          intro s hs hs2
          rw [← hLs] at hs
          rcases List.mem_append.mp hs with h | h
          · exact List.mem_range.mp h
          · obtain ⟨c, _, rfl⟩ := List.mem_map.mp h
            omega
        refine ⟨p2, rfl, ⟨_, SqL.new upd_same⟩, ?_⟩
        refine for_list (K := K) (a := p2) (xs := iv Ls) (fun i σ H3 => ∃ v3 : Option V, σ = [some (.ref S), some (.ref d), some (.ref D), v3, none] ∧ SameBut d (upd (upd H1 p1 (.lst (iv (List.range k)))) p2 (.lst (iv Ls))) H3 ∧ LvD H3 d (((Ls.take i).map fun s => (leaf rows s, [s])).foldl (offer (knownD kk)) l))
          ⟨none, rfl, fun b o _ e => e, hD.mono s3⟩ (fun i σ H3 _ ⟨_, _, sb, _⟩ => SqL.new (sb _ _ np2d upd_same)) ?_ ?_
        · rintro i x σ H3 hx ⟨v3, rfl, sb, hD3⟩
          obtain ⟨sg, hsg, rfl⟩ := iv_get hx
          have hmem : sg ∈ Ls := List.mem_of_getElem? hsg
          have sbH : SameBut d H H3 := SameBut.trans (SameBut.same s3) sb
          obtain ⟨dx', lg', rw', lv', kn', ds', b1, bL', bR, b4, b5, b6, b7, b8⟩ := (hS.but sbH hd0).ex
          obtain ⟨kvs3, hd3, hr3⟩ := hD3.ex
          refine ⟨_, rfl, S, dx', _, rfl, b1, ?_, _, rfl, _, rfl, _, rfl, S, C, dx', _, _, rfl, b1, T.cl, T.nR, sF_rows .., sg, rw', rows, rfl, bR.any, hrn, ?_, fun H4 b hN => ?_⟩
          · exact (lk_past (by decide +kernel)).trans ((lk_past (by decide +kernel)).trans ((lk_past (by decide +kernel)).trans ((lk_past (by decide +kernel)).trans rfl)))
          · intro h2' row hm
            rw [hro row hm]
            exact hin sg hmem h2'
          · refine ⟨_, rfl, by show 1 ≤ sizeLine; decide, fun c hc => ?_⟩
            have s5 : Same H3 (upd H4 c (.lst [V.int (sg : Int)])) := hN.same.trans (same_upd hc)
            refine ⟨S, dx', lg', rw', lv', kn', d, b, c, kk, kvs3, _, leaf rows sg, [sg], rfl, s5 _ _ b1, s5 _ _ b7, s5 _ _ hd3, fun z => b8 z.symm, hr3.noD (NoD.same s5), foldl_offer_nd _ hnd, ?_, ?_, upd_same, fun H' kvs' sb' hd' hr' => ?_⟩
            · have := foldl_offer_len (knownD kk) ((Ls.take i).map fun s => (leaf rows s, [s])) l
              rw [List.length_map, List.length_take] at this
              omega
            · exact same_upd hc _ _ hN.at_
            · refine ⟨some (.int (sg : Int)), rfl, SameBut.trans sb (SameBut.trans (SameBut.same s5) sb'), ⟨kvs', hd', ?_⟩⟩
              rw [List.take_add_one, hsg, List.map_append, List.foldl_append]
              exact hr'
        · rintro σ H3 ⟨v3, rfl, sb, hD3⟩
          rw [iv_len, List.take_length] at hD3
          refine q H3 (SameBut.trans (SameBut.same s3) sb) ?_
          unfold leavesM
          rw [hLs]
          exact hD3
end
end LT
set_option Elab.async false
set_option maxRecDepth 100000
set_option maxHeartbeats 2000000
set_option linter.unusedSimpArgs false
set_option linter.unusedVariables false
namespace LT
open PySem PySem.Spec PyProof.Rows L2
/-! ### Search.offer_operation -/
theorem arities_ary : ∀ o < 12, arities[o]? = some (ary o) := by decide
/-- entries that are sound: things are rows of words -/
def EntOk (w n : Nat) (e : Ent) : Prop := e.1.length = n ∧ (∀ x ∈ e.1, x < 2 ^ w) ∧ e.2.length ≤ 10
theorem parts_mem (lv : Nat → List Ent) : ∀ (c m : Nat) (ps : List Ent), ps ∈ partsM lv c m → ∀ e ∈ ps, ∃ f, f ≤ m ∧ e ∈ lv f
  | 0, m, ps, h => by
    simp only [partsM] at h
    split at h
    · simp at h; subst h; intro e he; cases he
    · cases h
  | c + 1, m, ps, h => by
    simp only [partsM, List.mem_flatMap, List.mem_map, List.mem_range'_1] at h
    obtain ⟨f, hf, others, ho, a, ha, rfl⟩ := h
    intro e he
    rcases List.mem_cons.mp he with rfl | he
    · exact ⟨f, by omega, ha⟩
    · obtain ⟨f', h1, h2⟩ := parts_mem lv c _ others ho e he
      exact ⟨f', by omega, h2⟩
def spOp (K : PySem.W.Frag) (C CL : Addr) : Sp := fun vs H Q _ => ∃ (S d : Addr) (o : Nat) (cost : Int) (w k : Nat) (g : Sm08.Lang) (rows : List (List Nat)) (lvl : Nat → List Ent) (n : Nat) (kk : List (List Key × V)) (l : List Ent), vs = [.ref S, .ref d, .int (o : Int), .int cost] ∧ o < 12 ∧ SrchAt K C CL H S d w k g rows lvl n kk ∧ LvD H d l ∧ (l.map (·.1)).Nodup ∧ l.length ≤ 50000 ∧ w ≤ 4 ∧ rows.length ≤ 1000 ∧
  cost < (n : Int) ∧ n ≤ 1000 ∧ -1000 ≤ cost ∧ (∀ c' ≤ 3, ∀ m, m < n → (partsM lvl c' m).length ≤ 10000) ∧ (∀ f, (lvl f).length ≤ 100000) ∧ (∀ f, f < n → ∀ e ∈ lvl f, EntOk w rows.length e) ∧
  ∀ H', SameBut d H H' → LvD H' d ((candOp w o lvl cost.toNat).foldl (offer (knownD kk)) l) → Q .non H'
abbrev sOp : Stmt := inClass (top 37) 3
theorem scOp : FnScope ["self", "level", "operation", "cost", "parts", "thing", "signs", "part"] ["self", "level", "operation", "cost"] (defScope sOp) := ⟨rfl, rfl, rfl, by decide +kernel, rfl, by decide +kernel, by decide +kernel⟩
/-- the addresses within parts -/
theorem parts_addr {Z : Addr → Prop} {H : Hp} {Ts : List Addr} {ps : List Ent} (h : Paired (PartAt Z H) Ts ps) : ∃ qs cs : List Addr, Paired (fun q e => H q = some (.tup (iv e.1))) qs ps ∧ qs.length = Ts.length ∧ cs.length = Ts.length ∧
    ∀ (j : Nat) (T : Addr), Ts[j]? = some T → ∃ q c e, qs[j]? = some q ∧ cs[j]? = some c ∧ ps[j]? = some e ∧ H T = some (.tup [.ref q, .ref c]) ∧ Z c ∧ H c = some (.lst (iv e.2)) := by
  induction h with
  | nil => exact ⟨[], [], .nil, rfl, rfl, fun j T e => by simp at e⟩
  | @cons T e Ts ps h t ih =>
    obtain ⟨q, c, h1, h2, h3, h4⟩ := h
    obtain ⟨qs, cs, i1, i2, i3, i4⟩ := ih
    refine ⟨q :: qs, c :: cs, .cons h2 i1, by simp [i2], by simp [i3], fun j T' e' => ?_⟩
    cases j with
    | zero => simp at e'; subst e'; exact ⟨q, c, e, rfl, rfl, rfl, h1, h3, h4⟩
    | succ j => simpa using i4 j T' (by simpa using e')
section
variable {P : Program} {wd : World} {K : PySem.W.Frag} {mg : Str → Option Value} {base : Heap} {C CL : Addr}
theorem ok_op {f fO fP : Addr} {fd fdO fdP : FuncData} (F : Fun K "offer_operation" "Search.offer_operation" sOp f fd) (T : SCls K C) (TL : LCls K CL) (h20 : GInt mg "FIRST_OPERATION" 20) (hA : GTup K mg "ARITIES" (iv arities))
    (gP : mg "part_rows" = some (.ref fP)) (kP : PySem.W.keepIn K (.ref fP) = true) (bP : Binds K fdP ["levels", "count", "cost"] []) (FP : ∀ c, FnOk P wd K mg base CX0 (c + 1) fP fdP ["levels", "count", "cost"] (spParts c))
    (GO : CalN P wd K mg base 2 "operate" ["operation", "size", "rows"] (spOperate K))
    (FO : FnOk P wd K mg base CX0 1 fO fdO ["self", "level", "thing", "signs"] (spOffer C)) (bO : Binds K fdO ["self", "level", "thing", "signs"] []) (mO : Meth K C "offer" fO) : FnOk P wd K mg base CX0 5 f fd ["self", "level", "operation", "cost"] (spOp K C CL) := by
  refine F.ok scOp (fun vs H Q E h => ?_) (fun cdv A outer s H vs Q E hr h => ?_)
  · obtain ⟨S, d, o, cost, w, k, g, rows, lvl, n, kk, l, rfl, _⟩ := h
    rfl
  · obtain ⟨S, d, o, cost, w, k, g, rows, lvl, n, kk, l, rfl, ho, hS, hD, hnd, hl5, hw, hrn, hcn, hn1, hc1, hbp, hbl, hok, q⟩ := h
    obtain ⟨t20, g20⟩ := h20
    obtain ⟨aA, gA, hSA⟩ := hA
    obtain ⟨fG, gG, ⟨fdG, FG, bG, kG⟩⟩ := GO.ex
    have ay := ary_le o
    have hrP : Room (ary o + 1) _ := hr.mono (by omega)
    have hr2 : Room 2 _ := hr.mono (by decide)
    have hr1 : Room 1 _ := hr.mono (by decide)
    refine ⟨_, pss_one (ps_for PassesOwn.never rfl (pi_list (pe_call (FP (ary o)) hrP rfl gP kP bP .nil pass0 (pa_cons (pe_fld (pv 0) rfl) (pa_cons (pe_ix ix_tup (pe_glob (v := .ref aA) rfl gA rfl) (pv 2) (fun _ _ => rfl)) (pa_cons (pv 3) pa_nil))))) (pg_name (i := 4) scOp.nd rfl (Or.inl rfl))
      (pss_cons (ps_set (i := 5) scOp.nd rfl (Or.inl rfl) (pe_call FG hr2 rfl gG kG bG .nil pass0 (pa_cons (pv 2) (pa_cons (pe_fld (pe_fld (pv 0) rfl) rfl) (pa_cons
          (pe_lc (own := [("part", 7)]) (g := gName 7) (tt := tYes) (te := tOp (rIxT K) (tVar 7) (tC (.int 0))) rfl scOp.nd (pi_list (pv 4)) (blkOk_by (N := ["self", "level", "operation", "cost", "parts", "thing", "signs", "part"]) (sc := defScope sOp) (by decide +kernel))
            (fun _ _ _ _ _ => pg_name (i := 7) scOp.nd rfl (Or.inl rfl)) (fun _ _ _ _ _ => pts_nil) (fun _ _ _ _ _ => pe_ix ix_tup (pv 7) pe_int (fun _ _ => rfl))) pa_nil)))))
      (pss_cons (ps_set (i := 6) scOp.nd rfl (Or.inl rfl) (pe_lst (pa_cons (pe_op op_add (pe_glob (v := .int 20) rfl g20 ⟨_, rfl⟩) (pv 2)) pa_nil)))
      (pss_cons (ps_for PassesOwn.never rfl (pi_list (pv 4)) (pg_name (i := 7) scOp.nd rfl (Or.inl rfl)) (pss_one (ps_expr (pe_bm PySem.F.plainAttrs_list PySem.F.slot_list_extend PySem.F.type_list_extend mt_extend (pv 6) (pa_cons (pe_ix ix_tup (pv 7) pe_int (fun _ _ => rfl)) pa_nil)))))
      (pss_one (ps_expr (pe_meth (pv 0) T.cl mO FO hr1 bO .nil pass0 (pa_cons (pv 1) (pa_cons (pv 5) (pa_cons (pv 6) pa_nil)))))))))), ?_⟩
    obtain ⟨dx, lg, rw, lv, kn, ds, e1, eL, eR, e4, e5, e6, e7, e8⟩ := hS.ex
    obtain ⟨kvs0, hd0, hr0⟩ := hD.ex
    refine ⟨_, rfl, S, C, dx, _, _, rfl, e1, T.cl, T.nV, sF_levels .., _, rfl, aA, _, (o : Int), .int (ary o : Int), rfl, rfl, hSA H, atI_nat (by rw [iv, List.getElem?_map, arities_ary o ho]; rfl), _, rfl, ?_⟩
    refine ⟨fun c => ∃ ys, H c = some (.lst ys), lv, lvl, n, cost, rfl, fun z => by omega, hcn, hn1, by omega, hc1, fun x z => z, ⟨ds, e4, e5, fun f' x' ex => ?_⟩, fun c' hc' m hm => hbp c' (by omega) m hm, hbl, fun H2 p xs sm2 np hp rp nx => ?_⟩
    · obtain ⟨_, kvs', h1, h2⟩ := e6 f' x' ex
      refine ⟨kvs', h1, h2, fun c hc => ?_⟩
      obtain ⟨kv, hkv, ekv⟩ := List.mem_map.mp hc
      obtain ⟨j, hj⟩ := List.mem_iff_getElem?.mp hkv
      obtain ⟨en, _, _, c0, hc0, hc1'⟩ := lvrel_get h2 (show kvs'[j]? = some (kv.1, kv.2) from hj)
      have : V.ref c0 = V.ref c := hc0.symm.trans ekv
      cases this
      exact ⟨_, hc1'⟩
    · refine ⟨p, rfl, ⟨_, SqL.new hp⟩, ?_⟩
      have npd : p ≠ d := (ne_of_none hd0 np).symm
      have hd2 := sm2 _ _ hd0
      have lrp : xs.length = (partsM lvl (ary o) cost.toNat).length := rp.length
      refine for_list (K := K) (a := p) (xs := xs.map V.ref) (fun i σ H3 => ∃ v4 v5 v6 v7 : Option V, σ = [some (.ref S), some (.ref d), some (.int (o : Int)), some (.int cost), v4, v5, v6, v7] ∧ SameBut d H2 H3 ∧ LvD H3 d ((((partsM lvl (ary o) cost.toNat).take i).map fun ps => (opRow w o (ps.map (·.1)), (20 + o) :: ps.flatMap (·.2))).foldl (offer (knownD kk)) l))
        ⟨none, none, none, none, rfl, fun b o _ e => e, hD.mono sm2⟩ (fun i σ H3 _ ⟨_, _, _, _, _, sb, _⟩ => SqL.new (sb _ _ npd hp)) ?_ ?_
      · rintro i x σ H3 hx ⟨v4, v5, v6, v7, rfl, sb, hD3⟩
        obtain ⟨x4, hx4, rfl⟩ := refs_get hx
        obtain ⟨ps, hps, Ts, hl4, hpa⟩ := paired_get rp hx4
        have nd3 : NoD H2 H3 := NoD.of sb hd2
        have hl43 : H3 x4 = some (.lst (Ts.map V.ref)) := nd3 _ _ (by intro kvs z; cases z) hl4
        have hpa3 : Paired (PartAt (fun c => ∃ ys, H c = some (.lst ys)) H3) Ts ps := paired_imp hpa fun _ _ _ p => p.mono ⟨fun t zs e => nd3 _ _ (by intro kvs z; cases z) e, fun c0 zs _ e => nd3 _ _ (by intro kvs z; cases z) e⟩
        obtain ⟨qs, cs, hqs, lqs, lcs, hat⟩ := parts_addr hpa3
        have lps : ps.length = ary o := parts_row_len lvl _ _ ps (List.mem_of_getElem? hps)
        have lTs : Ts.length = ps.length := Paired.length hpa
        have hpm : ∀ e ∈ ps, EntOk w rows.length e := fun e he => by
          obtain ⟨f', hf', he'⟩ := parts_mem lvl _ _ ps (List.mem_of_getElem? hps) e he
          exact hok f' (by
            have : (cost.toNat : Int) ≤ max cost 0 := by omega
            have lt0 : 0 < n := by
              rcases Nat.eq_zero_or_pos n with z | z
              · exfalso
                subst z
                have hz : cost.toNat = 0 := by omega
                rw [hz] at hf'
                have hm := List.mem_of_getElem? hps
                rw [hz] at hm
                cases ea : ary o with
                | zero => omega
                | succ a =>
                  rw [ea] at hm
                  simp [partsM] at hm
              · exact z
            omega) e he'
        have sbH : SameBut d H H3 := SameBut.trans (SameBut.same sm2) sb
        obtain ⟨dx', lg', rw', lv', kn', ds', b1, bL', bR, b4, b5, b6, b7, b8⟩ := (hS.but sbH hd0).ex
        obtain ⟨dL, an, ap, a1, a2, a3⟩ := bL'.ex
        obtain ⟨kvs3, hd3, hr3⟩ := hD3.ex
        -- thing = operate(operation, self.language.size, [part[0] for part in parts])
        refine ⟨_, rfl, _, rfl, S, C, dx', _, _, rfl, b1, T.cl, T.nL, sF_language .., lg', CL, dL, _, _, rfl, a1, TL.cl, TL.nS, lF_size .., _, rfl, x4, rfl, ⟨_, SqL.new hl43⟩, fun D hDn => ?_⟩
        refine lc_list (K := K) (a := x4) (xs := Ts.map V.ref) (fun j H4 => Same H3 H4 ∧ H4 D = some (.lst ((qs.take j).map V.ref))) ⟨same_upd hDn, upd_same⟩ (fun j H4 _ pj => SqL.new (pj.1 _ _ hl43)) ?_ ?_
        · intro j y H4 hy pj
          obtain ⟨T', hT', rfl⟩ := refs_get hy
          obtain ⟨q', c', e', hq', hc', he', t1, t2, t3⟩ := hat j T' hT'
          refine ⟨rfl, ?_⟩
          unfold tYes; dsimp only
          rw [if_pos rfl]
          refine ⟨_, rfl, T', _, 0, .ref q', rfl, rfl, SqT.new (pj.1 _ _ t1), rfl, _, pj.2, ?_, ?_, ?_⟩
          · rw [List.length_map, List.length_take]
            exact small_lt (by omega)
          · intro b o' e
            rw [upd_ne (ne_of_none e hDn)]
            exact pj.1 b o' e
          · rw [upd_same, List.take_add_one, hq', List.map_append]
            rfl
        · rintro H4 ⟨s4, hD4⟩
          rw [List.length_map, ← lqs, List.take_length] at hD4
          have lz : qs.length = (ps.map (·.1)).length := by rw [List.length_map]; omega
          have em : (qs.zip (ps.map (·.1))).map (fun p => V.ref p.1) = qs.map V.ref := by
            have : (fun p : Addr × List Nat => V.ref p.1) = V.ref ∘ Prod.fst := rfl
            rw [this, ← List.map_map, List.map_fst_zip (by omega)]
          have hP : Parts K H4 w rows.length D (qs.zip (ps.map (·.1))) := by
            refine ⟨hw, by rw [em]; exact SqL.new hD4, fun pr hpr => ?_, fun pr hpr => ?_, fun pr hpr => ?_, hrn⟩
            · obtain ⟨j, hj⟩ := List.mem_iff_getElem?.mp hpr
              obtain ⟨h1, h2⟩ := List.getElem?_zip_eq_some.mp hj
              obtain ⟨e', he', ha'⟩ := paired_get hqs h1
              rw [List.getElem?_map, he'] at h2
              have e9 : e'.1 = pr.2 := Option.some.inj h2
              rw [← e9]
              exact SqT.new (s4 _ _ ha')
            · obtain ⟨e', he', ee⟩ := List.mem_map.mp (List.of_mem_zip hpr).2
              rw [← ee]
              exact (hpm e' he').1
            · obtain ⟨e', he', ee⟩ := List.mem_map.mp (List.of_mem_zip hpr).2
              rw [← ee]
              exact (hpm e' he').2.1
          have el : (qs.zip (ps.map (·.1))).length = ary o := by
            rw [List.length_zip, lz, Nat.min_self, List.length_map, lps]
          refine ⟨o, w, rows.length, D, qs.zip (ps.map (·.1)), rfl, ho, hP, el, fun H5 th hN => ?_⟩
          rw [List.map_snd_zip (by omega)] at hN
          -- signs = [FIRST_OPERATION + operation]
          refine ⟨_, rfl, _, _, rfl, rfl, by show 1 ≤ sizeLine; decide, fun sg hsg => ?_⟩
          have e20 : (20 : Int) + (o : Int) = ((20 + o : Nat) : Int) := by omega
          have s35 : Same H3 H5 := Same.trans s4 hN.same
          -- for part in parts: signs.extend(part[1])
          refine ⟨_, rfl, x4, rfl, ⟨_, SqL.new (same_upd hsg _ _ (s35 _ _ hl43))⟩, ?_⟩
          refine for_list (K := K) (a := x4) (xs := Ts.map V.ref) (fun j σ H6 => ∃ v7 : Option V, σ = [some (.ref S), some (.ref d), some (.int (o : Int)), some (.int cost), some (.ref x4), some (.ref th), some (.ref sg), v7] ∧ Same H5 H6 ∧ H6 sg = some (.lst (iv ((20 + o) :: (ps.take j).flatMap (·.2)))))
            ⟨v7, rfl, same_upd hsg, by rw [upd_same]; show some (HO.lst [V.int (20 + (o : Int))]) = _; rw [e20]; rfl⟩ (fun j σ H6 _ ⟨_, _, s6, _⟩ => SqL.new (s6 _ _ (s35 _ _ hl43))) ?_ ?_
          · rintro j y σ H6 hy ⟨v7, rfl, s6, h6⟩
            obtain ⟨T', hT', rfl⟩ := refs_get hy
            obtain ⟨q', c', e', hq', hc', he', t1, t2, t3⟩ := hat j T' hT'
            have c6 := s6 _ _ (s35 _ _ t3)
            refine ⟨_, rfl, .inl ⟨rfl, _, SqL.new h6⟩, _, rfl, T', _, 1, .ref c', rfl, rfl, SqT.new (s6 _ _ (s35 _ _ t1)), rfl, sg, c', _, _, rfl, rfl, h6, c6, ?_, ?_⟩
            · rw [iv_len, iv_len, List.length_cons]
              have h1 := length_flatMap_le (fun e : Ent => e.2) 10 (ps.take j) (fun e he => (hpm e (List.mem_of_mem_take he)).2.2)
              have h2 := (hpm e' (List.mem_of_getElem? he')).2.2
              rw [List.length_take] at h1
              exact small_line (by
                have : min j ps.length * 10 ≤ 3 * 10 := Nat.mul_le_mul_right _ (by omega)
                omega)
            · refine ⟨some (.ref T'), rfl, Same.put s6 hsg, ?_⟩
              rw [upd_same, ← iv_append, take_flat _ he']
              rfl
          · rintro σ H6 ⟨v7, rfl, s6, h6⟩
            rw [List.length_map, lTs, List.take_length] at h6
            -- self.offer(level, thing, signs)
            have s36 : Same H3 H6 := Same.trans s35 s6
            refine ⟨_, rfl, S, dx', _, rfl, s36 _ _ b1, ?_, _, rfl, _, rfl, _, rfl, ?_⟩
            · exact (lk_past (by decide +kernel)).trans ((lk_past (by decide +kernel)).trans ((lk_past (by decide +kernel)).trans ((lk_past (by decide +kernel)).trans rfl)))
            · refine ⟨S, dx', lg', rw', lv', kn', d, th, sg, kk, kvs3, _, _, _, rfl, s36 _ _ b1, s36 _ _ b7, s36 _ _ hd3, fun z => b8 z.symm, hr3.noD (NoD.same s36), foldl_offer_nd _ hnd, ?_, s6 _ _ hN.at_, h6, fun H' kvs' sb' hd' hr' => ?_⟩
              · have h1 := foldl_offer_len (knownD kk) (((partsM lvl (ary o) cost.toNat).take i).map fun ps => (opRow w o (ps.map (·.1)), (20 + o) :: ps.flatMap (·.2))) l
                rw [List.length_map, List.length_take] at h1
                have h2 : i < xs.length := by
                  rcases Nat.lt_or_ge i xs.length with z | z
                  · exact z
                  · rw [List.getElem?_eq_none z] at hx4; cases hx4
                have h3 : (partsM lvl (ary o) cost.toNat).length ≤ 10000 := by
                  rcases Nat.lt_or_ge cost.toNat n with z | z
                  · exact hbp (ary o) ay.2 _ z
                  · have hz : cost.toNat = 0 := by omega
                    rw [hz]
                    cases ea : ary o with
                    | zero => omega
                    | succ a => simp [partsM]
                omega
              · refine ⟨_, _, _, _, rfl, SameBut.trans sb (SameBut.trans (SameBut.same s36) sb'), ⟨kvs', hd', ?_⟩⟩
                rw [List.take_add_one, hps, List.map_append, List.foldl_append]
                exact hr'
      · rintro σ H3 ⟨v4, v5, v6, v7, rfl, sb, hD3⟩
        rw [List.length_map, lrp, List.take_length] at hD3
        exact q H3 (SameBut.trans (SameBut.same sm2) sb) hD3
end
end LT
set_option Elab.async false
set_option maxRecDepth 100000
set_option maxHeartbeats 2000000
set_option linter.unusedSimpArgs false
set_option linter.unusedVariables false
namespace LT
open PySem PySem.Spec PyProof.Rows L2
/-! ### Search.grow -/
structure Srch (K : PySem.W.Frag) (C CL : Addr) (H : Hp) (S lv kn : Addr) (w k : Nat) (g : Sm08.Lang) (rows : List (List Nat)) (n : Nat) : Prop where
  ex : ∃ dx lg rw dL an ap, ∃ (ds : List Addr) (kk : List (List Key × V)), H S = some (.ins C dx (sF lg rw lv kn)) ∧ H lg = some (.ins CL dL (lF w k an ap)) ∧ H an = some (.lst (iv g.consts)) ∧ H ap = some (.dK (opsK g.ops)) ∧ RowsAt K H rw rows ∧ H lv = some (.lst (ds.map V.ref)) ∧ ds.length = n + 1 ∧
    (∀ f x, ds[f]? = some x → x ≠ kn ∧ ∃ kvs, H x = some (.dT kvs) ∧ LvRel H ((levelsM w k g rows n).getD f []) kvs) ∧ H kn = some (.dT kk) ∧ (∀ v, knownD kk v = knownM (levelsM w k g rows n) v) ∧ kk.length ≤ 30000 * n ∧ rw ≠ lv
/-- what the search is about keeps to the document -/
structure Ask (w k : Nat) (g : Sm08.Lang) (rows : List (List Nat)) : Prop where
  wd : Words w k
  lg : LangOk w g
  ro : ∀ row ∈ rows, RowOk w k row
  rn : rows.length ≤ 1000
/-- all but two -/
def But2 (a b : Addr) (H H' : Hp) : Prop := ∀ x o, x ≠ a → x ≠ b → H x = some o → H' x = some o
def spGrow (K : PySem.W.Frag) (C CL : Addr) : Sp := fun vs H Q _ => ∃ (S lv kn : Addr) (w k : Nat) (g : Sm08.Lang) (rows : List (List Nat)) (n : Nat), vs = [.ref S] ∧ Srch K C CL H S lv kn w k g rows n ∧ Ask w k g rows ∧ n ≤ 4 ∧
  ∀ H' d, But2 lv kn H H' → Srch K C CL H' S lv kn w k g rows (n + 1) → LvD H' d (lvM w k g rows (n + 1)) → Q (.ref d) H'
abbrev sGrow : Stmt := inClass (top 37) 1
theorem scGrow : FnScope ["self", "cost", "level", "operation", "price", "thing"] ["self"] (defScope sGrow) := ⟨rfl, rfl, rfl, by decide +kernel, rfl, by decide +kernel, by decide +kernel⟩
section
variable {w k : Nat} {g : Sm08.Lang} {rows : List (List Nat)}
theorem lvl_len (A : Ask w k g rows) {n : Nat} (hn : n ≤ 5) (f : Nat) : ((levelsM w k g rows n).getD f []).length ≤ cap f := by
  by_cases h : f ≤ n
  · rw [levelsM_get w k g rows n f h]
    exact lvM_len A.wd.k2 A.lg n hn f h
  · have : (levelsM w k g rows n).length ≤ f := by rw [levelsM_len]; omega
    rw [List.getD_eq_getElem?_getD, List.getElem?_eq_none this]
    exact Nat.zero_le _
theorem cap_le (f : Nat) : cap f ≤ 24100 := by
  match f with
  | 0 | 1 | 2 | 3 | 4 => decide
  | n + 5 => exact Nat.le_refl _
theorem lvl_parts (A : Ask w k g rows) {n : Nat} (hn : n ≤ 4) (c m : Nat) (hc : c ≤ 3) (hm : m ≤ 4) : (partsM (fun f => (levelsM w k g rows n).getD f []) c m).length ≤ 2020 :=
  Nat.le_trans (partsM_len c m fun f _ => lvl_len A (by omega) f) (capP_small c hc m hm)
theorem lvl_ok (A : Ask w k g rows) {n : Nat} (hn : n ≤ 4) (f : Nat) (hf : f ≤ n) : ∀ e ∈ (levelsM w k g rows n).getD f [], EntOk w rows.length e := by
  intro e he
  rw [levelsM_get w k g rows n f hf] at he
  obtain ⟨t, h1, h2, h3, h4, h5⟩ := lvM_sound A.wd.w4 A.wd.k2 A.lg f (v := e.1) (s := e.2) he
  refine ⟨by rw [h4, outs_len], by rw [h4]; exact outs_lt A.wd.w1 A.wd.w4 A.ro h3, by omega⟩
theorem knownM_succ (n : Nat) (v : List Nat) : knownM (levelsM w k g rows (n + 1)) v = (knownM (levelsM w k g rows n) v || (lvM w k g rows (n + 1)).any fun e => e.1 == v) := by
  rw [lvM_succ]
  simp [knownM, levelsM, List.any_append]
theorem levelsM_succ_get (n f : Nat) : (levelsM w k g rows (n + 1)).getD f [] = if f = n + 1 then lvM w k g rows (n + 1) else (levelsM w k g rows n).getD f [] := by
  by_cases h : f = n + 1
  · rw [if_pos h, h]
    rfl
  · rw [if_neg h]
    have l := levelsM_len w k g rows n
    by_cases h2 : f ≤ n
    · rw [levelsM_get w k g rows (n + 1) f (by omega), levelsM_get w k g rows n f h2]
    · rw [List.getD_eq_getElem?_getD, List.getElem?_eq_none (by rw [levelsM_len]; omega), List.getD_eq_getElem?_getD, List.getElem?_eq_none (by omega)]
end
def knownPut (kk : List (List Key × V)) (ks : List (List Nat)) : List (List Key × V) := ks.foldl (fun acc v => putK acc (keyOf v) (.bl true)) kk
theorem knownPut_val : ∀ (ks : List (List Nat)) (kk : List (List Key × V)) (v : List Nat), knownD (knownPut kk ks) v = (knownD kk v || ks.any fun u => u == v)
  | [], kk, v => by simp [knownPut]
  | u :: ks, kk, v => by
    have ih := knownPut_val ks (putK kk (keyOf u) (.bl true)) v
    have e : knownPut kk (u :: ks) = knownPut (putK kk (keyOf u) (.bl true)) ks := rfl
    rw [e, ih, List.any_cons]
    have e2 : knownD (putK kk (keyOf u) (.bl true)) v = (knownD kk v || (u == v)) := by
      unfold knownD
      rw [valV_put]
      by_cases h : keyOf v = keyOf u
      · have : v = u := key_inj h
        rw [if_pos h, this]
        simp
      · have : ¬ u = v := fun z => h (by rw [z])
        rw [if_neg h]
        simp [this]
    rw [e2, Bool.or_assoc]
theorem knownPut_len : ∀ (ks : List (List Nat)) (kk : List (List Key × V)), (knownPut kk ks).length ≤ kk.length + ks.length
  | [], kk => by simp [knownPut]
  | u :: ks, kk => by
    have ih := knownPut_len ks (putK kk (keyOf u) (.bl true))
    have := length_putK kk (keyOf u) (.bl true)
    have e : knownPut kk (u :: ks) = knownPut (putK kk (keyOf u) (.bl true)) ks := rfl
    rw [e, List.length_cons]
    omega

/-- what holds of all but dicts with plain keys -/
def NoK (H H' : Hp) : Prop := ∀ b o, (∀ kvs, o ≠ .dK kvs) → H b = some o → H' b = some o
theorem sqL_noK {K : PySem.W.Frag} {H H' : Hp} {a : Addr} {xs : List V} (h : SqL K H a xs) (s : NoK H H') : SqL K H' a xs := by
  rcases h with h | h
  · left
    rcases h with h | ⟨o, h⟩
    · exact .inl (s _ _ (by intro kvs z; cases z) h)
    · exact .inr ⟨o, s _ _ (by intro kvs z; cases z) h⟩
  · exact .inr h
theorem sqT_noK {K : PySem.W.Frag} {H H' : Hp} {a : Addr} {xs : List V} (h : SqT K H a xs) (s : NoK H H') : SqT K H' a xs := by
  rcases h with h | h
  · left
    rcases h with h | ⟨o, h⟩
    · exact .inl (s _ _ (by intro kvs z; cases z) h)
    · exact .inr ⟨o, s _ _ (by intro kvs z; cases z) h⟩
  · exact .inr h
theorem RowsAt.noK {K : PySem.W.Frag} {H H' : Hp} {r : Addr} {rows : List (List Nat)} (h : RowsAt K H r rows) (s : NoK H H') : RowsAt K H' r rows := by
  obtain ⟨as, h1, h2⟩ := h.ex
  exact ⟨as, sqL_noK h1 s, paired_imp h2 fun _ _ _ p => sqT_noK p s⟩
theorem RowsAt.noDL {K : PySem.W.Frag} {H H' : Hp} {r x : Addr} {xs : List V} {rows : List (List Nat)} (h : RowsAt K H r rows) (hr : r ≠ x) (hx : H x = some (.lst xs)) (s : ∀ b o, b ≠ x → (∀ kvs, o ≠ .dT kvs) → H b = some o → H' b = some o) : RowsAt K H' r rows := by
  obtain ⟨as, h1, h2⟩ := h.ex
  refine ⟨as, ?_, paired_imp h2 fun a _ _ p => ?_⟩
  · rcases h1 with h | h
    · left
      rcases h with h | ⟨o, h⟩
      · exact .inl (s _ _ hr (by intro kvs z; cases z) h)
      · exact .inr ⟨o, s _ _ hr (by intro kvs z; cases z) h⟩
    · exact .inr h
  · rcases p with h | h
    · left
      rcases h with h | ⟨o, h⟩
      · exact .inl (s _ _ (fun z => by rw [z, hx] at h; cases h) (by intro kvs z; cases z) h)
      · exact .inr ⟨o, s _ _ (fun z => by rw [z, hx] at h; cases h) (by intro kvs z; cases z) h⟩
    · exact .inr h
theorem iv_refs {s : List Nat} {ds : List Addr} (h : iv s = ds.map V.ref) (n : ds.length ≠ 0) : False := by
  cases ds with
  | nil => exact n rfl
  | cons x ds =>
    cases s with
    | nil => simp [iv] at h
    | cons a s => simp [iv] at h
theorem if_drop {c : Bool} {te : TE} {D : Ends} {σ : L2.St} {H : Hp} (Cc : Hp → Prop) (hT : c = true → ∀ N : Hp → Prop, (∀ H1, Cc H1 → N H1) → te σ H (fun _ H' => N H')) (hF : c = false → Cc H) (hr : ∀ H1, Cc H1 → D.nx σ H1) : if c = true then tDrop te D σ H else tNext D σ H := by
  cases c with
  | true => exact ifT rfl (hT rfl _ hr)
  | false => exact ifF rfl (hr _ (hF rfl))
theorem LvD.but {H H' : Hp} {d x : Addr} {l : List Ent} (h : LvD H d l) (hx : x ≠ d) (nl : ∀ xs, H x ≠ some (.lst xs)) (s : ∀ b o, b ≠ x → H b = some o → H' b = some o) : LvD H' d l := by
  obtain ⟨kvs, h1, h2⟩ := h.ex
  exact ⟨kvs, s _ _ hx.symm h1, h2.mono fun c xs e => s _ _ (fun z => nl xs (z ▸ e)) e⟩
section
variable {P : Program} {wd : World} {K : PySem.W.Frag} {mg : Str → Option Value} {base : Heap} {C CL : Addr}
theorem ok_grow {f fL fO : Addr} {fd fdL fdO : FuncData} (F : Fun K "grow" "Search.grow" sGrow f fd) (T : SCls K C) (TL : LCls K CL) (ml : mg "len" = none)
    (FL : FnOk P wd K mg base CX0 2 fL fdL ["self", "level"] (spLeaves K C CL)) (bL : Binds K fdL ["self", "level"] []) (mL : Meth K C "offer_leaves" fL)
    (FO : FnOk P wd K mg base CX0 5 fO fdO ["self", "level", "operation", "cost"] (spOp K C CL)) (bO : Binds K fdO ["self", "level", "operation", "cost"] []) (mO : Meth K C "offer_operation" fO) : FnOk P wd K mg base CX0 6 f fd ["self"] (spGrow K C CL) := by
  refine F.ok scGrow (fun vs H Q E h => ?_) (fun cdv A outer s H vs Q E hr h => ?_)
  · obtain ⟨S, lv, kn, w, k, g, rows, n, rfl, _⟩ := h
    rfl
  · obtain ⟨S, lv, kn, w, k, g, rows, n, rfl, hS, hA, hn, q⟩ := h
    have hr2 : Room 2 _ := hr.mono (by decide)
    refine ⟨_, pss_cons (ps_set (i := 1) scGrow.nd rfl (Or.inl rfl) (pe_callB call_len_seq (by rfl) ml PySem.boot_len (pa_cons (pe_fld (pv 0) rfl) pa_nil)))
      (pss_cons (ps_set (i := 2) scGrow.nd rfl (Or.inl rfl) pe_dnewT)
      (pss_cons (ps_if (pt_cmpR op_eq (pv 1) pe_int (nomark _)) (pss_one (ps_expr (pe_meth (pv 0) T.cl mL FL hr2 bL .nil pass0 (pa_cons (pv 2) pa_nil)))) pss_nil)
      (pss_cons (ps_lock (ps_for PassesOwn.never rfl (pi_items (pe_fld (pe_fld (pv 0) rfl) rfl)) (pg_tup rfl (pgs_cons (pg_name (i := 3) scGrow.nd rfl (Or.inl rfl)) (pgs_cons (pg_name (i := 4) scGrow.nd rfl (Or.inl rfl)) pgs_nil)))
        (pss_one (ps_expr (pe_meth (pv 0) T.cl mO FO hr bO .nil pass0 (pa_cons (pv 2) (pa_cons (pv 3) (pa_cons (pe_op op_sub (pv 1) (pv 4)) pa_nil))))))))
      (pss_cons (ps_lock (ps_for PassesOwn.never rfl (pi_keys (pv 2)) (pg_name (i := 5) scGrow.nd rfl (Or.inl rfl)) (pss_one (ps_dput (hu_of hr) (pe_fld (pv 0) rfl) (pv 5) pe_bl rfl))))
      (pss_cons (ps_expr (pe_bm PySem.F.plainAttrs_list PySem.F.slot_list_append PySem.F.type_list_append mt_append (pe_fld (pv 0) rfl) (pa_cons (pv 2) pa_nil)))
      (pss_one (ps_ret (pv 2)))))))), ?_⟩
    obtain ⟨dx, lg, rw, dL, an, ap, ds, kk, e1, a1, a2, a3, eR, e4, e5, e6, e7, e8, e9, e10⟩ := hS.ex
    refine ⟨_, rfl, S, C, dx, _, _, rfl, e1, T.cl, T.nV, sF_levels .., lv, _, rfl, .inl (SqL.new e4), fun d hd => ?_⟩
    have lds : (ds.map V.ref).length = n + 1 := by rw [List.length_map, e5]
    have hap : ap ≠ d := ne_of_none a3 hd
    have nda : ∀ {b o}, H b = some o → b ≠ d := fun e => ne_of_none e hd
    have cast1 : ((ds.map V.ref).length : Int) = ((n + 1 : Nat) : Int) := by rw [lds]
    -- the search within, as long as only d and the prices' dict may differ
    have srch : ∀ X : Hp, (∀ b o, b ≠ d → b ≠ ap → H b = some o → X b = some o) → Rd X ap (.dK (opsK g.ops)) → SrchAt K C CL X S d w k g rows (fun f => (levelsM w k g rows n).getD f []) (n + 1) kk := fun X hX hp => by
      have nk : NoK H X := fun b o ho e => hX b o (nda e) (fun z => by rw [z, a3] at e; exact ho _ (Option.some.inj e).symm) e
      refine ⟨dx, lg, rw, lv, kn, ds, nk _ _ (by intro kvs z; cases z) e1, ⟨dL, an, ap, nk _ _ (by intro kvs z; cases z) a1, nk _ _ (by intro kvs z; cases z) a2, hp⟩, eR.noK nk, nk _ _ (by intro kvs z; cases z) e4, e5, fun f x ex => ?_, nk _ _ (by intro kvs z; cases z) e7, nda e7⟩
      obtain ⟨_, kvs, h1, h2⟩ := e6 f x ex
      exact ⟨nda h1, kvs, nk _ _ (by intro kvs z; cases z) h1, h2.mono fun c xs e => nk _ _ (by intro kvs z; cases z) e⟩
    have kD : knownD kk = knownM (levelsM w k g rows n) := funext e8
    have hH0 : ∀ b o, b ≠ d → b ≠ ap → H b = some o → upd H d (.dT []) b = some o := fun b o hb _ e => by rw [upd_ne hb]; exact e
    have lvd0 : LvD (upd H d (.dT [])) d [] := ⟨[], upd_same, .nil⟩
    refine ⟨_, rfl, rfl, _, rfl, ?_⟩
    refine if_drop (fun H1 => SameBut d (upd H d (.dT [])) H1 ∧ LvD H1 d ((if n + 1 = 1 then leavesM k g.consts rows else []).foldl (offer (knownD kk)) [])) (fun hc N hN => ?_) (fun hc => ?_) ?_
    · have hn0 : n + 1 = 1 := by
        have := of_decide_eq_true hc
        rw [lds] at this
        have := V.int.inj this
        omega
      refine ⟨_, rfl, S, dx, _, rfl, by rw [upd_ne (nda e1)]; exact e1, ?_, _, rfl, ?_⟩
      · exact (lk_past (by decide +kernel)).trans ((lk_past (by decide +kernel)).trans ((lk_past (by decide +kernel)).trans ((lk_past (by decide +kernel)).trans rfl)))
      · refine ⟨S, d, w, k, g, rows, _, n + 1, kk, [], rfl, srch _ hH0 (.inl (by rw [upd_ne hap]; exact a3)), lvd0, List.nodup_nil, Nat.zero_le _, hA.wd.k2, hA.lg.nc, fun row hm => (hA.ro row hm).1, hA.rn, fun H' sb hD => hN _ ⟨sb, ?_⟩⟩
        rw [if_pos hn0]
        exact hD
    · have hn0 : ¬ n + 1 = 1 := fun z => by
        have := of_decide_eq_false hc
        rw [lds] at this
        exact this (by rw [z]; rfl)
      exact ⟨fun b o _ e => e, by rw [if_neg hn0]; exact lvd0⟩
    rintro H1 ⟨sb1, hD1⟩
    have hH1 : ∀ b o, b ≠ d → H b = some o → H1 b = some o := fun b o hb e => sb1 b o hb (by rw [upd_ne hb]; exact e)
    -- for operation, price in self.language.prices.items()
    refine ⟨ap, _, hH1 _ _ hap a3, trivial, fun od => ?_⟩
    have hH2 : ∀ b o, b ≠ d → b ≠ ap → H b = some o → upd H1 ap (.frz od (.dK (opsK g.ops))) b = some o := fun b o hb hb2 e => by rw [upd_ne hb2]; exact hH1 b o hb e
    have nap : ∀ {b o}, (∀ kvs, o ≠ .dK kvs) → H b = some o → b ≠ ap := fun ho e z => by rw [z, a3] at e; exact ho _ (Option.some.inj e).symm
    have hD2 : LvD (upd H1 ap (.frz od (.dK (opsK g.ops)))) d ((if n + 1 = 1 then leavesM k g.consts rows else []).foldl (offer (knownD kk)) []) := hD1.but hap (fun xs z => by rw [hH1 _ _ hap a3] at z; cases z) (fun b o hb e => by rw [upd_ne hb]; exact e)
    refine ⟨_, rfl, S, C, dx, _, _, rfl, hH2 _ _ (nda e1) (nap (by intro kvs z; cases z) e1) e1, T.cl, T.nL, sF_language .., lg, CL, dL, _, _, rfl, hH2 _ _ (nda a1) (nap (by intro kvs z; cases z) a1) a1, TL.cl, TL.nP, lF_prices .., ap, od, _, rfl, upd_same, ?_⟩
    refine for_it walk_items (fun j σ H3 => ∃ v3 v4 : Option V, σ = [some (.ref S), some (.int ((n + 1 : Nat) : Int)), some (.ref d), v3, v4, none] ∧ SameBut d (upd H1 ap (.frz od (.dK (opsK g.ops)))) H3 ∧
        LvD H3 d (((g.ops.take j).flatMap fun x => candOp w x.1 (fun f => (levelsM w k g rows n).getD f []) (n + 1 - x.2)).foldl (offer (knownD kk)) ((if n + 1 = 1 then leavesM k g.consts rows else []).foldl (offer (knownD kk)) [])))
      ⟨none, none, by rw [← cast1]; rfl, fun b o _ e => e, hD2⟩ (fun j σ H3 _ ⟨_, _, _, sb, _⟩ => sb _ _ hap upd_same) ?_ ?_
    · rintro j x σ H3 H4 hj ⟨v3, v4, rfl, sb3, hD3⟩ ⟨T', xk, yv, rfl, hT', rfl, hx, hy⟩
      obtain ⟨xo, hxo⟩ : ∃ xo, g.ops[j]? = some xo := by
        have : j < g.ops.length := by simpa [opsK] using hj
        exact ⟨_, List.getElem?_eq_getElem this⟩
      have hxk : xk = .int (xo.1 : Int) := by
        simp only [opsK, List.getElem?_map, hxo, Option.map_some] at hx
        exact (Option.some.inj hx).symm
      have hyv : yv = .int (xo.2 : Int) := by
        simp only [opsK, List.getElem?_map, hxo, Option.map_some] at hy
        exact (Option.some.inj hy).symm
      subst hxk hyv
      obtain ⟨ho, hp1, hp3⟩ := hA.lg.os xo (List.mem_of_getElem? hxo)
      have s4 : Same H3 (upd H3 T' (.tup [.int (xo.1 : Int), .int (xo.2 : Int)])) := same_upd hT'
      have hX : ∀ b o, b ≠ d → b ≠ ap → H b = some o → upd H3 T' (.tup [.int (xo.1 : Int), .int (xo.2 : Int)]) b = some o := fun b o hb hb2 e => s4 _ _ (sb3 _ _ hb (hH2 b o hb hb2 e))
      have hXp := s4 _ _ (sb3 _ _ hap upd_same)
      refine ⟨T', _, rfl, SqT.new upd_same, rfl, .int (xo.1 : Int), [.int (xo.2 : Int)], rfl, .int (xo.2 : Int), [], rfl, rfl, ?_⟩
      refine ⟨_, rfl, S, dx, _, rfl, hX _ _ (nda e1) (nap (by intro kvs z; cases z) e1) e1, ?_, _, rfl, _, rfl, _, rfl, _, rfl, _, _, rfl, rfl, ?_⟩
      · exact (lk_past (by decide +kernel)).trans ((lk_past (by decide +kernel)).trans ((lk_past (by decide +kernel)).trans ((lk_past (by decide +kernel)).trans rfl)))
      · refine ⟨S, d, xo.1, _, w, k, g, rows, _, n + 1, kk, _, rfl, by omega, srch _ hX (.inr ⟨od, hXp⟩), hD3.mono s4, foldl_offer_nd _ (foldl_offer_nd _ List.nodup_nil), ?_, hA.wd.w4, hA.rn, by omega, by omega, by omega, fun c' hc' m hm => ?_, fun f => Nat.le_trans (lvl_len hA (by omega) f) (Nat.le_trans (cap_le f) (by decide)), fun f hf e he => lvl_ok hA hn f (by omega) e he, fun H' sb hD => ?_⟩
        · have h1 := foldl_offer_len (knownD kk) ((g.ops.take j).flatMap fun x => candOp w x.1 (fun f => (levelsM w k g rows n).getD f []) (n + 1 - x.2)) ((if n + 1 = 1 then leavesM k g.consts rows else []).foldl (offer (knownD kk)) [])
          have h2 := foldl_offer_len (knownD kk) (if n + 1 = 1 then leavesM k g.consts rows else []) []
          have h3 : (if n + 1 = 1 then leavesM k g.consts rows else []).length ≤ 4 := by
            split
            · have := hA.wd.k2
              have := hA.lg.nc
              simp [leavesM]
              omega
            · exact Nat.zero_le _
          have h4 := length_flatMap_le (fun x : Nat × Nat => candOp w x.1 (fun f => (levelsM w k g rows n).getD f []) (n + 1 - x.2)) 2020 (g.ops.take j) (fun x hx => by
            obtain ⟨q1, q2, q3⟩ := hA.lg.os x (List.mem_of_mem_take hx)
            rw [candOp, List.length_map]
            exact lvl_parts hA hn _ _ (ary_le _).2 (by omega))
          have h5 : (g.ops.take j).length ≤ 5 := Nat.le_trans (List.length_take_le' _ _) hA.lg.no
          have h6 : (g.ops.take j).length * 2020 ≤ 5 * 2020 := Nat.mul_le_mul_right _ h5
          simp only [List.length_nil] at h2
          omega
        · exact Nat.le_trans (lvl_parts hA hn c' m hc' (by omega)) (by decide)
        · refine ⟨_, _, rfl, SameBut.trans sb3 (SameBut.trans (SameBut.same s4) sb), ?_⟩
          rw [List.take_add_one, hxo, List.flatMap_append, List.foldl_append]
          have ec : (((n + 1 : Nat) : Int) - (xo.2 : Int)).toNat = n + 1 - xo.2 := by omega
          rw [ec] at hD
          simpa using hD
    · rintro σ H3 ⟨v3, v4, rfl, sb3, hD3⟩
      have lop : (opsK g.ops).length = g.ops.length := by simp [opsK]
      rw [lop, List.take_length, ← List.foldl_append, kD] at hD3
      have hD3' : LvD H3 d (lvM w k g rows (n + 1)) := by
        rw [lvM_succ]
        exact hD3
      have h3ap := sb3 _ _ hap upd_same
      refine ⟨h3ap, ?_⟩
      have hD4 : LvD (upd H3 ap (.dK (opsK g.ops))) d (lvM w k g rows (n + 1)) := hD3'.but hap (fun xs z => by rw [h3ap] at z; cases z) (fun b o hb e => by rw [upd_ne hb]; exact e)
      have hH4 : ∀ b o, b ≠ d → H b = some o → upd H3 ap (.dK (opsK g.ops)) b = some o := fun b o hb e => by
        by_cases hb2 : b = ap
        · rw [hb2] at e ⊢
          rw [upd_same, ← a3, e]
        · rw [upd_ne hb2]
          exact sb3 _ _ hb (hH2 b o hb hb2 e)
      generalize upd H3 ap (.dK (opsK g.ops)) = H4 at hD4 hH4 ⊢
      obtain ⟨kvs4, h4d, h4r⟩ := hD4.ex
      -- for thing in level: self.known[thing] = True
      have hdk : d ≠ kn := (nda e7).symm
      refine ⟨d, _, h4d, trivial, fun od2 => ⟨_, rfl, d, od2, rfl, .inr ⟨kvs4, upd_same, ?_⟩⟩⟩
      have l4 : (lvM w k g rows (n + 1)).length ≤ 24100 := Nat.le_trans (lvM_len hA.wd.k2 hA.lg (n + 1) (by omega) (n + 1) (Nat.le_refl _)) (cap_le _)
      refine for_it walk_keysT (fun j σ H6 => ∃ v5 : Option V, σ = [some (.ref S), some (.int ((n + 1 : Nat) : Int)), some (.ref d), v3, v4, v5] ∧ H6 d = some (.frz od2 (.dT kvs4)) ∧ H6 kn = some (.dT (knownPut kk (((lvM w k g rows (n + 1)).take j).map (·.1)))) ∧ ∀ b o, b ≠ kn → b ≠ d → H4 b = some o → H6 b = some o)
        ⟨none, rfl, upd_same, by rw [upd_ne hdk.symm]; exact hH4 _ _ hdk.symm e7, fun b o _ hb e => by rw [upd_ne hb]; exact e⟩ (fun j σ H6 _ ⟨_, _, h, _⟩ => h) ?_ ?_
      · rintro j x σ H6 _ hj ⟨v5, rfl, h6d, h6k, s6⟩ ⟨rfl, ky, vl, q', hky, rfl, hq'⟩
        obtain ⟨en, hen, hk1, c, hc1, hc2⟩ := lvrel_get h4r hky
        have hk1' : ky = keyOf en.1 := hk1
        refine ⟨_, rfl, S, C, dx, _, _, rfl, s6 _ _ (ne_of e1 e7 (by intro z; cases z)) (nda e1) (hH4 _ _ (nda e1) e1), T.cl, T.nK, sF_known .., _, rfl, kn, _, rfl, DPut.t h6k hq' ?_, ?_⟩
        · have := knownPut_len (((lvM w k g rows (n + 1)).take j).map (·.1)) kk
          rw [List.length_map, List.length_take] at this
          have : 30000 * n ≤ 30000 * 4 := Nat.mul_le_mul_left _ hn
          exact small_lt (by omega)
        · refine ⟨_, rfl, by rw [upd_ne hdk]; exact h6d, ?_, fun b o hb hb2 e => by rw [upd_ne hb]; exact s6 b o hb hb2 e⟩
          rw [upd_same, List.take_add_one, hen, List.map_append, hk1']
          simp [knownPut, List.foldl_append]
      · rintro σ H6 ⟨v5, rfl, h6d, h6k, s6⟩
        rw [← h4r.length, List.take_length] at h6k
        refine ⟨h6d, ?_⟩
        have h7 : ∀ b o, b ≠ kn → H4 b = some o → upd H6 d (.dT kvs4) b = some o := fun b o hb e => by
          by_cases hb2 : b = d
          · rw [hb2] at e ⊢
            rw [upd_same, ← h4d, e]
          · rw [upd_ne hb2]
            exact s6 b o hb hb2 e
        have h7k : upd H6 d (.dT kvs4) kn = some (.dT (knownPut kk ((lvM w k g rows (n + 1)).map (·.1)))) := by rw [upd_ne hdk.symm]; exact h6k
        generalize upd H6 d (.dT kvs4) = H7 at h7 h7k ⊢
        have nkl : lv ≠ kn := ne_of e4 e7 (by intro z; cases z)
        have ndl : lv ≠ d := nda e4
        have h7' : ∀ b o, b ≠ kn → H b = some o → H7 b = some o := fun b o hb e => h7 b o hb (hH4 b o (nda e) e)
        have h7S := h7' _ _ (ne_of e1 e7 (by intro z; cases z)) e1
        have h7L := h7' _ _ nkl e4
        -- self.levels.append(level)
        refine ⟨_, rfl, S, C, dx, _, _, rfl, h7S, T.cl, T.nV, sF_levels .., .inl ⟨rfl, _, SqL.new h7L⟩, _, rfl, lv, _, _, rfl, rfl, h7L, ?_, _, rfl, ?_⟩
        · rw [lds]
          exact small_lt (by omega)
        · have h8 : ∀ b o, b ≠ lv → b ≠ kn → H b = some o → upd H7 lv (.lst (ds.map V.ref ++ [.ref d])) b = some o := fun b o hb hb2 e => by
            rw [upd_ne hb]
            exact h7' b o hb2 e
          have nLi : ∀ (c : Addr) (xs : List Nat), H c = some (.lst (iv xs)) → c ≠ lv := fun c xs e z => by
            rw [z, e4] at e
            exact iv_refs (HO.lst.inj (Option.some.inj e)).symm (by omega)
          have h4lv := hH4 _ _ ndl e4
          have nLi4 : ∀ (c : Addr) (xs : List Nat), H4 c = some (.lst (iv xs)) → c ≠ lv := fun c xs e z => by
            rw [z, h4lv] at e
            exact iv_refs (HO.lst.inj (Option.some.inj e)).symm (by omega)
          have r8 : LvRel (upd H7 lv (.lst (ds.map V.ref ++ [.ref d]))) (lvM w k g rows (n + 1)) kvs4 := paired_imp h4r fun a b _ p => by
            obtain ⟨p1, c, p2, p3⟩ := p
            refine ⟨p1, c, p2, ?_⟩
            rw [upd_ne (nLi4 c _ p3)]
            exact h7 _ _ (fun z => by rw [z, hH4 _ _ hdk.symm e7] at p3; cases p3) p3
          have d8 : upd H7 lv (.lst (ds.map V.ref ++ [.ref d])) d = some (.dT kvs4) := by
            rw [upd_ne ndl.symm]
            exact h7 _ _ hdk h4d
          refine q _ d h8 ⟨dx, lg, rw, dL, an, ap, ds ++ [d], knownPut kk ((lvM w k g rows (n + 1)).map (·.1)), ?_, ?_, ?_, ?_, ?_, ?_, ?_, ?_, ?_, ?_, ?_, e10⟩ ⟨kvs4, d8, r8⟩
          · exact h8 _ _ (ne_of e1 e4 (by intro z; cases z)) (ne_of e1 e7 (by intro z; cases z)) e1
          · exact h8 _ _ (ne_of a1 e4 (by intro z; cases z)) (ne_of a1 e7 (by intro z; cases z)) a1
          · exact h8 _ _ (nLi _ _ a2) (ne_of a2 e7 (by intro z; cases z)) a2
          · exact h8 _ _ (ne_of a3 e4 (by intro z; cases z)) (ne_of a3 e7 (by intro z; cases z)) a3
          · exact eR.noDL e10 e4 fun b o hb ho e => h8 _ _ hb (fun z => by rw [z, e7] at e; exact ho _ (Option.some.inj e).symm) e
          · rw [upd_same, List.map_append]
            rfl
          · simp [e5]
          · intro f x ex
            rw [levelsM_succ_get]
            by_cases hf : f = n + 1
            · have : x = d := by
                rw [hf, List.getElem?_append_right (by omega)] at ex
                simpa [e5] using ex.symm
              rw [if_pos hf, this]
              exact ⟨hdk, kvs4, d8, r8⟩
            · have hlt : f < ds.length := by
                have : f < (ds ++ [d]).length := by
                  rcases Nat.lt_or_ge f (ds ++ [d]).length with z | z
                  · exact z
                  · rw [List.getElem?_eq_none z] at ex; cases ex
                simp at this
                omega
              rw [List.getElem?_append_left hlt] at ex
              obtain ⟨x1, kvs, x2, x3⟩ := e6 f x ex
              rw [if_neg hf]
              refine ⟨x1, kvs, h8 _ _ (ne_of x2 e4 (by intro z; cases z)) x1 x2, paired_imp x3 fun a b _ p => ?_⟩
              obtain ⟨p1, c, p2, p3⟩ := p
              exact ⟨p1, c, p2, h8 _ _ (nLi c _ p3) (fun z => by rw [z, e7] at p3; cases p3) p3⟩
          · rw [upd_ne nkl.symm]
            exact h7k
          · intro v
            rw [knownPut_val, e8, knownM_succ, List.any_map]
            rfl
          · have := knownPut_len ((lvM w k g rows (n + 1)).map (·.1)) kk
            rw [List.length_map] at this
            omega
end
end LT
set_option Elab.async false
set_option maxRecDepth 100000
set_option maxHeartbeats 2000000
set_option linter.unusedSimpArgs false
set_option linter.unusedVariables false
namespace LT
open PySem PySem.Spec PyProof.Rows L2
/-! ### Search.__init__, first_term -/
theorem putF_ne {f g : Str} {v x : V} {r : List (Str × V)} (h : ¬ g = f) : putF f v ((g, x) :: r) = (g, x) :: putF f v r := if_neg h
def spSInit (C : Addr) : Sp := fun vs H Q _ => ∃ (S dx lg rw : Addr), vs = [.ref S, .ref lg, .ref rw] ∧ H S = some (.ins C dx []) ∧
  ∀ H' lv kn d0, SameBut S H H' → H' S = some (.ins C dx (sF lg rw lv kn)) → H lv = none → H kn = none → H' lv = some (.lst [.ref d0]) → H' d0 = some (.dT []) → H' kn = some (.dT []) → d0 ≠ kn → Q .non H'
abbrev sSInit : Stmt := inClass (top 37) 0
theorem scSInit : FnScope ["self", "language", "rows"] ["self", "language", "rows"] (defScope sSInit) := ⟨rfl, rfl, rfl, by decide +kernel, rfl, by decide +kernel, by decide +kernel⟩
abbrev sFirst : Stmt := top 39
theorem scFirst : FnScope ["language", "rows", "wanted", "most", "search", "cost", "level"] ["language", "rows", "wanted", "most"] (defScope sFirst) := ⟨rfl, rfl, rfl, by decide +kernel, rfl, by decide +kernel, by decide +kernel⟩
/-- a language as it stands, its prices free -/
structure LangH (CL : Addr) (H : Hp) (a : Addr) (w k : Nat) (g : Sm08.Lang) : Prop where
  ex : ∃ dL an ap, H a = some (.ins CL dL (lF w k an ap)) ∧ H an = some (.lst (iv g.consts)) ∧ H ap = some (.dK (opsK g.ops))
theorem LangH.mono {CL : Addr} {H H' : Hp} {a : Addr} {w k : Nat} {g : Sm08.Lang} (h : LangH CL H a w k g) (s : Same H H') : LangH CL H' a w k g := by
  obtain ⟨dL, an, ap, h1, h2, h3⟩ := h.ex
  exact ⟨dL, an, ap, s _ _ h1, s _ _ h2, s _ _ h3⟩
/-- what is handed back where a term was looked for -/
def foundQ (H : Hp) (Q : VK) : Option (Nat × List Nat) → Prop
  | none => ∀ H', Same H H' → Q .non H'
  | some (c, s) => ∀ H' p b, Same H H' → H' p = some (.tup [.int (c : Int), .ref b]) → H' b = some (.lst (iv s)) → Q (.ref p) H'
def spFirst (K : PySem.W.Frag) (CL : Addr) : Sp := fun vs H Q _ => ∃ (lg rw wa : Addr) (m w k : Nat) (g : Sm08.Lang) (rows : List (List Nat)) (v : List Nat), vs = [.ref lg, .ref rw, .ref wa, .int (m : Int)] ∧ LangH CL H lg w k g ∧ RowsAt K H rw rows ∧ H rw ≠ none ∧ H wa = some (.tup (iv v)) ∧ Ask w k g rows ∧ m ≤ 5 ∧
  foundQ H Q (firstFrom (lvM w k g rows) v 1 m)
section
variable {P : Program} {wd : World} {K : PySem.W.Frag} {mg : Str → Option Value} {base : Heap} {C CL : Addr}
theorem ok_sinit {f : Addr} {fd : FuncData} {k : Nat} (F : Fun K "__init__" "Search.__init__" sSInit f fd) (T : SCls K C) : FnOk P wd K mg base CX0 (k + 1) f fd ["self", "language", "rows"] (spSInit C) := by
  refine F.ok scSInit (fun vs H Q E h => ?_) (fun cdv A outer s H vs Q E hr h => ?_)
  · obtain ⟨S, dx, lg, rw, rfl, _⟩ := h
    rfl
  · obtain ⟨S, dx, lg, rw, rfl, hS, q⟩ := h
    refine ⟨_, pss_cons (ps_fld (pv 0) (pv 1) rfl) (pss_cons (ps_fld (pv 0) (pv 2) rfl) (pss_cons (ps_fld (pv 0) (pe_lst (pa_cons pe_dnewT pa_nil)) rfl) (pss_one (ps_fld (pv 0) pe_dnewT rfl)))), ?_⟩
    have n1 : ¬ ("language" : Str) = "rows" := by decide +kernel
    have n2 : ¬ ("language" : Str) = "levels" := by decide +kernel
    have n3 : ¬ ("rows" : Str) = "levels" := by decide +kernel
    have n4 : ¬ ("language" : Str) = "known" := by decide +kernel
    have n5 : ¬ ("rows" : Str) = "known" := by decide +kernel
    have n6 : ¬ ("levels" : Str) = "known" := by decide +kernel
    refine ⟨_, rfl, _, rfl, S, C, dx, [], rfl, hS, T.cl, T.nL, by show 0 < 1000; decide, ?_⟩
    refine ⟨_, rfl, _, rfl, S, C, dx, [("language", .ref lg)], rfl, upd_same, T.cl, T.nR, by show 1 < 1000; decide, ?_⟩
    rw [putF_ne n1]
    intro d0 hd0
    have sd0 : d0 ≠ S := fun z => by rw [z, upd_same] at hd0; cases hd0
    refine ⟨by show 1 ≤ sizeLine; decide, fun lv hlv => ⟨_, rfl, S, C, dx, [("language", .ref lg), ("rows", .ref rw)], rfl, ?_, T.cl, T.nV, by show 2 < 1000; decide, ?_⟩⟩
    · have ld0 : S ≠ lv := fun z => by rw [← z, upd_ne sd0.symm, upd_same] at hlv; cases hlv
      rw [upd_ne ld0, upd_ne sd0.symm, upd_same]
      rfl
    · have ld0 : lv ≠ S := fun z => by rw [z, upd_ne sd0.symm, upd_same] at hlv; cases hlv
      have ldd : lv ≠ d0 := fun z => by rw [z, upd_same] at hlv; cases hlv
      rw [putF_ne n2, putF_ne n3]
      intro kn hkn
      have kS : kn ≠ S := fun z => by rw [z, upd_same] at hkn; cases hkn
      have kl : kn ≠ lv := fun z => by rw [z, upd_ne ld0, upd_same] at hkn; cases hkn
      have kd : kn ≠ d0 := fun z => by rw [z, upd_ne sd0, upd_ne ldd.symm, upd_same] at hkn; cases hkn
      refine ⟨_, rfl, S, C, dx, [("language", .ref lg), ("rows", .ref rw), ("levels", .ref lv)], rfl, ?_, T.cl, T.nK, by show 3 < 1000; decide, ?_⟩
      · rw [upd_ne kS.symm, upd_same]
        rfl
      · rw [putF_ne n4, putF_ne n5, putF_ne n6]
        refine q _ lv kn d0 (fun b o hb e => ?_) upd_same ?_ ?_ ?_ ?_ ?_ kd.symm
        · have hbk : b ≠ kn := fun z => by
            rw [← z, upd_ne hb] at hkn
            by_cases z1 : b = lv
            · rw [z1, upd_same] at hkn; cases hkn
            · rw [upd_ne z1] at hkn
              by_cases z2 : b = d0
              · rw [z2, upd_same] at hkn; cases hkn
              · rw [upd_ne z2, upd_ne hb, upd_ne hb, e] at hkn; cases hkn
          have hbl : b ≠ lv := fun z => by
            rw [← z] at hlv
            by_cases z2 : b = d0
            · rw [z2, upd_same] at hlv; cases hlv
            · rw [upd_ne z2, upd_ne hb, upd_ne hb, e] at hlv; cases hlv
          have hbd : b ≠ d0 := fun z => by
            rw [← z, upd_ne hb, upd_ne hb, e] at hd0; cases hd0
          rw [upd_ne hb, upd_ne hbk, upd_ne hb, upd_ne hbl, upd_ne hbd, upd_ne hb, upd_ne hb]
          exact e
        · rw [upd_ne ldd, upd_ne ld0, upd_ne ld0] at hlv
          exact hlv
        · rw [upd_ne kS, upd_ne kl, upd_ne kd, upd_ne kS, upd_ne kS] at hkn
          exact hkn
        · rw [upd_ne ld0, upd_ne kl.symm, upd_ne ld0, upd_same]
        · rw [upd_ne sd0, upd_ne kd.symm, upd_ne sd0, upd_ne ldd.symm, upd_same]
        · rw [upd_ne kS, upd_same]
theorem ok_first {f fG fI : Addr} {fd fdG fdI : FuncData} (F : Fun K "first_term" "first_term" sFirst f fd) (T : SCls K C) (TL : LCls K CL) (mrg : mg "range" = none) (gC : mg "Search" = some (.ref C)) (M : Mk K C fI)
    (FI : FnOk P wd K mg base CX0 1 fI fdI ["self", "language", "rows"] (spSInit C)) (bI : Binds K fdI ["self", "language", "rows"] [])
    (FG : FnOk P wd K mg base CX0 6 fG fdG ["self"] (spGrow K C CL)) (bG : Binds K fdG ["self"] []) (mG : Meth K C "grow" fG) : FnOk P wd K mg base CX0 7 f fd ["language", "rows", "wanted", "most"] (spFirst K CL) := by
  refine F.ok scFirst (fun vs H Q E h => ?_) (fun cdv A outer s H vs Q E hr h => ?_)
  · obtain ⟨lg, rw, wa, m, w, k, g, rows, v, rfl, _⟩ := h
    rfl
  · obtain ⟨lg, rw, wa, m, w, k, g, rows, v, rfl, hL, hR, hrw, hwa, hA, hm, q⟩ := h
    have hr2 : Room 2 _ := hr.mono (by decide)
    refine ⟨_, pss_cons (ps_set (i := 4) scFirst.nd rfl (Or.inl rfl) (pe_make M FI hr2 rfl gC bI .nil pass0 (pa_cons (pv 0) (pa_cons (pv 1) pa_nil))))
      (pss_cons (ps_for PassesOwn.never rfl (pi_range2 (by rfl) mrg (pa_cons pe_int (pa_cons (pe_op op_add (pv 3) pe_int) pa_nil))) (pg_name (i := 5) scFirst.nd rfl (Or.inl rfl))
        (pss_cons (ps_set (i := 6) scFirst.nd rfl (Or.inl rfl) (pe_meth0 (pv 4) T.cl mG FG hr bG .nil pass0))
        (pss_one (ps_if (pt_cmp (pc_din (hu_of hr) (pv 2) (pv 6))) (pss_one (ps_ret (pe_tup (pa_cons (pv 5) (pa_cons (pe_dget (hu_of hr) (pv 6) (pv 2) (fun _ _ => rfl)) pa_nil))))) pss_nil))))
      (pss_one (ps_ret pe_non))), ?_⟩
    obtain ⟨dL, an, ap, a1, a2, a3⟩ := hL.ex
    refine ⟨_, rfl, _, rfl, fun S dx hS hdx ndx => ?_⟩
    refine ⟨S, dx, lg, rw, rfl, upd_same, fun H1 lv kn d0 sb eS flv fkn elv ed0 ekn nk => ⟨rfl, ?_⟩⟩
    have s1 : Same H H1 := fun b o e => sb b o (ne_of_none e hS) (by rw [upd_ne (ne_of_none e hS), upd_ne (ne_of_none e hdx)]; exact e)
    have flv' : H lv = none := by
      have h1 : lv ≠ S := fun z => by rw [z, upd_same] at flv; cases flv
      have h2 : lv ≠ dx := fun z => by rw [z, upd_ne ndx, upd_same] at flv; cases flv
      rw [upd_ne h1, upd_ne h2] at flv
      exact flv
    have fkn' : H kn = none := by
      have h1 : kn ≠ S := fun z => by rw [z, upd_same] at fkn; cases fkn
      have h2 : kn ≠ dx := fun z => by rw [z, upd_ne ndx, upd_same] at fkn; cases fkn
      rw [upd_ne h1, upd_ne h2] at fkn
      exact fkn
    have srch0 : Srch K C CL H1 S lv kn w k g rows 0 := by
      refine ⟨dx, lg, rw, dL, an, ap, [d0], [], eS, s1 _ _ a1, s1 _ _ a2, s1 _ _ a3, hR.mono s1, elv, rfl, fun f x ex => ?_, ekn, fun v => ?_, Nat.zero_le _, fun z => hrw (by rw [z]; exact flv')⟩
      · cases f with
        | zero =>
          have : d0 = x := by simpa using ex
          subst this
          exact ⟨nk, [], ed0, .nil⟩
        | succ f => simp at ex
      · simp [knownD, knownM, levelsM, valV]
    refine ⟨_, rfl, _, _, rfl, rfl, 1, (m : Int) + 1, rfl, ⟨by omega, by omega, by omega, by omega⟩, ?_⟩
    have em : ((m : Int) + 1 - 1).toNat = m := by omega
    rw [em]
    refine for_range (lo := 1) (n := m) (fun i σ H2 => ∃ v5 v6 : Option V, σ = [some (.ref lg), some (.ref rw), some (.ref wa), some (.int (m : Int)), some (.ref S), v5, v6] ∧ Same H H2 ∧ Srch K C CL H2 S lv kn w k g rows i ∧ foundQ H Q (firstFrom (lvM w k g rows) v (1 + i) (m - i)))
      ⟨none, none, rfl, s1, srch0, q⟩ ?_ ?_
    · rintro i σ H2 hi ⟨v5, v6, rfl, s2, srch2, q2⟩
      obtain ⟨dx', lg', rw', dL', an', ap', ds', kk', eS2, _⟩ := srch2.ex
      refine ⟨_, rfl, S, dx', _, rfl, eS2, ?_, ?_⟩
      · exact (lk_past (by decide +kernel)).trans ((lk_past (by decide +kernel)).trans ((lk_past (by decide +kernel)).trans ((lk_past (by decide +kernel)).trans rfl)))
      · refine ⟨S, lv, kn, w, k, g, rows, i, rfl, srch2, hA, by omega, fun H3 d b3 srch3 hD3 => ?_⟩
        obtain ⟨kvs, hd, hr3⟩ := hD3.ex
        have s3 : Same H H3 := fun b o e => b3 b o (ne_of_none e flv') (ne_of_none e fkn') (s2 b o e)
        have key : (keyOf v).map kV = iv v := key_iv v
        have gd : DGet H3 d (.ref wa) (valV kvs (keyOf v)) := DGet.t hd (by rw [key]; exact s3 _ _ hwa)
        have e1 : m - i = (m - (i + 1)) + 1 := by omega
        rw [e1] at q2
        have hv := hr3.val v
        have hvs := hr3.val_some v
        refine ⟨_, rfl, _, rfl, d, _, rfl, gd, _, rfl, ?_⟩
        rw [Nat.add_comm 1 i] at q2
        simp only [firstFrom] at q2
        cases e : lookE (lvM w k g rows (i + 1)) v with
        | none =>
          rw [e] at hvs q2
          refine ifF (by rw [hvs]; rfl) ?_
          refine ⟨_, _, rfl, s3, srch3, ?_⟩
          rw [Nat.add_comm 1 (i + 1)]
          exact q2
        | some s0 =>
          rw [e] at hvs q2 hv
          obtain ⟨c0, hv1, hc0⟩ := hv
          refine ifT (by rw [hvs]; rfl) ?_
          refine ⟨_, rfl, _, rfl, _, rfl, d, .ref c0, rfl, by rw [← hv1]; exact gd, by show 2 ≤ sizeLine; decide, fun p hp => ?_⟩
          refine q2 _ p c0 (s3.trans (same_upd hp)) ?_ (same_upd hp _ _ hc0)
          rw [upd_same]
          have : (1 : Int) + (i : Int) = ((i + 1 : Nat) : Int) := by omega
          rw [this]
    · rintro σ H2 ⟨v5, v6, rfl, s2, srch2, q2⟩
      rw [Nat.sub_self] at q2
      exact q2 _ s2
end
end LT
set_option Elab.async false
set_option maxRecDepth 100000
set_option maxHeartbeats 2000000
set_option linter.unusedSimpArgs false
set_option linter.unusedVariables false
namespace LT
open PySem PySem.Spec PyProof.Rows L2
/-! ### all_rows -/
def TupH (H : Hp) (a : Addr) (row : List Nat) : Prop := H a = some (.tup (iv row))
/-- a list of new tuples -/
structure RowsH (H : Hp) (p : Addr) (rows : List (List Nat)) : Prop where
  ex : ∃ as : List Addr, H p = some (.lst (as.map V.ref)) ∧ Paired (TupH H) as rows
theorem RowsH.at {K : PySem.W.Frag} {H : Hp} {p : Addr} {rows : List (List Nat)} (h : RowsH H p rows) : RowsAt K H p rows := by
  obtain ⟨as, h1, h2⟩ := h.ex
  exact ⟨as, SqL.new h1, paired_imp h2 fun _ _ _ e => SqT.new e⟩
theorem RowsH.mono {H H' : Hp} {p : Addr} {rows : List (List Nat)} (h : RowsH H p rows) (s : Same H H') : RowsH H' p rows := by
  obtain ⟨as, h1, h2⟩ := h.ex
  exact ⟨as, s _ _ h1, paired_imp h2 fun _ _ _ e => s _ _ e⟩
theorem RowsH.some {H : Hp} {p : Addr} {rows : List (List Nat)} (h : RowsH H p rows) : H p ≠ none := by
  obtain ⟨as, h1, _⟩ := h.ex
  rw [h1]
  exact fun z => by cases z
def spRows : Sp := fun vs H Q _ => ∃ (w k : Nat), vs = [.int ((2 ^ w : Nat) : Int), .int (k : Int)] ∧ w ≤ 4 ∧ k ≤ 2 ∧ ∀ H' p, Same H H' → H p = none → RowsH H' p (Sm08.rowsOf w k) → Q (.ref p) H'
abbrev sRows : Stmt := top 16
theorem scRows : FnScope ["size", "inputs", "rows", "place", "longer", "row", "word"] ["size", "inputs"] (defScope sRows) := ⟨rfl, rfl, rfl, by decide +kernel, rfl, by decide +kernel, by decide +kernel⟩
theorem rowsOf_len (w : Nat) : ∀ k, (Sm08.rowsOf w k).length = 2 ^ (w * k)
  | 0 => by simp [Sm08.rowsOf]
  | k + 1 => by
    have e : (Sm08.rowsOf w (k + 1)).length = (Sm08.rowsOf w k).length * 2 ^ w := by
      rw [Sm08.rowsOf, List.length_flatMap]
      simp only [List.length_map, List.length_range, List.map_const', List.sum_replicate_nat]
    rw [e, rowsOf_len w k, Nat.mul_succ, Nat.pow_add]
theorem rowsOf_small {w k : Nat} (hw : w ≤ 4) (hk : k ≤ 2) : (Sm08.rowsOf w k).length ≤ 256 := by
  rw [rowsOf_len]
  have : w * k ≤ 4 * 2 := Nat.mul_le_mul hw hk
  exact Nat.le_trans (Nat.pow_le_pow_right (by decide) this) (by decide)
theorem rowsOf_ok (w : Nat) : ∀ k, ∀ row ∈ Sm08.rowsOf w k, RowOk w k row
  | 0, row, h => by
    simp [Sm08.rowsOf] at h
    subst h
    exact ⟨rfl, by simp⟩
  | k + 1, row, h => by
    simp only [Sm08.rowsOf, List.mem_flatMap, List.mem_map, List.mem_range] at h
    obtain ⟨l, hl, x, hx, rfl⟩ := h
    obtain ⟨h1, h2⟩ := rowsOf_ok w k l hl
    refine ⟨by simp [h1], fun y hy => ?_⟩
    rcases List.mem_append.mp hy with hy | hy
    · exact h2 y hy
    · simp at hy
      subst hy
      exact hx
section
variable {P : Program} {wd : World} {K : PySem.W.Frag} {mg : Str → Option Value} {base : Heap}
theorem ok_rows {f : Addr} {fd : FuncData} {k : Nat} (F : Fun K "all_rows" "all_rows" sRows f fd) (mrg : mg "range" = none) : FnOk P wd K mg base CX0 (k + 1) f fd ["size", "inputs"] spRows := by
  refine F.ok scRows (fun vs H Q E h => ?_) (fun cdv A outer s H vs Q E hr h => ?_)
  · obtain ⟨w, k, rfl, _⟩ := h
    rfl
  · obtain ⟨w, k, rfl, hw, hk, q⟩ := h
    refine ⟨_, pss_cons (ps_set (i := 2) scRows.nd rfl (Or.inl rfl) (pe_lst (pa_cons (pe_tup pa_nil) pa_nil)))
      (pss_cons (ps_for PassesOwn.never rfl (pi_range1 (by rfl) mrg (pa_cons (pv 1) pa_nil)) (pg_name (i := 3) scRows.nd rfl (Or.inl rfl))
        (pss_cons (ps_set (i := 4) scRows.nd rfl (Or.inl rfl) (pe_lst pa_nil))
        (pss_cons (ps_for PassesOwn.never rfl (pi_list (pv 2)) (pg_name (i := 5) scRows.nd rfl (Or.inr rfl))
          (pss_one (ps_expr (pe_bm PySem.F.plainAttrs_list PySem.F.slot_list_extend PySem.F.type_list_extend mt_extend (pv 4) (pa_cons
            (pe_lc (own := [("word", 6)]) (g := gName 6) (tt := tYes) (te := tOp (rCatA K) (tVar 5) (tTup (tCons (tVar 6) tNil))) rfl scRows.nd (pi_range1 (by rfl) mrg (pa_cons (pv 0) pa_nil)) (blkOk_by (N := ["size", "inputs", "rows", "place", "longer", "row", "word"]) (sc := defScope sRows) (by decide +kernel))
              (fun _ _ _ _ _ => pg_name (i := 6) scRows.nd rfl (Or.inl rfl)) (fun _ _ _ _ _ => pts_nil) (fun _ _ _ _ _ => pe_op op_catA (pv 5) (pe_tup (pa_cons (pv 6) pa_nil)))) pa_nil)))))
        (pss_one (ps_set (i := 2) scRows.nd rfl (Or.inl rfl) (pv 4))))))
      (pss_one (ps_ret (pv 2)))), ?_⟩
    refine ⟨by show 0 ≤ sizeLine; decide, fun e0 he0 => ⟨by show 1 ≤ sizeLine; decide, fun p0 hp0 => ?_⟩⟩
    refine ⟨_, rfl, (k : Int), rfl, by omega, by omega, ?_⟩
    have ek : ((k : Int)).toNat = k := by omega
    rw [ek]
    have p0e : p0 ≠ e0 := fun z => by rw [z, upd_same] at hp0; cases hp0
    have fp0 : H p0 = none := by rw [upd_ne p0e] at hp0; exact hp0
    refine for_range (lo := 0) (n := k) (fun i σ H1 => ∃ (v3 v4 v5 : Option V) (p : Addr), σ = [some (.int ((2 ^ w : Nat) : Int)), some (.int (k : Int)), some (.ref p), v3, v4, v5, none] ∧ Same H H1 ∧ H p = none ∧ RowsH H1 p (Sm08.rowsOf w i))
      ⟨none, none, none, p0, rfl, (same_upd he0).trans (same_upd hp0), fp0, ⟨[e0], upd_same, .cons (by rw [TupH, upd_ne p0e.symm, upd_same]; rfl) .nil⟩⟩ ?_ ?_
    · rintro i σ H1 hi ⟨v3, v4, v5, p, rfl, s1, fp, hR⟩
      refine ⟨by show 0 ≤ sizeLine; decide, fun lo hlo => ?_⟩
      obtain ⟨as, hp, has⟩ := hR.ex
      have nlo : H lo = none := s1.free hlo
      have plo : p ≠ lo := ne_of_none hp hlo
      have las : as.length = (Sm08.rowsOf w i).length := has.length
      have l256 : (Sm08.rowsOf w i).length ≤ 256 := rowsOf_small hw (by omega)
      have w16 : 2 ^ w ≤ 16 := Nat.le_trans (Nat.pow_le_pow_right (by decide) hw) (by decide)
      have wi0 : (0 : Int) ≤ ((2 ^ w : Nat) : Int) := Int.natCast_nonneg _
      have wi1 : ((2 ^ w : Nat) : Int) ≤ ((16 : Nat) : Int) := Int.ofNat_le.mpr w16
      refine ⟨_, rfl, p, rfl, ⟨_, SqL.new (same_upd hlo _ _ hp)⟩, ?_⟩
      refine for_list (K := K) (a := p) (xs := as.map V.ref) (fun j σ H2 => ∃ (v5 : Option V), σ = [some (.int ((2 ^ w : Nat) : Int)), some (.int (k : Int)), some (.ref p), some (.int (0 + (i : Int))), some (.ref lo), v5, none] ∧ Same H1 H2 ∧ RowsH H2 lo (((Sm08.rowsOf w i).take j).flatMap fun l => (List.range (2 ^ w)).map fun x => l ++ [x]))
        ⟨v5, rfl, same_upd hlo, ⟨[], upd_same, .nil⟩⟩ (fun j σ H2 _ ⟨_, _, s2, _⟩ => SqL.new (s2 _ _ hp)) ?_ ?_
      · rintro j x σ H2 hx ⟨v5, rfl, s2, hR2⟩
        obtain ⟨a, ha, rfl⟩ := refs_get hx
        obtain ⟨row, hrow, hat⟩ := paired_get has ha
        have hat2 : H2 a = some (.tup (iv row)) := s2 _ _ hat
        obtain ⟨bs, hb, hbs⟩ := hR2.ex
        have lrow : row.length ≤ 2 := by
          have := (rowsOf_ok w i row (List.mem_of_getElem? hrow)).1
          omega
        have lbs : bs.length ≤ 5000 := by
          have h1 : bs.length = _ := hbs.length
          have h2 := length_flatMap_le (fun l : List Nat => (List.range (2 ^ w)).map fun x => l ++ [x]) 16 ((Sm08.rowsOf w i).take j) (fun l _ => by simpa using w16)
          have h3 : ((Sm08.rowsOf w i).take j).length ≤ 256 := Nat.le_trans (List.length_take_le' _ _) l256
          have h4 := Nat.mul_le_mul_right 16 h3
          omega
        refine ⟨_, rfl, .inl ⟨rfl, _, SqL.new hb⟩, _, rfl, ((2 ^ w : Nat) : Int), rfl, Int.le_trans (by decide) wi0, Int.lt_of_le_of_lt wi1 (by decide), fun D hD => ?_⟩
        have ew : (((2 ^ w : Nat) : Int)).toNat = 2 ^ w := Int.toNat_natCast _
        rw [ew]
        have nDl : D ≠ lo := (ne_of_none hb hD).symm
        refine lc_it (walk_range (lo := 0) (n := 2 ^ w)) (fun t H3 => Same H2 H3 ∧ RowsH H3 D ((List.range t).map fun x => row ++ [x])) ⟨same_upd hD, ⟨[], upd_same, .nil⟩⟩ (fun _ _ _ _ => trivial) ?_ ?_
        · rintro t y _ H3 ht ⟨s3, hR3⟩ ⟨rfl, rfl⟩
          refine ⟨rfl, ?_⟩
          unfold tYes; dsimp only
          rw [if_pos rfl]
          obtain ⟨cs, hc, hcs⟩ := hR3.ex
          have lcs : cs.length = t := by
            have h1 : cs.length = _ := hcs.length
            simpa using h1
          have e0 : (0 : Int) + (t : Int) = (t : Int) := by omega
          have last : ∀ (H4 : Hp) (b : Addr), Same H3 H4 → H4 b = some (.tup (iv (row ++ [t]))) → ∃ acc, H4 D = some (.lst acc) ∧ acc.length < sizeLine ∧ Same H2 (upd H4 D (.lst (acc ++ [.ref b]))) ∧ RowsH (upd H4 D (.lst (acc ++ [.ref b]))) D ((List.range (t + 1)).map fun x => row ++ [x]) := by
            intro H4 b s4 hb4
            refine ⟨_, s4 _ _ hc, ?_, ?_, cs ++ [b], ?_, ?_⟩
            · rw [List.length_map, lcs]
              exact small_lt (by omega)
            · intro c o e
              rw [upd_ne (ne_of_none e hD)]
              exact s4 _ _ (s3 _ _ e)
            · rw [upd_same, List.map_append]
              rfl
            · rw [List.range_succ, List.map_append]
              refine paired_append (paired_imp hcs fun c _ _ e => ?_) (.cons ?_ .nil)
              · have e' := s4 _ _ e
                rw [TupH, upd_ne (fun z => by rw [z, s4 _ _ hc] at e'; cases e')]
                exact e'
              · rw [TupH, upd_ne (fun z => by rw [z, s4 _ _ hc] at hb4; cases hb4)]
                exact hb4
          refine ⟨_, rfl, _, rfl, by show 1 ≤ sizeLine; decide, fun b hb3 => ⟨a, b, iv row, [.int (0 + (t : Int))], rfl, rfl, SqT.new (same_upd hb3 _ _ (s3 _ _ hat2)), SqT.new upd_same, ?_, fun z => ?_, (fun _ z => by cases z), fun _ _ p2 hp2 => ?_⟩⟩
          · rw [iv_len]
            exact small_line (by simp; omega)
          · have z' : row = [] := by
              have := congrArg List.length z
              rw [iv_len] at this
              exact List.length_eq_zero_iff.mp this
            exact last _ b (same_upd hb3) (by rw [upd_same, z', e0]; rfl)
          · exact last _ p2 ((same_upd hb3).trans (same_upd hp2)) (by rw [upd_same, iv_append, e0]; rfl)
        · rintro H3 ⟨s3, hR3⟩
          obtain ⟨cs, hc, hcs⟩ := hR3.ex
          have lcs : cs.length = 2 ^ w := by
            have h1 : cs.length = _ := hcs.length
            simpa using h1
          refine ⟨lo, D, _, _, rfl, rfl, s3 _ _ hb, hc, ?_, ?_⟩
          · rw [List.length_map, List.length_map]
            exact small_line (by omega)
          · refine ⟨_, rfl, Same.put (s2.trans s3) hlo, bs ++ cs, by rw [upd_same, List.map_append], ?_⟩
            rw [take_flat _ hrow]
            refine paired_append (paired_imp hbs fun c _ _ e => ?_) (paired_imp hcs fun c _ _ e => ?_)
            · have e' := s3 _ _ e
              rw [TupH, upd_ne (fun z => by rw [z, s3 _ _ hb] at e'; cases e')]
              exact e'
            · have e' : H3 c = _ := e
              rw [TupH, upd_ne (fun z => by rw [z, s3 _ _ hb] at e'; cases e')]
              exact e'
      · rintro σ H2 ⟨v5, rfl, s2, hR2⟩
        rw [List.length_map, las, List.take_length] at hR2
        exact ⟨_, rfl, _, _, _, lo, rfl, s1.trans s2, nlo, hR2⟩
    · rintro σ H1 ⟨v3, v4, v5, p, rfl, s1, fp, hR⟩
      exact ⟨_, rfl, q _ p s1 fp hR⟩
end
end LT
set_option Elab.async false
set_option maxRecDepth 100000
set_option maxHeartbeats 2000000
set_option linter.unusedSimpArgs false
set_option linter.unusedVariables false
namespace LT
open PySem PySem.Spec PyProof.Rows L2
/-! ### Language.__init__, has_twice, told, first_difference -/
def spLInit (CL : Addr) : Sp := fun vs H Q _ => ∃ (S dx an ap : Addr) (w k : Nat), vs = [.ref S, .int ((2 ^ w : Nat) : Int), .int (k : Int), .ref an, .ref ap] ∧ H S = some (.ins CL dx []) ∧
  ∀ H', SameBut S H H' → H' S = some (.ins CL dx (lF w k an ap)) → Q .non H'
abbrev sLInit : Stmt := inClass (top 31) 0
theorem scLInit : FnScope ["self", "size", "inputs", "numbers", "prices"] ["self", "size", "inputs", "numbers", "prices"] (defScope sLInit) := ⟨rfl, rfl, rfl, by decide +kernel, rfl, by decide +kernel, by decide +kernel⟩
def spTwice (K : PySem.W.Frag) : Sp := fun vs H Q _ => ∃ (a : Addr) (l : List Nat), vs = [.ref a] ∧ SqL K H a (iv l) ∧ l.length ≤ 4000 ∧ Q (.bl (!Sm08.distinct l)) H
abbrev sTwice : Stmt := top 32
theorem scTwice : FnScope ["told"] ["told"] (defScope sTwice) := ⟨rfl, rfl, rfl, by decide +kernel, rfl, by decide +kernel, by decide +kernel⟩
theorem distinct_nodup : ∀ l : List Nat, Sm08.distinct l = true ↔ l.Nodup
  | [] => by simp [Sm08.distinct]
  | a :: l => by simp [Sm08.distinct, distinct_nodup l]
def spTold (K : PySem.W.Frag) : Sp := fun vs H Q _ => ∃ (p b : Addr) (c : Nat) (s : List Nat), vs = [.ref p] ∧ H p = some (.tup [.int (c : Int), .ref b]) ∧ H b = some (.lst (iv s)) ∧ s.length ≤ 1000 ∧
  ∀ H' r, Same H H' → H' r = some (.lst (iv (c :: s.length :: s))) → Q (.ref r) H'
abbrev sTold : Stmt := top 49
theorem scTold : FnScope ["found"] ["found"] (defScope sTold) := ⟨rfl, rfl, rfl, by decide +kernel, rfl, by decide +kernel, by decide +kernel⟩
/-- the first place at which two rows differ -/
def fstDiff (xs ys : List Nat) : Option Nat := (List.range xs.length).find? fun i => !decide (xs.getD i 0 = ys.getD i 0)
def spDiff : Sp := fun vs H Q _ => ∃ (a b : Addr) (xs ys : List Nat), vs = [.ref a, .ref b] ∧ H a = some (.tup (iv xs)) ∧ H b = some (.tup (iv ys)) ∧ xs.length = ys.length ∧ xs.length ≤ 1000 ∧
  ∀ H', Same H H' → Q (match fstDiff xs ys with | none => .non | some i => .int (i : Int)) H'
abbrev sDiff : Stmt := top 51
theorem scDiff : FnScope ["ones", "others", "place", "one"] ["ones", "others"] (defScope sDiff) := ⟨rfl, rfl, rfl, by decide +kernel, rfl, by decide +kernel, by decide +kernel⟩
section
variable {P : Program} {wd : World} {K : PySem.W.Frag} {mg : Str → Option Value} {base : Heap} {CL : Addr}
theorem ok_linit {f : Addr} {fd : FuncData} {k : Nat} (F : Fun K "__init__" "Language.__init__" sLInit f fd) (T : LCls K CL) : FnOk P wd K mg base CX0 (k + 1) f fd ["self", "size", "inputs", "numbers", "prices"] (spLInit CL) := by
  refine F.ok scLInit (fun vs H Q E h => ?_) (fun cdv A outer s H vs Q E hr h => ?_)
  · obtain ⟨S, dx, an, ap, w, k, rfl, _⟩ := h
    rfl
  · obtain ⟨S, dx, an, ap, w, k, rfl, hS, q⟩ := h
    refine ⟨_, pss_cons (ps_fld (pv 0) (pv 1) rfl) (pss_cons (ps_fld (pv 0) (pv 2) rfl) (pss_cons (ps_fld (pv 0) (pv 3) rfl) (pss_one (ps_fld (pv 0) (pv 4) rfl)))), ?_⟩
    have n1 : ¬ ("size" : Str) = "inputs" := by decide +kernel
    have n2 : ¬ ("size" : Str) = "numbers" := by decide +kernel
    have n3 : ¬ ("inputs" : Str) = "numbers" := by decide +kernel
    have n4 : ¬ ("size" : Str) = "prices" := by decide +kernel
    have n5 : ¬ ("inputs" : Str) = "prices" := by decide +kernel
    have n6 : ¬ ("numbers" : Str) = "prices" := by decide +kernel
    refine ⟨_, rfl, _, rfl, S, CL, dx, [], rfl, hS, T.cl, T.nS, by show 0 < 1000; decide, ?_⟩
    refine ⟨_, rfl, _, rfl, S, CL, dx, [("size", .int ((2 ^ w : Nat) : Int))], rfl, upd_same, T.cl, T.nI, by show 1 < 1000; decide, ?_⟩
    rw [putF_ne n1]
    refine ⟨_, rfl, _, rfl, S, CL, dx, [("size", .int ((2 ^ w : Nat) : Int)), ("inputs", .int (k : Int))], rfl, upd_same, T.cl, T.nN, by show 2 < 1000; decide, ?_⟩
    rw [putF_ne n2, putF_ne n3]
    refine ⟨_, rfl, _, rfl, S, CL, dx, [("size", .int ((2 ^ w : Nat) : Int)), ("inputs", .int (k : Int)), ("numbers", .ref an)], rfl, upd_same, T.cl, T.nP, by show 3 < 1000; decide, ?_⟩
    rw [putF_ne n4, putF_ne n5, putF_ne n6]
    exact q _ (fun b o hb e => by rw [upd_ne hb, upd_ne hb, upd_ne hb, upd_ne hb]; exact e) upd_same
theorem ok_twice {f : Addr} {fd : FuncData} {k : Nat} (F : Fun K "has_twice" "has_twice" sTwice f fd) (ml : mg "len" = none) (ms : mg "set" = none) : FnOk P wd K mg base CX0 (k + 1) f fd ["told"] (spTwice K) := by
  refine F.ok scTwice (fun vs H Q E h => ?_) (fun cdv A outer s H vs Q E hr h => ?_)
  · obtain ⟨a, l, rfl, _⟩ := h
    rfl
  · obtain ⟨a, l, rfl, hL, hl, q⟩ := h
    refine ⟨_, pss_one (ps_ret (pe_cmpR op_lt (pe_lenSetA (by rfl) ml (by rfl) ms (pv 0)) (pe_callB call_len_seq (by rfl) ml PySem.boot_len (pa_cons (pv 0) pa_nil)) (nomark _))), ?_⟩
    have e0 : iv l = (l.map fun (n : Nat) => (n : Int)).map V.int := by simp [iv]
    refine ⟨_, rfl, a, l.map fun (n : Nat) => (n : Int), rfl, by rw [← e0]; exact hL, by rw [List.length_map]; exact hl, _, rfl, a, _, rfl, .inl hL, _, _, rfl, rfl, ?_⟩
    have e : decide (((metLen (l.map fun (n : Nat) => (n : Int)) : Nat) : Int) < (((iv l).length : Nat) : Int)) = !Sm08.distinct l := by
      have h1 := metLen_lt (l.map fun (n : Nat) => (n : Int))
      rw [List.length_map] at h1
      have h2 : (l.map fun (n : Nat) => (n : Int)).Nodup ↔ l.Nodup := by
        constructor
        · intro h
          exact (List.pairwise_map.mp h).imp fun hab z => hab (by rw [z])
        · intro h
          exact List.Pairwise.map _ (fun a b hab z => hab (by omega)) h
      rw [iv_len, Bool.eq_iff_iff, decide_eq_true_eq, Bool.not_eq_true', ← Bool.not_eq_true, distinct_nodup, ← h2, ← h1]
      omega
    exact (congrArg (fun z => Q (.bl z) H) e).mpr q
theorem ok_told {f : Addr} {fd : FuncData} {k : Nat} (F : Fun K "told" "told" sTold f fd) (ml : mg "len" = none) : FnOk P wd K mg base CX0 (k + 1) f fd ["found"] (spTold K) := by
  refine F.ok scTold (fun vs H Q E h => ?_) (fun cdv A outer s H vs Q E hr h => ?_)
  · obtain ⟨p, b, c, s, rfl, _⟩ := h
    rfl
  · obtain ⟨p, b, c, sg, rfl, hp, hb, hl, q⟩ := h
    refine ⟨_, pss_one (ps_ret (pe_op op_cat (pe_lst (pa_cons (pe_ix ix_tup (pv 0) pe_int (fun _ _ => rfl)) (pa_cons (pe_callB call_len_seq (by rfl) ml PySem.boot_len (pa_cons (pe_ix ix_tup (pv 0) pe_int (fun _ _ => rfl)) pa_nil)) pa_nil))) (pe_ix ix_tup (pv 0) pe_int (fun _ _ => rfl)))), ?_⟩
    refine ⟨_, rfl, p, _, 0, .int (c : Int), rfl, rfl, SqT.new hp, rfl, _, rfl, p, _, 1, .ref b, rfl, rfl, SqT.new hp, rfl, b, _, rfl, .inl (SqL.new hb), by show 2 ≤ sizeLine; decide, fun p1 hp1 => ?_⟩
    refine ⟨_, rfl, p, _, 1, .ref b, rfl, rfl, SqT.new (same_upd hp1 _ _ hp), rfl, p1, b, _, _, rfl, rfl, upd_same, same_upd hp1 _ _ hb, ?_, fun p2 hp2 => ?_⟩
    · rw [iv_len]
      exact small_line (by simp; omega)
    · refine q _ p2 ((same_upd hp1).trans (same_upd hp2)) ?_
      rw [upd_same, iv_len]
      rfl
theorem ok_diff {f : Addr} {fd : FuncData} {k : Nat} (F : Fun K "first_difference" "first_difference" sDiff f fd) (me : mg "enumerate" = none) : FnOk P wd K mg base CX0 (k + 1) f fd ["ones", "others"] spDiff := by
  refine F.ok scDiff (fun vs H Q E h => ?_) (fun cdv A outer s H vs Q E hr h => ?_)
  · obtain ⟨a, b, xs, ys, rfl, _⟩ := h
    rfl
  · obtain ⟨a, b, xs, ys, rfl, ha, hb, hl, hn, q⟩ := h
    refine ⟨_, pss_cons (ps_for PassesOwn.never rfl (pi_enumT (by rfl) me (pa_cons (pv 0) pa_nil)) (pg_tup rfl (pgs_cons (pg_name (i := 2) scDiff.nd rfl (Or.inl rfl)) (pgs_cons (pg_name (i := 3) scDiff.nd rfl (Or.inl rfl)) pgs_nil)))
        (pss_one (ps_if (pt_cmpR op_ne (pv 3) (pe_ix ix_tup (pv 1) (pv 2) (fun _ _ => rfl)) (nomark _)) (pss_one (ps_ret (pv 2))) pss_nil)))
      (pss_one (ps_ret pe_non)), ?_⟩
    refine ⟨_, rfl, a, _, rfl, SqT.new ha, ?_⟩
    refine for_it walk_enumT (fun i σ H1 => ∃ v2 v3 : Option V, σ = [some (.ref a), some (.ref b), v2, v3] ∧ Same H H1 ∧ ∀ j < i, xs.getD j 0 = ys.getD j 0) ⟨none, none, rfl, fun _ _ e => e, fun j hj => absurd hj (by omega)⟩ (fun i σ H1 _ ⟨_, _, _, s1, _⟩ => SqT.new (s1 _ _ ha)) ?_ ?_
    · rintro i x σ H1 H2 hi ⟨v2, v3, rfl, s1, hj⟩ ⟨T', xk, yv, rfl, hT', rfl, hx, hy⟩
      obtain ⟨n, hn1, rfl⟩ := iv_get hy
      have ex : xk = .int (i : Int) := (Option.some.inj hx).symm
      subst ex
      have hlt : i < ys.length := by
        rw [iv_len] at hi
        omega
      have gx : xs.getD i 0 = n := by rw [List.getD_eq_getElem?_getD, hn1]; rfl
      have hy2 : ys[i]? = some (ys.getD i 0) := by
        rw [List.getD_eq_getElem?_getD, List.getElem?_eq_getElem hlt]
        rfl
      have s2 : Same H (upd H1 T' (.tup [.int (i : Int), .int (n : Int)])) := s1.trans (same_upd hT')
      refine ⟨T', _, rfl, SqT.new upd_same, rfl, .int (i : Int), [.int (n : Int)], rfl, .int (n : Int), [], rfl, rfl, ?_⟩
      refine ⟨_, rfl, _, rfl, _, rfl, b, _, (i : Int), .int (ys.getD i 0 : Int), rfl, rfl, SqT.new (s2 _ _ hb), atI_nat (by rw [iv, List.getElem?_map, hy2]; rfl), rfl, _, rfl, ?_⟩
      by_cases c : n = ys.getD i 0
      · refine ifF (by simp [c]) ?_
        refine ⟨_, _, rfl, s2, fun j hj2 => ?_⟩
        by_cases z : j = i
        · rw [z, gx, c]
        · exact hj j (by omega)
      · have cv : ¬ V.int (n : Int) = V.int ((ys.getD i 0 : Nat) : Int) := fun z => c (by
          have := V.int.inj z
          omega)
        refine ifT ((congrArg (fun b => !b) (decide_eq_false cv)).trans rfl) ?_
        have e : fstDiff xs ys = some i := by
          unfold fstDiff
          rw [List.find?_range_eq_some]
          refine ⟨by rw [gx, decide_eq_false c]; rfl, by rw [iv_len] at hi; simpa using hi, fun j hj2 => by rw [decide_eq_true (hj j hj2)]; rfl⟩
        have := q _ s2
        rw [e] at this
        exact ⟨_, rfl, this⟩
    · rintro σ H1 ⟨v2, v3, rfl, s1, hj⟩
      have e : fstDiff xs ys = none := by
        unfold fstDiff
        rw [List.find?_range_eq_none]
        intro j hj2
        have := hj j (by rw [iv_len]; exact hj2)
        rw [decide_eq_true this]; rfl
      have := q _ s1
      rw [e] at this
      exact this
end
end LT
set_option Elab.async false
set_option maxRecDepth 100000
set_option maxHeartbeats 2000000
set_option linter.unusedSimpArgs false
set_option linter.unusedVariables false
namespace LT
open PySem PySem.Spec PyProof.Rows L2
/-! ### may_be_let -/
/-- whether a language may be told so: the program's tests in their order -/
def mayM (w : Nat) (cs os ps : List Nat) : Bool := decide (cs.length ≤ 2) && (decide (os.length ≤ 5) && (Sm08.distinct cs && (Sm08.distinct os && (!(cs.any fun c => decide (2 ^ w ≤ c)) && (!(os.any fun o => decide (12 ≤ o)) && ps.all fun p => decide (1 ≤ p ∧ p ≤ 3))))))
def spMay (K : PySem.W.Frag) : Sp := fun vs H Q _ => ∃ (w : Nat) (a b c : Addr) (cs os ps : List Nat), vs = [.int ((2 ^ w : Nat) : Int), .ref a, .ref b, .ref c] ∧ H a = some (.lst (iv cs)) ∧ H b = some (.lst (iv os)) ∧ H c = some (.lst (iv ps)) ∧ ps.length ≤ os.length ∧
  ∀ H', Same H H' → Q (.bl (mayM w cs os ps)) H'
abbrev sMay : Stmt := top 33
theorem scMay : FnScope ["size", "numbers", "operations", "costs", "number", "operation", "cost"] ["size", "numbers", "operations", "costs"] (defScope sMay) := ⟨rfl, rfl, rfl, by decide +kernel, rfl, by decide +kernel, by decide +kernel⟩
/-- the comprehension of a test over a list -/
theorem lc_test {K : PySem.W.Frag} {H : Hp} {a : Addr} {xs : List Nat} {te : TE} {f : Nat → Bool} {σ : L2.St} {Qd : Hp → Prop} {s : Nat} {D : Addr} (hD : H D = none) (hL : H a = some (.lst (iv xs))) (hn : xs.length ≤ 1000)
    (hte : ∀ x ∈ xs, ∀ H' (R : VK), Same H H' → R (.bl (f x)) H' → te ((wipe σ [s]).set s (some (.int (x : Int)))) H' R) (hw : ∀ v, wipe ((wipe σ [s]).set s v) [s] = wipe σ [s])
    (q : ∀ H', Same H H' → H' D = some (.lst ((xs.map f).map V.bl)) → Qd H') : ∃ W : Nat → Nat → Hp → Prop, (∃ m, W 0 m (upd H D (.lst []))) ∧ ∀ i m H, W i m H →
      ((Itl K a).stop i H ∧ Qd H) ∨ ((Itl K a).go i H ∧ ∃ Nx : Hp → Prop, (∀ H', Nx H' → ∃ m', m' < m ∧ W (i + 1) m' H') ∧ ∀ x H', (Itl K a).yld i H x H' → gName s x (wipe σ [s]) H' fun σ2 H2 => wipe σ2 [s] = wipe σ [s] ∧ tYes σ2 H2 fun b H3 =>
        if b = true then te σ2 H3 fun y H4 => ∃ acc, H4 D = some (.lst acc) ∧ acc.length < sizeLine ∧ Nx (upd H4 D (.lst (acc ++ [y]))) else Nx H3) := by
  refine lc_list (K := K) (a := a) (xs := iv xs) (fun i H' => Same H H' ∧ H' D = some (.lst (((xs.take i).map f).map V.bl))) ⟨same_upd hD, upd_same⟩ (fun i H' _ p => SqL.new (p.1 _ _ hL)) ?_ ?_
  · intro i x H' hx p
    obtain ⟨n, hn', rfl⟩ := iv_get hx
    refine ⟨hw _, ?_⟩
    unfold tYes; dsimp only
    rw [if_pos rfl]
    refine hte n (List.mem_of_getElem? hn') H' _ p.1 ⟨_, p.2, ?_, ?_, ?_⟩
    · rw [List.length_map, List.length_map, List.length_take]
      exact small_lt (by omega)
    · intro b o e
      rw [upd_ne (ne_of_none e hD)]
      exact p.1 b o e
    · rw [upd_same, List.take_add_one, hn', List.map_append, List.map_append]
      rfl
  · intro H' p
    rw [iv_len, List.take_length] at p
    exact q _ p.1 p.2
section
variable {P : Program} {wd : World} {K : PySem.W.Frag} {mg : Str → Option Value} {base : Heap}
theorem ok_may {f : Addr} {fd : FuncData} (F : Fun K "may_be_let" "may_be_let" sMay f fd) (ml : mg "len" = none) (ma : mg "any" = none) (mA : mg "all" = none) (h2 : GInt mg "MOST_NUMBERS" 2) (h5 : GInt mg "MOST_OPERATIONS" 5) (hA : GTup K mg "ARITIES" (iv arities)) (hP : GTup K mg "PRICES" (iv [1, 2, 3]))
    (GT : CalN P wd K mg base 1 "has_twice" ["told"] (spTwice K)) : FnOk P wd K mg base CX0 2 f fd ["size", "numbers", "operations", "costs"] (spMay K) := by
  refine F.ok scMay (fun vs H Q E h => ?_) (fun cdv A outer s H vs Q E hr h => ?_)
  · obtain ⟨w, a, b, c, cs, os, ps, rfl, _⟩ := h
    rfl
  · obtain ⟨w, a, b, c, cs, os, ps, rfl, ha, hb, hc, hle, q⟩ := h
    obtain ⟨t2, g2⟩ := h2
    obtain ⟨t5, g5⟩ := h5
    obtain ⟨aA, gA, hSA⟩ := hA
    obtain ⟨aP, gP, hSP⟩ := hP
    obtain ⟨fT, gT, ⟨fdT, FT, bT, kT⟩⟩ := GT.ex
    refine ⟨_, pss_cons (ps_if (PW.pt (pw_or (pt_cmpR op_gt (pe_callB call_len_seq (by rfl) ml PySem.boot_len (pa_cons (pv 1) pa_nil)) (pe_glob (v := .int 2) rfl g2 ⟨_, rfl⟩) (nomark _)) (pw_or1 (pt_cmpR op_gt (pe_callB call_len_seq (by rfl) ml PySem.boot_len (pa_cons (pv 2) pa_nil)) (pe_glob (v := .int 5) rfl g5 ⟨_, rfl⟩) (nomark _))))) (pss_one (ps_ret pe_bl)) pss_nil)
      (pss_cons (ps_if (PW.pt (pw_or (pt_val (pe_call FT hr rfl gT kT bT .nil pass0 (pa_cons (pv 1) pa_nil))) (pw_or1 (pt_val (pe_call FT hr rfl gT kT bT .nil pass0 (pa_cons (pv 2) pa_nil)))))) (pss_one (ps_ret pe_bl)) pss_nil)
      (pss_cons (ps_if (pt_val (pe_callB (cr_any rfl) (by rfl) ma (by decide +kernel) (pa_cons (pe_lc (own := [("number", 4)]) (g := gName 4) (tt := tYes) rfl scMay.nd (pi_list (pv 1)) (blkOk_by (N := ["size", "numbers", "operations", "costs", "number", "operation", "cost"]) (sc := defScope sMay) (by decide +kernel))
              (fun _ _ _ _ _ => pg_name (i := 4) scMay.nd rfl (Or.inl rfl)) (fun _ _ _ _ _ => pts_nil) (fun _ _ _ _ _ => pe_cmpR op_ge (pv 4) (pv 0) (nomark _))) pa_nil))) (pss_one (ps_ret pe_bl)) pss_nil)
      (pss_cons (ps_if (pt_val (pe_callB (cr_any rfl) (by rfl) ma (by decide +kernel) (pa_cons (pe_lc (own := [("operation", 5)]) (g := gName 5) (tt := tYes) (te := tOp (rI0 fun i j => .bl (decide (j ≤ i))) (tVar 5) (tCB (fun xs H Q => ∃ p ys, xs = [.ref p] ∧ (SqL K H p ys ∨ SqT K H p ys) ∧ Q (.int ys.length) H) (tCons (tC (.ref aA)) tNil))) rfl scMay.nd (pi_list (pv 2)) (blkOk_by (N := ["size", "numbers", "operations", "costs", "number", "operation", "cost"]) (sc := defScope sMay) (by decide +kernel))
              (fun _ _ _ _ _ => pg_name (i := 5) scMay.nd rfl (Or.inl rfl)) (fun _ _ _ _ _ => pts_nil) (fun _ _ _ _ _ => pe_cmpR op_ge (pv 5) (pe_callB call_len_seq (by rfl) ml PySem.boot_len (pa_cons (pe_glob (v := .ref aA) rfl gA rfl) pa_nil)) (nomark _))) pa_nil))) (pss_one (ps_ret pe_bl)) pss_nil)
      (pss_one (ps_ret (pe_callB (cr_all rfl) (by rfl) mA (by decide +kernel) (pa_cons (pe_lc (own := [("cost", 6)]) (g := gName 6) (tt := tYes) (te := tOp (rIn K false) (tVar 6) (tC (.ref aP))) rfl scMay.nd (pi_list (pv 3)) (blkOk_by (N := ["size", "numbers", "operations", "costs", "number", "operation", "cost"]) (sc := defScope sMay) (by decide +kernel))
              (fun _ _ _ _ _ => pg_name (i := 6) scMay.nd rfl (Or.inl rfl)) (fun _ _ _ _ _ => pts_nil) (fun _ _ _ _ _ => pe_cmpR op_in_seq (pv 6) (pe_glob (v := .ref aP) rfl gP rfl) rfl)) pa_nil))))))), ?_⟩
    have wi : ∀ x : Nat, decide (((2 ^ w : Nat) : Int) ≤ (x : Int)) = decide (2 ^ w ≤ x) := fun x => by
      rw [Bool.eq_iff_iff, decide_eq_true_eq, decide_eq_true_eq]
      exact Int.ofNat_le
    refine ⟨_, rfl, a, _, rfl, .inl (SqL.new ha), _, _, rfl, rfl, _, rfl, ?_⟩
    rw [iv_len]
    by_cases c1 : cs.length ≤ 2
    case neg =>
      refine ifT (decide_eq_true (by omega)) ?_
      refine ifT rfl ?_
      have := q H (fun _ _ e => e)
      rw [show mayM w cs os ps = false by simp [mayM, c1]] at this
      exact this
    refine ifF (decide_eq_false (by omega)) ?_
    refine ⟨_, rfl, b, _, rfl, .inl (SqL.new hb), _, _, rfl, rfl, _, rfl, ?_⟩
    rw [iv_len]
    by_cases c2 : os.length ≤ 5
    case neg =>
      refine ifT (decide_eq_true (by omega)) ?_
      have := q H (fun _ _ e => e)
      rw [show mayM w cs os ps = false by simp [mayM, c2]] at this
      exact this
    refine ifF (decide_eq_false (by omega)) ?_
    refine ⟨_, rfl, a, cs, rfl, SqL.new ha, by omega, _, rfl, ?_⟩
    by_cases c3 : Sm08.distinct cs = true
    case neg =>
      refine ifT (by simpa using c3) ?_
      refine ifT rfl ?_
      have := q H (fun _ _ e => e)
      rw [show mayM w cs os ps = false by simp [mayM, c3]] at this
      exact this
    refine ifF (by simpa using c3) ?_
    refine ⟨_, rfl, b, os, rfl, SqL.new hb, by omega, _, rfl, ?_⟩
    by_cases c4 : Sm08.distinct os = true
    case neg =>
      refine ifT (by simpa using c4) ?_
      have := q H (fun _ _ e => e)
      rw [show mayM w cs os ps = false by simp [mayM, c4]] at this
      exact this
    refine ifF (by simpa using c4) ?_
    refine ⟨_, rfl, a, rfl, ⟨_, SqL.new ha⟩, fun D1 hD1 => ?_⟩
    refine lc_test (f := fun x => decide (2 ^ w ≤ x)) hD1 ha (by omega) (fun x hx H' R sm r => ⟨_, rfl, _, rfl, _, _, rfl, rfl, ?_⟩) (fun v => rfl) (fun H1 s1 hp1 => ⟨D1, _, rfl, SqL.new hp1, _, rfl, ?_⟩)
    · exact (congrArg (fun z => R (.bl z) H') (wi x)).mpr r
    have ea : ∀ (l : List Nat) (f : Nat → Bool), (l.map f).any id = l.any f := fun l f => by rw [List.any_map]; rfl
    rw [ea]
    by_cases c5 : (cs.any fun c => decide (2 ^ w ≤ c)) = true
    · refine ifT c5 ?_
      have := q _ s1
      rw [show mayM w cs os ps = false by simp only [mayM, c5]; simp] at this
      exact this
    have c5' : (cs.any fun c => decide (2 ^ w ≤ c)) = false := by simpa using c5
    refine ifF c5' ?_
    refine ⟨_, rfl, b, rfl, ⟨_, SqL.new (s1 _ _ hb)⟩, fun D2 hD2 => ?_⟩
    refine lc_test (f := fun x => decide (12 ≤ x)) hD2 (s1 _ _ hb) (by omega) (fun x hx H' R sm r => ⟨_, rfl, aA, _, rfl, .inr (hSA H'), _, _, rfl, rfl, ?_⟩) (fun v => rfl) (fun H2 s2 hp2 => ⟨D2, _, rfl, SqL.new hp2, _, rfl, ?_⟩)
    · have e12 : decide ((((iv arities).length : Nat) : Int) ≤ (x : Int)) = decide (12 ≤ x) := by
        have : (iv arities).length = 12 := rfl
        rw [this, Bool.eq_iff_iff, decide_eq_true_eq, decide_eq_true_eq]
        omega
      exact (congrArg (fun z => R (.bl z) H') e12).mpr r
    rw [ea]
    have s12 := s1.trans s2
    by_cases c6 : (os.any fun o => decide (12 ≤ o)) = true
    · refine ifT c6 ?_
      have := q _ s12
      rw [show mayM w cs os ps = false by simp only [mayM, c6]; simp] at this
      exact this
    have c6' : (os.any fun o => decide (12 ≤ o)) = false := by simpa using c6
    refine ifF c6' ?_
    refine ⟨_, rfl, c, rfl, ⟨_, SqL.new (s12 _ _ hc)⟩, fun D3 hD3 => ?_⟩
    refine lc_test (f := fun p => decide (1 ≤ p ∧ p ≤ 3)) hD3 (s12 _ _ hc) (by omega) (fun x hx H' R sm r => ⟨_, rfl, aP, _, rfl, .inr (hSP H'), rfl, rfl, ?_⟩) (fun v => rfl) (fun H3 s3 hp3 => ⟨D3, _, rfl, SqL.new hp3, ?_⟩)
    · have e3 : inV (.int (x : Int)) (iv [1, 2, 3]) = decide (1 ≤ x ∧ x ≤ 3) := by
        simp only [inV, iv, List.map_cons, List.map_nil, List.any_cons, List.any_nil, eqV, Bool.or_false]
        rw [Bool.eq_iff_iff, decide_eq_true_eq]
        simp
        omega
      exact (congrArg (fun z => R (.bl z) H') e3).mpr r
    have el : (ps.map fun p => decide (1 ≤ p ∧ p ≤ 3)).all id = ps.all fun p => decide (1 ≤ p ∧ p ≤ 3) := by rw [List.all_map]; rfl
    rw [el]
    have := q _ (s12.trans s3)
    rw [show mayM w cs os ps = ps.all fun p => decide (1 ≤ p ∧ p ≤ 3) by simp only [mayM, c5', c6', c1, c2, c3, c4]; simp] at this
    exact this
end
end LT
set_option linter.unusedSimpArgs false
set_option linter.unusedVariables false
/-! Mathematics K: what a term costs, sign by sign. -/
namespace LT
open Sm08
def signCost (g : Lang) (s : Nat) : Option Nat := if 20 ≤ s then priceOf g (s - 20) else if 2 ≤ s then (if g.consts.contains (s - 2) = true then some 1 else none) else some 1
def costL (g : Lang) : List Nat → Option Nat
  | [] => some 0
  | s :: l => (signCost g s).bind fun a => (costL g l).map fun b => a + b
theorem signCost_op (g : Lang) (o : Nat) : signCost g (20 + o) = priceOf g o := by
  unfold signCost
  rw [if_pos (by omega)]
  congr 1
  omega
theorem costL_code {w k : Nat} {g : Lang} (hw : w ≤ 4) (hk : k ≤ 2) : ∀ (t : Term), good t = true → fitsIn w k t = true → ∀ r : List Nat, costL g (code t ++ r) = (cost k g t).bind fun a => (costL g r).map fun b => a + b
  | .input i, hg, hf, r => by
    simp only [fitsIn, decide_eq_true_eq] at hf
    simp only [code, List.cons_append, List.nil_append, costL, cost, if_pos hf]
    have : signCost g i = some 1 := by
      unfold signCost
      rw [if_neg (by omega), if_neg (by omega)]
    rw [this]
  | .const c, hg, hf, r => by
    simp only [fitsIn, decide_eq_true_eq] at hf
    have h16 : 2 ^ w ≤ 16 := by
      have := Nat.pow_le_pow_right (show 0 < 2 by decide) hw
      simpa using this
    simp only [code, List.cons_append, List.nil_append, costL, cost]
    have : signCost g (2 + c) = if g.consts.contains c = true then some 1 else none := by
      unfold signCost
      rw [if_neg (by omega), if_pos (by omega)]
      have : 2 + c - 2 = c := by omega
      rw [this]
    rw [this]
  | .one o a, hg, hf, r => by
    simp only [good, Bool.and_eq_true] at hg
    simp only [fitsIn] at hf
    simp only [code, List.cons_append, costL, cost, signCost_op]
    rw [costL_code hw hk a (by simp [hg]) hf r]
    cases priceOf g o with
    | none => rfl
    | some p =>
      cases cost k g a with
      | none => rfl
      | some x =>
        cases costL g r with
        | none => rfl
        | some y => simp; omega
  | .two o a b, hg, hf, r => by
    simp only [good, Bool.and_eq_true] at hg
    simp only [fitsIn, Bool.and_eq_true] at hf
    simp only [code, List.cons_append, List.append_assoc, costL, cost, signCost_op]
    rw [costL_code hw hk a (by simp [hg]) hf.1, costL_code hw hk b (by simp [hg]) hf.2 r]
    cases priceOf g o with
    | none => rfl
    | some p =>
      cases cost k g a with
      | none => rfl
      | some x =>
        cases cost k g b with
        | none => rfl
        | some z =>
          cases costL g r with
          | none => rfl
          | some y => simp; omega
  | .pick a b c, hg, hf, r => by
    simp only [good, Bool.and_eq_true] at hg
    simp only [fitsIn, Bool.and_eq_true] at hf
    have e31 : signCost g 31 = priceOf g 11 := signCost_op g 11
    simp only [code, List.cons_append, List.append_assoc, costL, cost, e31]
    rw [costL_code hw hk a (by simp [hg]) hf.1, costL_code hw hk b (by simp [hg]) hf.2.1, costL_code hw hk c (by simp [hg]) hf.2.2 r]
    cases priceOf g 11 with
    | none => rfl
    | some p =>
      cases cost k g a with
      | none => rfl
      | some x =>
        cases cost k g b with
        | none => rfl
        | some z =>
          cases cost k g c with
          | none => rfl
          | some v =>
            cases costL g r with
            | none => rfl
            | some y => simp; omega
theorem costL_term {w k : Nat} {g : Lang} (hw : w ≤ 4) (hk : k ≤ 2) {t : Term} (hg : good t = true) (hf : fitsIn w k t = true) : costL g (code t) = cost k g t := by
  have := costL_code (g := g) hw hk t hg hf []
  rw [List.append_nil] at this
  rw [this]
  cases cost k g t with
  | none => rfl
  | some x => simp [costL]
end LT
set_option Elab.async false
set_option maxRecDepth 100000
set_option maxHeartbeats 2000000
set_option linter.unusedSimpArgs false
set_option linter.unusedVariables false
namespace LT
open PySem PySem.Spec PyProof.Rows L2
/-! ### sign_cost, term_cost -/
def costV (g : Sm08.Lang) (s : Nat) : V := match signCost g s with
  | none => .non
  | some n => .int (n : Int)
def optV : Option Nat → V
  | none => .non
  | some n => .int (n : Int)
theorem costV_eq (g : Sm08.Lang) (s : Nat) : costV g s = optV (signCost g s) := by
  unfold costV optV
  cases signCost g s <;> rfl
theorem iv_flat (l : List Nat) : (iv l).all flatV = true := by simp [iv, flatV]
theorem iv_in (n : Nat) (l : List Nat) : inV (.int (n : Int)) (iv l) = l.contains n := by
  rw [Bool.eq_iff_iff]
  simp only [inV, iv, List.any_map, List.any_eq_true, Function.comp, eqV, List.contains_iff_mem]
  constructor
  · rintro ⟨x, hx, e⟩
    have : x = n := by
      have := of_decide_eq_true (p := (x : Int) = (n : Int)) (by simpa using e)
      omega
    rw [← this]
    exact hx
  · intro h
    exact ⟨n, h, by simp⟩
theorem opsK_val (o : Nat) : ∀ ops : List (Nat × Nat), valV (opsK ops) (Sum.inl (o : Int)) = ((ops.find? fun x => x.1 == o).map fun x => x.2).map fun p => V.int (p : Int)
  | [] => rfl
  | x :: ops => by
    show valV ((Sum.inl (x.1 : Int), V.int (x.2 : Int)) :: opsK ops) _ = _
    by_cases h : x.1 = o
    · rw [valV_pos (by rw [h]), List.find?_cons_of_pos (by simpa using h)]
      rfl
    · rw [valV_neg (fun z => h (by have := Sum.inl.inj z; omega)), List.find?_cons_of_neg (by simpa using h), opsK_val o ops]
def spSign (CL : Addr) : Sp := fun vs H Q _ => ∃ (lg : Addr) (w k s : Nat) (g : Sm08.Lang), vs = [.ref lg, .int (s : Int)] ∧ LangH CL H lg w k g ∧ Q (costV g s) H
abbrev sSign : Stmt := top 34
theorem scSign : FnScope ["language", "sign"] ["language", "sign"] (defScope sSign) := ⟨rfl, rfl, rfl, by decide +kernel, rfl, by decide +kernel, by decide +kernel⟩
def spCost (K : PySem.W.Frag) (CL : Addr) : Sp := fun vs H Q _ => ∃ (lg a : Addr) (w k : Nat) (g : Sm08.Lang) (l : List Nat), vs = [.ref lg, .ref a] ∧ LangH CL H lg w k g ∧ SqL K H a (iv l) ∧ l.length ≤ 1000 ∧ ∀ H', Same H H' → Q (optV (costL g l)) H'
abbrev sCost : Stmt := top 35
theorem scCost : FnScope ["language", "term", "costs", "sign"] ["language", "term"] (defScope sCost) := ⟨rfl, rfl, rfl, by decide +kernel, rfl, by decide +kernel, by decide +kernel⟩
theorem costs_none (g : Sm08.Lang) : ∀ l : List Nat, inV .non (l.map (costV g)) = (costL g l).isNone
  | [] => rfl
  | s :: l => by
    have ih := costs_none g l
    simp only [inV, List.map_cons, List.any_cons] at ih ⊢
    rw [ih, costV_eq]
    simp only [costL]
    cases signCost g s with
    | none => rfl
    | some n =>
      cases costL g l with
      | none => rfl
      | some m => rfl
theorem costs_some (g : Sm08.Lang) : ∀ (l : List Nat) (n : Nat), costL g l = some n → ∃ ns : List Int, l.map (costV g) = ns.map V.int ∧ ns.sum = (n : Int)
  | [], n, h => by
    obtain rfl : 0 = n := Option.some.inj h
    exact ⟨[], rfl, rfl⟩
  | s :: l, n, h => by
    simp only [costL] at h
    cases e : signCost g s with
    | none => rw [e] at h; cases h
    | some a =>
      rw [e] at h
      cases e2 : costL g l with
      | none => rw [e2] at h; cases h
      | some b =>
        rw [e2] at h
        obtain rfl : a + b = n := Option.some.inj h
        obtain ⟨ns, h1, h2⟩ := costs_some g l b e2
        refine ⟨(a : Int) :: ns, ?_, ?_⟩
        · rw [List.map_cons, List.map_cons, h1, costV_eq, e]
          rfl
        · rw [List.sum_cons, h2]
          omega
theorem costs_flat (g : Sm08.Lang) (l : List Nat) : (l.map (costV g)).all flatV = true := by
  rw [List.all_eq_true]
  intro x hx
  obtain ⟨s, _, rfl⟩ := List.mem_map.mp hx
  rw [costV_eq]
  cases signCost g s <;> rfl
section
variable {P : Program} {wd : World} {K : PySem.W.Frag} {mg : Str → Option Value} {base : Heap} {CL : Addr}
theorem ok_sign {f : Addr} {fd : FuncData} {k : Nat} (F : Fun K "sign_cost" "sign_cost" sSign f fd) (TL : LCls K CL) (h20 : GInt mg "FIRST_OPERATION" 20) (h2 : GInt mg "FIRST_NUMBER" 2) (h1 : GInt mg "LEAF_COST" 1) : FnOk P wd K mg base CX0 (k + 1) f fd ["language", "sign"] (spSign CL) := by
  refine F.ok scSign (fun vs H Q E h => ?_) (fun cdv A outer s H vs Q E hr h => ?_)
  · obtain ⟨lg, w, k, s, g, rfl, _⟩ := h
    rfl
  · obtain ⟨lg, w, k, sg, g, rfl, hL, q⟩ := h
    obtain ⟨t20, g20⟩ := h20
    obtain ⟨t2, g2⟩ := h2
    obtain ⟨t1, g1⟩ := h1
    obtain ⟨dL, an, ap, e1, e2, e3⟩ := hL.ex
    refine ⟨_, pss_cons (ps_if (pt_cmpR op_ge (pv 1) (pe_glob (v := .int 20) rfl g20 ⟨_, rfl⟩) (nomark _)) (pss_one (ps_ret (pe_dget1 (hu_of hr) (pe_fld (pv 0) rfl) (pe_op op_sub (pv 1) (pe_glob (v := .int 20) rfl g20 ⟨_, rfl⟩)) ⟨rfl, rfl, rfl, rfl⟩))) pss_nil)
      (pss_cons (ps_if (PW.pt (pw_and (pt_cmpR op_ge (pv 1) (pe_glob (v := .int 2) rfl g2 ⟨_, rfl⟩) (nomark _)) (pw_and1 (pt_cmpR op_notIn_seq (pe_op op_sub (pv 1) (pe_glob (v := .int 2) rfl g2 ⟨_, rfl⟩)) (pe_fld (pv 0) rfl) rfl)))) (pss_one (ps_ret pe_non)) pss_nil)
      (pss_one (ps_ret (pe_glob (v := .int 1) rfl g1 ⟨_, rfl⟩)))), ?_⟩
    refine ⟨_, rfl, _, _, rfl, rfl, _, rfl, ?_⟩
    rw [costV_eq] at q
    unfold signCost at q
    by_cases c1 : 20 ≤ sg
    · rw [if_pos c1] at q
      refine ifT (decide_eq_true (by omega)) ?_
      have e : (sg : Int) - 20 = ((sg - 20 : Nat) : Int) := by omega
      have dg : DGet H ap (.int ((sg : Int) - 20)) (valV (opsK g.ops) (Sum.inl ((sg - 20 : Nat) : Int))) := by
        rw [e]
        exact DGet.k (k := Sum.inl ((sg - 20 : Nat) : Int)) e3
      refine ⟨_, rfl, lg, CL, dL, _, _, rfl, e1, TL.cl, TL.nP, lF_prices .., ap, rfl, .inl ⟨_, .inl e3⟩, _, rfl, _, _, rfl, rfl, _, dg, ?_⟩
      rw [opsK_val]
      unfold Sm08.priceOf at q
      cases ef : g.ops.find? fun x => x.1 == sg - 20 with
      | none => rw [ef] at q; exact q
      | some x => rw [ef] at q; exact q
    · rw [if_neg c1] at q
      refine ifF (decide_eq_false (by omega)) ?_
      refine ⟨_, rfl, _, _, rfl, rfl, _, rfl, ?_⟩
      by_cases c2 : 2 ≤ sg
      · rw [if_pos c2] at q
        refine ifT (decide_eq_true (by omega)) ?_
        have e : (sg : Int) - 2 = ((sg - 2 : Nat) : Int) := by omega
        refine ⟨_, rfl, _, _, rfl, rfl, _, rfl, lg, CL, dL, _, _, rfl, e1, TL.cl, TL.nN, lF_numbers .., an, _, rfl, .inl (SqL.new e2), rfl, iv_flat _, _, rfl, ?_⟩
        show if (!inV (.int ((sg : Int) - 2)) (iv g.consts)) = true then _ else _
        rw [e, iv_in]
        by_cases c3 : g.consts.contains (sg - 2) = true
        · rw [if_pos c3] at q
          refine ifF (by rw [c3]; rfl) ?_
          exact q
        · rw [if_neg c3] at q
          refine ifT (by rw [Bool.not_eq_true] at c3; rw [c3]; rfl) ?_
          exact q
      · rw [if_neg c2] at q
        refine ifF (decide_eq_false (by omega)) ?_
        refine ifF rfl ?_
        exact q
theorem ok_cost {f : Addr} {fd : FuncData} (F : Fun K "term_cost" "term_cost" sCost f fd) (ms : mg "sum" = none)
    (GS : CalN P wd K mg base 1 "sign_cost" ["language", "sign"] (spSign CL)) : FnOk P wd K mg base CX0 2 f fd ["language", "term"] (spCost K CL) := by
  refine F.ok scCost (fun vs H Q E h => ?_) (fun cdv A outer s H vs Q E hr h => ?_)
  · obtain ⟨lg, a, w, k, g, l, rfl, _⟩ := h
    rfl
  · obtain ⟨lg, a, w, k, g, l, rfl, hL, hS, hn, q⟩ := h
    obtain ⟨fS, gS, ⟨fdS, FS, bS, kS⟩⟩ := GS.ex
    refine ⟨_, pss_cons (ps_setLc (i := 2) (own := [("sign", 3)]) (g := gName 3) (tt := tYes) (te := tCall (spSign CL) [] E0 (tCons (tVar 0) (tCons (tVar 3) tNil))) rfl scCost.nd rfl rfl (sw_true rfl rfl rfl (by decide +kernel)) (pi_list (pv 1)) (blkOk_by (N := ["language", "term", "costs", "sign"]) (sc := defScope sCost) (by decide +kernel))
          (fun _ _ _ _ _ => pg_name (i := 3) scCost.nd rfl (Or.inl rfl)) (fun _ _ _ _ _ => pts_nil) (fun _ _ _ _ _ => pe_call FS hr rfl gS kS bS .nil pass0 (pa_cons (pv 0) (pa_cons (pv 3) pa_nil))))
      (pss_one (ps_ret (pe_ifExp (pt_cmpR op_in_seq pe_non (pv 2) rfl) pe_non (pe_callB (cr_sum rfl) (by rfl) ms (by decide +kernel) (pa_cons (pv 2) pa_nil))))), ?_⟩
    refine ⟨_, rfl, a, rfl, ⟨_, hS⟩, fun D hD => ?_⟩
    refine lc_list (K := K) (a := a) (xs := iv l) (fun i H' => Same H H' ∧ H' D = some (.lst ((l.take i).map (costV g)))) ⟨same_upd hD, upd_same⟩ (fun i H' _ p => p.1.seq hS) ?_ ?_
    · intro i x H' hx p
      obtain ⟨n, hn', rfl⟩ := iv_get hx
      refine ⟨rfl, ?_⟩
      unfold tYes; dsimp only
      rw [if_pos rfl]
      refine ⟨_, rfl, _, rfl, lg, w, k, n, g, rfl, hL.mono p.1, _, p.2, ?_, ?_, ?_⟩
      · rw [List.length_map, List.length_take]
        exact small_lt (by omega)
      · intro b o e
        rw [upd_ne (ne_of_none e hD)]
        exact p.1 b o e
      · rw [upd_same, List.take_add_one, hn', List.map_append]
        rfl
    · rintro H1 ⟨s1, hD1⟩
      rw [iv_len, List.take_length] at hD1
      refine ⟨_, rfl, D, _, rfl, .inl (SqL.new hD1), rfl, costs_flat g l, _, rfl, ?_⟩
      show if (inV .non (l.map (costV g))) = true then _ else _
      rw [costs_none]
      cases e : costL g l with
      | none =>
        rw [e] at q
        exact ifT rfl (q _ s1)
      | some n =>
        rw [e] at q
        refine ifF rfl ?_
        obtain ⟨ns, h1, h2⟩ := costs_some g l n e
        rw [h1] at hD1
        refine ⟨_, rfl, D, ns, rfl, SqL.new hD1, ?_⟩
        rw [h2]
        exact q _ s1
end
end LT
set_option Elab.async false
set_option maxRecDepth 100000
set_option maxHeartbeats 2000000
set_option linter.unusedSimpArgs false
set_option linter.unusedVariables false
namespace LT
open PySem PySem.Spec PyProof.Rows L2
/-! ### a heap but for one place; count_things -/
def hide (H : Hp) (g : Addr) : Hp := fun b => if b = g then none else H b
theorem hide_ne {H : Hp} {g b : Addr} (h : b ≠ g) : hide H g b = H b := if_neg h
theorem hide_at {H : Hp} {g : Addr} : hide H g g = none := if_pos rfl
theorem hide_some {H : Hp} {g b : Addr} {o : HO} (h : hide H g b = some o) : b ≠ g ∧ H b = some o := by
  by_cases c : b = g
  · rw [c, hide_at] at h
    cases h
  · rw [hide_ne c] at h
    exact ⟨c, h⟩
theorem same_hide {H : Hp} {g : Addr} {o : HO} : Same (hide H g) (upd H g o) := fun b x e => by
  obtain ⟨h1, h2⟩ := hide_some e
  rw [upd_ne h1]
  exact h2
theorem hide_same {H : Hp} {g : Addr} : Same (hide H g) H := fun b x e => (hide_some e).2
theorem hide_upd {H : Hp} {g : Addr} {o : HO} : hide (upd H g o) g = hide H g := by
  funext b
  by_cases c : b = g
  · rw [c, hide_at, hide_at]
  · rw [hide_ne c, hide_ne c, upd_ne c]
theorem hide_mono {H H' : Hp} {g : Addr} (s : Same H H') : Same (hide H g) (hide H' g) := fun b x e => by
  obtain ⟨h1, h2⟩ := hide_some e
  rw [hide_ne h1]
  exact s _ _ h2
/-- where the place is locked, what isn't locked stands elsewhere -/
theorem hide_of {H : Hp} {g b : Addr} {od : Obj} {u o : HO} (hg : H g = some (.frz od u)) (ho : ∀ x v, o ≠ .frz x v) (e : H b = some o) : hide H g b = some o := by
  have : b ≠ g := fun z => by
    rw [z, hg] at e
    exact ho _ _ (Option.some.inj e).symm
  rw [hide_ne this]
  exact e
theorem free_hide {H : Hp} {g : Addr} (h : H g = none) : Same H (hide H g) := fun b x e => by
  rw [hide_ne (ne_of_none e h)]
  exact e
def spThings (K : PySem.W.Frag) (CL : Addr) : Sp := fun vs H Q _ => ∃ (lg rw : Addr) (m w k : Nat) (g : Sm08.Lang) (rows : List (List Nat)), vs = [.ref lg, .ref rw, .int (m : Int)] ∧ LangH CL H lg w k g ∧ RowsAt K H rw rows ∧ H rw ≠ none ∧ Ask w k g rows ∧ m ≤ 5 ∧
  ∀ H' p, Same H H' → H' p = some (.lst (iv ((List.range' 1 m).map fun c => (lvM w k g rows c).length))) → Q (.ref p) H'
abbrev sThings : Stmt := top 40
theorem scThings : FnScope ["language", "rows", "most", "search", "counts"] ["language", "rows", "most"] (defScope sThings) := ⟨rfl, rfl, rfl, by decide +kernel, rfl, by decide +kernel, by decide +kernel⟩
theorem LvRel.hide {H : Hp} {g : Addr} {od : Obj} {u : HO} {l : List Ent} {kvs : List (List Key × V)} (h : LvRel H l kvs) (hg : H g = some (.frz od u)) : LvRel (hide H g) l kvs := h.mono fun c xs e => hide_of hg (fun _ _ z => nomatch z) e
section
variable {P : Program} {wd : World} {K : PySem.W.Frag} {mg : Str → Option Value} {base : Heap} {C CL : Addr}
theorem Srch.mono {H H' : Hp} {S lv kn : Addr} {w k : Nat} {g : Sm08.Lang} {rows : List (List Nat)} {n : Nat} (h : Srch K C CL H S lv kn w k g rows n) (s : Same H H') : Srch K C CL H' S lv kn w k g rows n := by
  obtain ⟨dx, lg, rw, dL, an, ap, ds, kk, h1, h2, h3, h4, h5, h6, h7, h8, h9, h10, h11, h12⟩ := h.ex
  refine ⟨dx, lg, rw, dL, an, ap, ds, kk, s _ _ h1, s _ _ h2, s _ _ h3, s _ _ h4, h5.mono s, s _ _ h6, h7, fun f x e => ?_, s _ _ h9, h10, h11, h12⟩
  obtain ⟨a, kvs, b, c⟩ := h8 f x e
  exact ⟨a, kvs, s _ _ b, c.noD (NoD.same s)⟩
theorem Srch.hide {H : Hp} {S lv kn g0 lg rw dx : Addr} {od : Obj} {u : HO} {w k : Nat} {g : Sm08.Lang} {rows : List (List Nat)} {n : Nat} (h : Srch K C CL H S lv kn w k g rows n) (hg : H g0 = some (.frz od u)) (hS : H S = some (.ins C dx (sF lg rw lv kn))) (hR : RowsAt K (hide H g0) rw rows) : Srch K C CL (hide H g0) S lv kn w k g rows n := by
  obtain ⟨dx', lg', rw', dL, an, ap, ds, kk, h1, h2, h3, h4, h5, h6, h7, h8, h9, h10, h11, h12⟩ := h.ex
  have er : rw' = rw := by
    rw [hS] at h1
    have h0 := HO.ins.inj (Option.some.inj h1)
    have h1' : (sF lg rw lv kn).lookup ("rows" : Str) = (sF lg' rw' lv kn).lookup ("rows" : Str) := by rw [h0.2.2]
    rw [sF_rows, sF_rows] at h1'
    exact (V.ref.inj (Option.some.inj h1')).symm
  subst er
  have k1 : ∀ {b : Addr} {o : HO}, (∀ x v, o ≠ .frz x v) → H b = some o → LT.hide H g0 b = some o := fun ho e => hide_of hg ho e
  refine ⟨dx', lg', rw', dL, an, ap, ds, kk, k1 (fun _ _ z => nomatch z) h1, k1 (fun _ _ z => nomatch z) h2, k1 (fun _ _ z => nomatch z) h3, k1 (fun _ _ z => nomatch z) h4, hR, k1 (fun _ _ z => nomatch z) h6, h7, fun f x e => ?_, k1 (fun _ _ z => nomatch z) h9, h10, h11, h12⟩
  obtain ⟨a, kvs, b, c⟩ := h8 f x e
  exact ⟨a, kvs, k1 (fun _ _ z => nomatch z) b, c.hide hg⟩
theorem ok_things {f fG fI : Addr} {fd fdG fdI : FuncData} (F : Fun K "count_things" "count_things" sThings f fd) (T : SCls K C) (TL : LCls K CL) (ml : mg "len" = none) (gC : mg "Search" = some (.ref C)) (M : Mk K C fI)
    (FI : FnOk P wd K mg base CX0 1 fI fdI ["self", "language", "rows"] (spSInit C)) (bI : Binds K fdI ["self", "language", "rows"] [])
    (FG : FnOk P wd K mg base CX0 6 fG fdG ["self"] (spGrow K C CL)) (bG : Binds K fdG ["self"] []) (mG : Meth K C "grow" fG) : FnOk P wd K mg base CX0 7 f fd ["language", "rows", "most"] (spThings K CL) := by
  refine F.ok scThings (fun vs H Q E h => ?_) (fun cdv A outer s H vs Q E hr h => ?_)
  · obtain ⟨lg, rw, m, w, k, g, rows, rfl, _⟩ := h
    rfl
  · obtain ⟨lg, rw, m, w, k, g, rows, rfl, hL, hR, hrw, hA, hm, q⟩ := h
    have hr2 : Room 2 _ := hr.mono (by decide)
    refine ⟨_, pss_cons (ps_set (i := 3) scThings.nd rfl (Or.inl rfl) (pe_make M FI hr2 rfl gC bI .nil pass0 (pa_cons (pv 0) (pa_cons (pv 1) pa_nil))))
      (pss_cons (ps_set (i := 4) scThings.nd rfl (Or.inl rfl) (pe_lst pa_nil))
      (pss_cons (ps_while PassesOwn.never (pt_cmpR op_lt (pe_callB call_len_seq (by rfl) ml PySem.boot_len (pa_cons (pv 4) pa_nil)) (pv 2) (nomark _))
        (pss_one (ps_expr (pe_bm PySem.F.plainAttrs_list PySem.F.slot_list_append PySem.F.type_list_append mt_append (pv 4) (pa_cons (pe_callB call_len_dT (by rfl) ml PySem.boot_len (pa_cons (pe_lock (pe_meth0 (pv 3) T.cl mG FG hr bG .nil pass0)) pa_nil)) pa_nil)))))
      (pss_one (ps_ret (pv 4))))), ?_⟩
    obtain ⟨dL, an, ap, a1, a2, a3⟩ := hL.ex
    refine ⟨_, rfl, _, rfl, fun S dx hS hdx ndx => ?_⟩
    refine ⟨S, dx, lg, rw, rfl, upd_same, fun H1 lv kn d0 sb eS flv fkn elv ed0 ekn nk => ⟨rfl, ?_⟩⟩
    have s1 : Same H H1 := fun b o e => sb b o (ne_of_none e hS) (by rw [upd_ne (ne_of_none e hS), upd_ne (ne_of_none e hdx)]; exact e)
    have flv' : H lv = none := by
      have h1 : lv ≠ S := fun z => by rw [z, upd_same] at flv; cases flv
      have h2 : lv ≠ dx := fun z => by rw [z, upd_ne ndx, upd_same] at flv; cases flv
      rw [upd_ne h1, upd_ne h2] at flv
      exact flv
    have fkn' : H kn = none := by
      have h1 : kn ≠ S := fun z => by rw [z, upd_same] at fkn; cases fkn
      have h2 : kn ≠ dx := fun z => by rw [z, upd_ne ndx, upd_same] at fkn; cases fkn
      rw [upd_ne h1, upd_ne h2] at fkn
      exact fkn
    have srch0 : Srch K C CL H1 S lv kn w k g rows 0 := by
      refine ⟨dx, lg, rw, dL, an, ap, [d0], [], eS, s1 _ _ a1, s1 _ _ a2, s1 _ _ a3, hR.mono s1, elv, rfl, fun f x ex => ?_, ekn, fun v => ?_, Nat.zero_le _, fun z => hrw (by rw [z]; exact flv')⟩
      · cases f with
        | zero =>
          have : d0 = x := by simpa using ex
          subst this
          exact ⟨nk, [], ed0, .nil⟩
        | succ f => simp at ex
      · simp [knownD, knownM, levelsM, valV]
    refine ⟨by show 0 ≤ sizeLine; decide, fun cl hcl => ?_⟩
    have hcl0 : H cl = none := by
      cases e : H cl with
      | none => rfl
      | some o => rw [s1 _ _ e] at hcl; cases hcl
    have nS : S ≠ cl := ne_of_none eS hcl
    have nlv : lv ≠ cl := ne_of_none elv hcl
    have nkn : kn ≠ cl := ne_of_none ekn hcl
    refine ⟨fun fuel σ H' => ∃ i : Nat, σ = [some (.ref lg), some (.ref rw), some (.int (m : Int)), some (.ref S), some (.ref cl)] ∧ fuel = m - i ∧ i ≤ m ∧ Same H H' ∧ H' S = some (.ins C dx (sF lg rw lv kn)) ∧ H' cl = some (.lst (iv ((List.range' 1 i).map fun c => (lvM w k g rows c).length))) ∧ Srch K C CL (hide H' cl) S lv kn w k g rows i,
      ⟨m, 0, rfl, rfl, Nat.zero_le _, s1.trans (same_upd hcl), by rw [upd_ne nS]; exact eS, upd_same, by rw [hide_upd]; exact srch0.mono (free_hide hcl)⟩, ?_⟩
    rintro fuel σ H' ⟨i, rfl, rfl, hi, s2, eS2, ecl, srch⟩
    have ll : (iv ((List.range' 1 i).map fun c => (lvM w k g rows c).length)).length = i := by rw [iv_len]; simp
    refine ⟨_, rfl, cl, _, rfl, .inl (SqL.new ecl), _, rfl, _, _, rfl, rfl, _, rfl, ?_⟩
    rw [ll]
    by_cases c : i < m
    · refine ifT (decide_eq_true (by omega)) ?_
      refine ⟨_, fun _ _ h => h, ?_⟩
      refine ⟨_, rfl, .inl ⟨rfl, _, SqL.new ecl⟩, cl, _, ecl, trivial, fun od => ?_⟩
      have sL : Same (hide H' cl) (upd H' cl (.frz od (.lst (iv ((List.range' 1 i).map fun c => (lvM w k g rows c).length))))) := same_hide
      refine ⟨_, rfl, S, dx, _, rfl, by rw [upd_ne nS]; exact eS2, ?_, ?_⟩
      · exact (lk_past (by decide +kernel)).trans ((lk_past (by decide +kernel)).trans ((lk_past (by decide +kernel)).trans ((lk_past (by decide +kernel)).trans rfl)))
      refine ⟨S, lv, kn, w, k, g, rows, i, rfl, srch.mono sL, hA, by omega, fun H3 d b3 srch3 hD3 => ?_⟩
      have ecl3 : H3 cl = some (.frz od (.lst (iv ((List.range' 1 i).map fun c => (lvM w k g rows c).length)))) := b3 _ _ nlv.symm nkn.symm upd_same
      obtain ⟨kvs, hd, hr3⟩ := hD3.ex
      have nd : d ≠ cl := fun z => by rw [z, ecl3] at hd; cases hd
      have s3 : Same H H3 := fun b o e => b3 b o (ne_of_none e flv') (ne_of_none e fkn') (by rw [upd_ne (ne_of_none e hcl0)]; exact s2 _ _ e)
      have nSlv : S ≠ lv := fun z => by rw [z] at eS; rw [eS] at elv; cases elv
      have nSkn : S ≠ kn := fun z => by rw [z] at eS; rw [eS] at ekn; cases ekn
      have eS3 : H3 S = some (.ins C dx (sF lg rw lv kn)) := b3 _ _ nSlv nSkn (by rw [upd_ne nS]; exact eS2)
      have lkv : kvs.length = (lvM w k g rows (i + 1)).length := hr3.length.symm
      refine ⟨ecl3, d, kvs, rfl, by rw [upd_ne nd]; exact hd, cl, _, _, rfl, rfl, upd_same, by rw [ll]; exact small_lt (by omega), ?_⟩
      have s4 : Same H (upd (upd H3 cl (.lst (iv ((List.range' 1 i).map fun c => (lvM w k g rows c).length)))) cl (.lst (iv ((List.range' 1 i).map fun c => (lvM w k g rows c).length) ++ [.int ((kvs.length : Nat) : Int)]))) := Same.put (Same.put s3 hcl0) hcl0
      refine ⟨m - (i + 1), by omega, i + 1, rfl, rfl, by omega, s4, by rw [upd_ne nS, upd_ne nS]; exact eS3, ?_, ?_⟩
      · rw [upd_same, lkv, List.range'_1_concat, List.map_append, iv_append]
        have : 1 + i = i + 1 := by omega
        rw [this]
        rfl
      · rw [hide_upd, hide_upd]
        exact srch3.hide ecl3 eS3 (hR.mono ((free_hide hcl0).trans (hide_mono s3)))
    · refine ifF (decide_eq_false (by omega)) ?_
      have : i = m := by omega
      subst this
      exact ⟨_, rfl, q _ cl s2 ecl⟩
end
end LT
set_option Elab.async false
set_option maxRecDepth 100000
set_option maxHeartbeats 2000000
set_option linter.unusedSimpArgs false
set_option linter.unusedVariables false
namespace LT
open PySem PySem.Spec PyProof.Rows L2
/-! ### a line in the heap; Line.begin, Line.__init__ -/
structure NCls (K : PySem.W.Frag) (C : Addr) : Prop where
  cl : Cls K C
  nL : NoAttr K C "language"
  nW : NoAttr K C "wish"
  nE : NoAttr K C "examples"
def nF (lg wi ex : Addr) : List (Str × V) := [("language", .ref lg), ("wish", .ref wi), ("examples", .ref ex)]
theorem nF_language (lg wi ex : Addr) : (nF lg wi ex).lookup ("language" : Str) = some (.ref lg) := lk_here
theorem nF_wish (lg wi ex : Addr) : (nF lg wi ex).lookup ("wish" : Str) = some (.ref wi) := (lk_past (by decide +kernel)).trans lk_here
theorem nF_examples (lg wi ex : Addr) : (nF lg wi ex).lookup ("examples" : Str) = some (.ref ex) := (lk_past (by decide +kernel)).trans ((lk_past (by decide +kernel)).trans lk_here)
def exK (ex : List Sm08.Example) : List (List Key × V) := ex.map fun x => (keyOf x.1, V.int (x.2 : Int))
/-- what a line is about, as the document lets it be -/
structure StOk (s : Sm08.St) : Prop where
  wd : Words s.w s.k
  k1 : 1 ≤ s.k
  lg : LangOk s.w s.lang
  wf : fine s.w s.k s.wish = true
  wl : (Sm08.code s.wish).length ≤ 24
  ex : ∀ x ∈ s.examples, RowOk s.w s.k x.1 ∧ x.2 < 2 ^ s.w
  en : s.examples.length ≤ 8
  ed : (s.examples.map (·.1)).Nodup
structure LineAt (CN CL : Addr) (H : Hp) (L : Addr) (s : Sm08.St) : Prop where
  ex : ∃ dx lg wi ex, H L = some (.ins CN dx (nF lg wi ex)) ∧ LangH CL H lg s.w s.k s.lang ∧ H wi = some (.lst (iv (Sm08.code s.wish))) ∧ H ex = some (.dT (exK s.examples))
theorem LineAt.mono {CN CL : Addr} {H H' : Hp} {L : Addr} {s : Sm08.St} (h : LineAt CN CL H L s) (sm : Same H H') : LineAt CN CL H' L s := by
  obtain ⟨dx, lg, wi, ex, h1, h2, h3, h4⟩ := h.ex
  exact ⟨dx, lg, wi, ex, sm _ _ h1, h2.mono sm, sm _ _ h3, sm _ _ h4⟩
/-- all stays but the line itself and what dicts with tuple keys hold -/
def Fr (L : Addr) (H H' : Hp) : Prop := ∀ b o, b ≠ L → (∀ kvs, o ≠ .dT kvs) → H b = some o → H' b = some o
theorem Fr.same {L : Addr} {H H' : Hp} (s : Same H H') : Fr L H H' := fun b o _ _ e => s b o e
theorem Fr.trans {L : Addr} {H H1 H2 : Hp} (a : Fr L H H1) (b : Fr L H1 H2) : Fr L H H2 := fun x o hx ho e => b x o hx ho (a x o hx ho e)
def newSt (w k : Nat) : Sm08.St := ⟨w, k, ⟨[(7, 1)], [1]⟩, .input 0, []⟩
theorem newSt_ok {w k : Nat} (hw : Words w k) (hk : 1 ≤ k) : StOk (newSt w k) := by
  have h2 : 2 ≤ 2 ^ w := by
    have := Nat.pow_le_pow_right (show 0 < 2 by decide) hw.w1
    simpa using this
  refine ⟨hw, hk, ⟨?_, ?_, by simp [newSt], by simp [newSt], by simp [newSt], by simp [newSt]⟩, ?_, by simp [newSt, Sm08.code], ?_, by simp [newSt], by simp [newSt]⟩
  · intro c hc
    simp [newSt] at hc
    subst hc
    show 1 < 2 ^ w
    omega
  · intro x hx
    simp [newSt] at hx
    subst hx
    decide
  · have h3 := hw.k2
    show fine w k (.input 0) = true
    simp [fine, good, Sm08.fitsIn]
    omega
  · intro x hx
    simp [newSt] at hx
def spBegin (CN CL : Addr) : Sp := fun vs H Q _ => ∃ (L dx : Addr) (w k : Nat) (fs : List (Str × V)), vs = [.ref L, .int (w : Int), .int (k : Int)] ∧ w ≤ 4 ∧ H L = some (.ins CN dx fs) ∧ (fs = [] ∨ ∃ lg wi ex, fs = nF lg wi ex) ∧
  ∀ H', SameBut L H H' → LineAt CN CL H' L (newSt w k) → Q .non H'
abbrev sBegin : Stmt := inClass (top 48) 1
theorem scBegin : FnScope ["self", "width", "inputs"] ["self", "width", "inputs"] (defScope sBegin) := ⟨rfl, rfl, rfl, by decide +kernel, rfl, by decide +kernel, by decide +kernel⟩
def spNInit (CN CL : Addr) : Sp := fun vs H Q _ => ∃ (L dx : Addr), vs = [.ref L] ∧ H L = some (.ins CN dx []) ∧ ∀ H', SameBut L H H' → LineAt CN CL H' L Sm08.init → Q .non H'
abbrev sNInit : Stmt := inClass (top 48) 0
theorem scNInit : FnScope ["self"] ["self"] (defScope sNInit) := ⟨rfl, rfl, rfl, by decide +kernel, rfl, by decide +kernel, by decide +kernel⟩
/-- fields as they come in -/
theorem put3 {fs : List (Str × V)} (h : fs = [] ∨ ∃ lg wi ex, fs = nF lg wi ex) (lg wi ex : Addr) :
    putF "examples" (.ref ex) (putF "wish" (.ref wi) (putF "language" (.ref lg) fs)) = nF lg wi ex := by
  have n1 : ¬ ("language" : Str) = "wish" := by decide +kernel
  have n2 : ¬ ("language" : Str) = "examples" := by decide +kernel
  have n3 : ¬ ("wish" : Str) = "examples" := by decide +kernel
  rcases h with rfl | ⟨a, b, c, rfl⟩
  · show putF "examples" _ (putF "wish" _ [("language", V.ref lg)]) = _
    rw [putF_ne n1]
    show putF "examples" _ [("language", V.ref lg), ("wish", V.ref wi)] = _
    rw [putF_ne n2, putF_ne n3]
    rfl
  · have e1 : putF "language" (.ref lg) (nF a b c) = nF lg b c := if_pos rfl
    have e2 : ∀ r : List (Str × V), putF "wish" (.ref wi) ((("wish" : Str), V.ref b) :: r) = (("wish" : Str), V.ref wi) :: r := fun r => if_pos rfl
    have e3 : ∀ r : List (Str × V), putF "examples" (.ref ex) ((("examples" : Str), V.ref c) :: r) = (("examples" : Str), V.ref ex) :: r := fun r => if_pos rfl
    rw [e1]
    unfold nF
    rw [putF_ne n1, e2, putF_ne n2, putF_ne n3, e3]
theorem putF_len (f : Str) (v : V) : ∀ fs : List (Str × V), (putF f v fs).length ≤ fs.length + 1
  | [] => Nat.le_refl _
  | (g, x) :: r => by
    unfold putF
    have := putF_len f v r
    split <;> simp <;> omega
section
variable {P : Program} {wd : World} {K : PySem.W.Frag} {mg : Str → Option Value} {base : Heap} {CN CL : Addr}
theorem ok_begin {f fI : Addr} {fd fdI : FuncData} (F : Fun K "begin" "Line.begin" sBegin f fd) (T : NCls K CN) (TL : LCls K CL) (h7 : GInt mg "SUM" 7) (gL : mg "Language" = some (.ref CL)) (M : Mk K CL fI)
    (FI : FnOk P wd K mg base CX0 1 fI fdI ["self", "size", "inputs", "numbers", "prices"] (spLInit CL)) (bI : Binds K fdI ["self", "size", "inputs", "numbers", "prices"] []) : FnOk P wd K mg base CX0 3 f fd ["self", "width", "inputs"] (spBegin CN CL) := by
  refine F.ok scBegin (fun vs H Q E h => ?_) (fun cdv A outer s H vs Q E hr h => ?_)
  · obtain ⟨L, dx, w, k, fs, rfl, _⟩ := h
    rfl
  · obtain ⟨L, dx, w, k, fs, rfl, hw, hL, hfs, q⟩ := h
    obtain ⟨t7, g7⟩ := h7
    refine ⟨_, pss_cons (ps_fld (pv 0) (pe_make M FI hr rfl gL bI .nil pass0 (pa_cons (pe_op op_shl pe_int (pv 1)) (pa_cons (pv 2) (pa_cons (pe_lst (pa_cons pe_int pa_nil)) (pa_cons (pe_disp (pps_cons (pe_glob (v := .int 7) rfl g7 ⟨_, rfl⟩) pe_int pps_nil) (by rfl) (by rfl) (fun z => by cases z) (by decide)) pa_nil))))) rfl)
      (pss_cons (ps_fld (pv 0) (pe_lst (pa_cons pe_int pa_nil)) rfl) (pss_one (ps_fld (pv 0) pe_dnewT rfl))), ?_⟩
    have lf : fs.length ≤ 3 := by
      rcases hfs with rfl | ⟨a, b, c, rfl⟩
      · exact Nat.zero_le _
      · exact Nat.le_refl _
    refine ⟨_, rfl, 1, (w : Int), rfl, rfl, ⟨by omega, by omega, by decide⟩, _, rfl, by show 1 ≤ sizeLine; decide, fun an han => ?_⟩
    intro ap hap
    refine ⟨upd_same, [(Sum.inl 7, .int 1)], rfl, by show 1 ≤ 15; decide, ?_⟩
    intro lg dL hlg hdL nd
    have sA : Same H (upd H an (.lst [.int 1])) := same_upd han
    have sB : Same (upd H an (.lst [.int 1])) (upd (upd (upd H an (.lst [.int 1])) ap (.dK [])) ap (.dK (mergeK [] [(Sum.inl 7, .int 1)]))) := fun b o e => by
      have := ne_of_none e hap
      rw [upd_ne this, upd_ne this]
      exact e
    have hB2 : upd (upd (upd H an (.lst [.int 1])) ap (.dK [])) ap (.dK (mergeK [] [(Sum.inl 7, .int 1)])) ap = some (.dK (opsK [(7, 1)])) := upd_same
    have hB1 : upd (upd (upd H an (.lst [.int 1])) ap (.dK [])) ap (.dK (mergeK [] [(Sum.inl 7, .int 1)])) an = some (.lst (iv [1])) := sB _ _ upd_same
    have sAB := sA.trans sB
    generalize upd (upd (upd H an (.lst [.int 1])) ap (.dK [])) ap (.dK (mergeK [] [(Sum.inl 7, .int 1)])) = HB at hlg hdL sAB hB1 hB2 ⊢
    have ew : (1 : Int) * 2 ^ ((w : Int)).toNat = ((2 ^ w : Nat) : Int) := by
      rw [Int.one_mul, Int.toNat_natCast]
      simp
    refine ⟨lg, dL, an, ap, w, k, by show [V.ref lg, V.int (1 * 2 ^ ((w : Int)).toNat), V.int (k : Int), V.ref an, V.ref ap] = _; rw [ew], upd_same, fun H1 sb hlg1 => ⟨rfl, ?_⟩⟩
    have s1 : Same HB H1 := fun b o e => sb b o (ne_of_none e hlg) (by rw [upd_ne (ne_of_none e hlg), upd_ne (ne_of_none e hdL)]; exact e)
    have s01 : Same H H1 := sAB.trans s1
    have hL1 := s01 _ _ hL
    refine ⟨_, rfl, L, CN, dx, fs, rfl, hL1, T.cl, T.nL, by omega, ?_⟩
    refine ⟨by show 1 ≤ sizeLine; decide, fun wi hwi => ?_⟩
    have nwi : L ≠ wi := fun z => by rw [← z, upd_same] at hwi; cases hwi
    have hw1 : H1 wi = none := by rw [upd_ne nwi.symm] at hwi; exact hwi
    have l1 := putF_len "language" (.ref lg) fs
    refine ⟨_, rfl, L, CN, dx, putF "language" (.ref lg) fs, rfl, by rw [upd_ne nwi, upd_same], T.cl, T.nW, by omega, ?_⟩
    have l2 := putF_len "wish" (.ref wi) (putF "language" (.ref lg) fs)
    intro ex hex
    have nex : L ≠ ex := fun z => by rw [← z, upd_same] at hex; cases hex
    have nxw : ex ≠ wi := fun z => by rw [z, upd_ne nwi.symm, upd_same] at hex; cases hex
    have hx1 : H1 ex = none := by rw [upd_ne nex.symm, upd_ne nxw, upd_ne nex.symm] at hex; exact hex
    refine ⟨_, rfl, L, CN, dx, putF "wish" (.ref wi) (putF "language" (.ref lg) fs), rfl, by rw [upd_ne nex, upd_same], T.cl, T.nE, by omega, ?_⟩
    have keep : ∀ b o, b ≠ L → H1 b = some o → upd (upd (upd (upd (upd H1 L (.ins CN dx (putF "language" (.ref lg) fs))) wi (.lst [.int 0])) L (.ins CN dx (putF "wish" (.ref wi) (putF "language" (.ref lg) fs)))) ex (.dT [])) L (.ins CN dx (putF "examples" (.ref ex) (putF "wish" (.ref wi) (putF "language" (.ref lg) fs)))) b = some o := fun b o hb e => by
      rw [upd_ne hb, upd_ne (ne_of_none e hx1), upd_ne hb, upd_ne (ne_of_none e hw1), upd_ne hb]
      exact e
    refine q _ (fun b o hb e => keep b o hb (s01 _ _ e)) ⟨dx, lg, wi, ex, ?_, ?_, ?_, ?_⟩
    · rw [upd_same, put3 hfs]
    · have nlL : lg ≠ L := (ne_of_none (sAB _ _ hL) hlg).symm
      have han0 : H an = none := han
      refine ⟨dL, an, ap, keep _ _ nlL hlg1, keep _ _ (ne_of_none hL han).symm (s1 _ _ hB1), keep _ _ ?_ (s1 _ _ hB2)⟩
      exact (ne_of_none (sA _ _ hL) hap).symm
    · rw [upd_ne nwi.symm, upd_ne nxw.symm, upd_ne nwi.symm, upd_same]
      rfl
    · rw [upd_ne nex.symm, upd_same]
      rfl
theorem ok_ninit {f fB : Addr} {fd fdB : FuncData} (F : Fun K "__init__" "Line.__init__" sNInit f fd) (T : NCls K CN)
    (FB : FnOk P wd K mg base CX0 3 fB fdB ["self", "width", "inputs"] (spBegin CN CL)) (bB : Binds K fdB ["self", "width", "inputs"] []) (mB : Meth K CN "begin" fB) : FnOk P wd K mg base CX0 4 f fd ["self"] (spNInit CN CL) := by
  refine F.ok scNInit (fun vs H Q E h => ?_) (fun cdv A outer s H vs Q E hr h => ?_)
  · obtain ⟨L, dx, rfl, _⟩ := h
    rfl
  · obtain ⟨L, dx, rfl, hL, q⟩ := h
    refine ⟨_, pss_one (ps_expr (pe_meth (pv 0) T.cl mB FB hr bB .nil pass0 (pa_cons pe_int (pa_cons pe_int pa_nil)))), ?_⟩
    exact ⟨_, rfl, L, dx, [], rfl, hL, rfl, L, dx, 2, 1, [], rfl, by decide, hL, .inl rfl, q⟩
end
end LT
set_option Elab.async false
set_option maxRecDepth 100000
set_option maxHeartbeats 2000000
set_option linter.unusedSimpArgs false
set_option linter.unusedVariables false
namespace LT
open PySem PySem.Spec PyProof.Rows L2
/-! ### Line.is_granted, are_inputs, every_row, outcomes; found_or_none -/
def spGrant (K : PySem.W.Frag) (CN CL : Addr) : Sp := fun vs H Q _ => ∃ (L a : Addr) (s : Sm08.St) (l : List Nat), vs = [.ref L, .ref a] ∧ LineAt CN CL H L s ∧ SqL K H a (iv l) ∧ Q (.bl (isTerm (2 ^ s.w) s.k l)) H
abbrev sGrant : Stmt := inClass (top 48) 15
theorem scGrant : FnScope ["self", "term"] ["self", "term"] (defScope sGrant) := ⟨rfl, rfl, rfl, by decide +kernel, rfl, by decide +kernel, by decide +kernel⟩
def spIns (K : PySem.W.Frag) (CN CL : Addr) : Sp := fun vs H Q _ => ∃ (L a : Addr) (s : Sm08.St) (l : List Nat), vs = [.ref L, .ref a] ∧ LineAt CN CL H L s ∧ StOk s ∧ SqL K H a (iv l) ∧ Q (.bl (Sm08.goodIns s l)) H
abbrev sIns : Stmt := inClass (top 48) 16
theorem scIns : FnScope ["self", "row"] ["self", "row"] (defScope sIns) := ⟨rfl, rfl, rfl, by decide +kernel, rfl, by decide +kernel, by decide +kernel⟩
def spEvery (CN CL : Addr) : Sp := fun vs H Q _ => ∃ (L : Addr) (s : Sm08.St), vs = [.ref L] ∧ LineAt CN CL H L s ∧ s.w ≤ 4 ∧ s.k ≤ 2 ∧ ∀ H' p, Same H H' → RowsH H' p (Sm08.rowsOf s.w s.k) → Q (.ref p) H'
abbrev sEvery : Stmt := inClass (top 48) 17
theorem scEvery : FnScope ["self"] ["self"] (defScope sEvery) := ⟨rfl, rfl, rfl, by decide +kernel, rfl, by decide +kernel, by decide +kernel⟩
def spOuts (K : PySem.W.Frag) (CN CL : Addr) : Sp := fun vs H Q _ => ∃ (L a r : Addr) (s : Sm08.St) (t : Sm08.Term) (rows : List (List Nat)), vs = [.ref L, .ref a, .ref r] ∧ LineAt CN CL H L s ∧ StOk s ∧ SqL K H a (iv (Sm08.code t)) ∧ fine s.w s.k t = true ∧ RowsE K H r rows ∧ (∀ row ∈ rows, RowOk s.w s.k row) ∧ rows.length ≤ 1000 ∧ (Sm08.code t).length ≤ 1000 ∧
  ∀ H' p, Same H H' → H' p = some (.tup (iv (outs s.w rows t))) → Q (.ref p) H'
abbrev sOuts : Stmt := inClass (top 48) 18
theorem scOuts : FnScope ["self", "term", "rows"] ["self", "term", "rows"] (defScope sOuts) := ⟨rfl, rfl, rfl, by decide +kernel, rfl, by decide +kernel, by decide +kernel⟩
/-- what a search hands back, as a value -/
def FoundV (H : Hp) (v : V) : Option (Nat × List Nat) → Prop
  | none => v = .non
  | some (c, s) => ∃ p b, v = .ref p ∧ H p = some (.tup [.int (c : Int), .ref b]) ∧ H b = some (.lst (iv s)) ∧ s.length ≤ 1000
def foundL : Option (Nat × List Nat) → List Nat
  | none => [0]
  | some (c, s) => 1 :: c :: s.length :: s
def spFound (K : PySem.W.Frag) : Sp := fun vs H Q _ => ∃ (v : V) (o : Option (Nat × List Nat)), vs = [v] ∧ FoundV H v o ∧ ∀ H' r, Same H H' → H r = none → H' r = some (.lst (iv (foundL o))) → Q (.ref r) H'
abbrev sFound : Stmt := top 50
theorem scFound : FnScope ["found"] ["found"] (defScope sFound) := ⟨rfl, rfl, rfl, by decide +kernel, rfl, by decide +kernel, by decide +kernel⟩
section
variable {P : Program} {wd : World} {K : PySem.W.Frag} {mg : Str → Option Value} {base : Heap} {CN CL : Addr}
theorem ok_grant {f : Addr} {fd : FuncData} (F : Fun K "is_granted" "Line.is_granted" sGrant f fd) (T : NCls K CN) (TL : LCls K CL)
    (GT : CalN P wd K mg base 2 "is_term" ["signs", "size", "inputs"] (spIsTerm K)) : FnOk P wd K mg base CX0 3 f fd ["self", "term"] (spGrant K CN CL) := by
  refine F.ok scGrant (fun vs H Q E h => ?_) (fun cdv A outer s H vs Q E hr h => ?_)
  · obtain ⟨L, a, s, l, rfl, _⟩ := h
    rfl
  · obtain ⟨L, a, st, l, rfl, hL, ha, q⟩ := h
    obtain ⟨fT, gT, ⟨fdT, FT, bT, kT⟩⟩ := GT.ex
    refine ⟨_, pss_one (ps_ret (pe_call FT hr rfl gT kT bT .nil pass0 (pa_cons (pv 1) (pa_cons (pe_fld (pe_fld (pv 0) rfl) rfl) (pa_cons (pe_fld (pe_fld (pv 0) rfl) rfl) pa_nil))))), ?_⟩
    obtain ⟨dx, lg, wi, ex, e1, e2, e3, e4⟩ := hL.ex
    obtain ⟨dL, an, ap, l1, l2, l3⟩ := e2.ex
    refine ⟨_, rfl, _, rfl, L, CN, dx, _, _, rfl, e1, T.cl, T.nL, nF_language .., lg, CL, dL, _, _, rfl, l1, TL.cl, TL.nS, lF_size .., _, rfl, L, CN, dx, _, _, rfl, e1, T.cl, T.nL, nF_language .., lg, CL, dL, _, _, rfl, l1, TL.cl, TL.nI, lF_inputs .., ?_⟩
    exact ⟨a, l, 2 ^ st.w, st.k, rfl, ha, q⟩
theorem ok_ins {f : Addr} {fd : FuncData} {k : Nat} (F : Fun K "are_inputs" "Line.are_inputs" sIns f fd) (T : NCls K CN) (TL : LCls K CL) (ml : mg "len" = none) (mm : mg "max" = none) : FnOk P wd K mg base CX0 (k + 1) f fd ["self", "row"] (spIns K CN CL) := by
  refine F.ok scIns (fun vs H Q E h => ?_) (fun cdv A outer s H vs Q E hr h => ?_)
  · obtain ⟨L, a, s, l, rfl, _⟩ := h
    rfl
  · obtain ⟨L, a, st, l, rfl, hL, hS, ha, q⟩ := h
    refine ⟨_, pss_one (ps_ret (pe_and (pe_cmpR op_eq (pe_callB call_len_seq (by rfl) ml PySem.boot_len (pa_cons (pv 1) pa_nil)) (pe_fld (pe_fld (pv 0) rfl) rfl) (nomark _)) (pe_one (pe_cmpR op_lt (pe_callB (cr_max rfl) (by rfl) mm (by decide +kernel) (pa_cons (pv 1) pa_nil)) (pe_fld (pe_fld (pv 0) rfl) rfl) (nomark _))))), ?_⟩
    obtain ⟨dx, lg, wi, ex, e1, e2, e3, e4⟩ := hL.ex
    obtain ⟨dL, an, ap, l1, l2, l3⟩ := e2.ex
    refine ⟨_, rfl, a, _, rfl, .inl ha, _, rfl, L, CN, dx, _, _, rfl, e1, T.cl, T.nL, nF_language .., lg, CL, dL, _, _, rfl, l1, TL.cl, TL.nI, lF_inputs .., rfl, _, rfl, ?_⟩
    rw [iv_len]
    by_cases c1 : l.length = st.k
    · refine ifT (decide_eq_true (by rw [c1])) ?_
      have e5 : iv l = (l.map fun (n : Nat) => (n : Int)).map V.int := by simp [iv]
      have k1 := hS.k1
      refine ⟨_, rfl, a, l.map fun (n : Nat) => (n : Int), rfl, by rw [← e5]; exact ha, by rw [List.length_map]; omega, fun m hm hle => ?_⟩
      refine ⟨_, rfl, L, CN, dx, _, _, rfl, e1, T.cl, T.nL, nF_language .., lg, CL, dL, _, _, rfl, l1, TL.cl, TL.nS, lF_size .., _, _, rfl, rfl, ?_⟩
      obtain ⟨n, hn, rfl⟩ := List.mem_map.mp hm
      have e : decide ((n : Int) < ((2 ^ st.w : Nat) : Int)) = Sm08.goodIns st l := by
        rw [Bool.eq_iff_iff, decide_eq_true_eq, Sm08.goodIns, Bool.and_eq_true, List.all_eq_true]
        constructor
        · intro h
          refine ⟨by simpa using c1, fun x hx => decide_eq_true ?_⟩
          have := hle (x : Int) (List.mem_map.mpr ⟨x, hx, rfl⟩)
          have h2 := Int.ofNat_lt.mp h
          omega
        · intro h
          exact Int.ofNat_lt.mpr (of_decide_eq_true (h.2 n hn))
      exact (congrArg (fun z => Q (.bl z) H) e).mpr q
    · refine ifF (decide_eq_false (fun z => c1 (by have := V.int.inj z; omega))) ?_
      have e : Sm08.goodIns st l = false := by
        rw [Sm08.goodIns, Bool.and_eq_false_iff]
        exact .inl (by simpa using c1)
      rw [e] at q
      exact q
theorem ok_every {f : Addr} {fd : FuncData} (F : Fun K "every_row" "Line.every_row" sEvery f fd) (T : NCls K CN) (TL : LCls K CL)
    (GR : CalN P wd K mg base 1 "all_rows" ["size", "inputs"] spRows) : FnOk P wd K mg base CX0 2 f fd ["self"] (spEvery CN CL) := by
  refine F.ok scEvery (fun vs H Q E h => ?_) (fun cdv A outer s H vs Q E hr h => ?_)
  · obtain ⟨L, s, rfl, _⟩ := h
    rfl
  · obtain ⟨L, st, rfl, hL, hw, hk, q⟩ := h
    obtain ⟨fR, gR, ⟨fdR, FR, bR, kR⟩⟩ := GR.ex
    refine ⟨_, pss_one (ps_ret (pe_call FR hr rfl gR kR bR .nil pass0 (pa_cons (pe_fld (pe_fld (pv 0) rfl) rfl) (pa_cons (pe_fld (pe_fld (pv 0) rfl) rfl) pa_nil)))), ?_⟩
    obtain ⟨dx, lg, wi, ex, e1, e2, e3, e4⟩ := hL.ex
    obtain ⟨dL, an, ap, l1, l2, l3⟩ := e2.ex
    refine ⟨_, rfl, L, CN, dx, _, _, rfl, e1, T.cl, T.nL, nF_language .., lg, CL, dL, _, _, rfl, l1, TL.cl, TL.nS, lF_size .., _, rfl, L, CN, dx, _, _, rfl, e1, T.cl, T.nL, nF_language .., lg, CL, dL, _, _, rfl, l1, TL.cl, TL.nI, lF_inputs .., ?_⟩
    exact ⟨st.w, st.k, rfl, hw, hk, fun H2 p s2 fp hR => q H2 p s2 hR⟩
theorem ok_outs {f : Addr} {fd : FuncData} (F : Fun K "outcomes" "Line.outcomes" sOuts f fd) (T : NCls K CN) (TL : LCls K CL)
    (GO : CalN P wd K mg base 3 "term_outcomes" ["term", "size", "rows"] (spTermOut K)) : FnOk P wd K mg base CX0 4 f fd ["self", "term", "rows"] (spOuts K CN CL) := by
  refine F.ok scOuts (fun vs H Q E h => ?_) (fun cdv A outer s H vs Q E hr h => ?_)
  · obtain ⟨L, a, r, s, t, rows, rfl, _⟩ := h
    rfl
  · obtain ⟨L, a, r, st, t, rows, rfl, hL, hS, ha, hf, hR, hro, hn, hc, q⟩ := h
    obtain ⟨fO, gO, ⟨fdO, FO, bO, kO⟩⟩ := GO.ex
    refine ⟨_, pss_one (ps_ret (pe_call FO hr rfl gO kO bO .nil pass0 (pa_cons (pv 1) (pa_cons (pe_fld (pe_fld (pv 0) rfl) rfl) (pa_cons (pv 2) pa_nil))))), ?_⟩
    obtain ⟨dx, lg, wi, ex, e1, e2, e3, e4⟩ := hL.ex
    obtain ⟨dL, an, ap, l1, l2, l3⟩ := e2.ex
    refine ⟨_, rfl, _, rfl, L, CN, dx, _, _, rfl, e1, T.cl, T.nL, nF_language .., lg, CL, dL, _, _, rfl, l1, TL.cl, TL.nS, lF_size .., _, rfl, ?_⟩
    exact ⟨st.w, st.k, t, a, r, rows, rfl, hS.wd, ha, hf, hR, hro, hn, hc, q⟩
theorem ok_found {f : Addr} {fd : FuncData} (F : Fun K "found_or_none" "found_or_none" sFound f fd)
    (GT : CalN P wd K mg base 1 "told" ["found"] (spTold K)) : FnOk P wd K mg base CX0 2 f fd ["found"] (spFound K) := by
  refine F.ok scFound (fun vs H Q E h => ?_) (fun cdv A outer s H vs Q E hr h => ?_)
  · obtain ⟨v, o, rfl, _⟩ := h
    rfl
  · obtain ⟨v, o, rfl, hV, q⟩ := h
    obtain ⟨fT, gT, ⟨fdT, FT, bT, kT⟩⟩ := GT.ex
    refine ⟨_, pss_one (ps_ret (pe_ifExp (pt_cmp (pc_isN (pv 0))) (pe_lst (pa_cons pe_int pa_nil)) (pe_op op_cat (pe_lst (pa_cons pe_int pa_nil)) (pe_call FT hr rfl gT kT bT .nil pass0 (pa_cons (pv 0) pa_nil))))), ?_⟩
    cases o with
    | none =>
      obtain rfl : v = .non := hV
      refine ⟨_, rfl, _, rfl, ?_⟩
      refine ifT rfl ?_
      exact ⟨by show 1 ≤ sizeLine; decide, fun r hr' => q _ r (same_upd hr') hr' upd_same⟩
    | some x =>
      obtain ⟨c, sg⟩ := x
      obtain ⟨p, b, rfl, hp, hb, hl⟩ := hV
      refine ⟨_, rfl, _, rfl, ?_⟩
      refine ifF rfl ?_
      refine ⟨by show 1 ≤ sizeLine; decide, fun r1 hr1 => ⟨_, rfl, p, b, c, sg, rfl, same_upd hr1 _ _ hp, same_upd hr1 _ _ hb, hl, fun H2 r2 s2 hr2 => ?_⟩⟩
      refine ⟨r1, r2, _, _, rfl, rfl, s2 _ _ upd_same, hr2, ?_, fun r hr' => ?_⟩
      · rw [iv_len]
        exact small_line (by simp; omega)
      · have s3 := (same_upd (o := .lst [.int 1]) hr1).trans s2
        have fr : H r = none := by
          cases e : H r with
          | none => rfl
          | some o => rw [s3 _ _ e] at hr'; cases hr'
        refine q _ r (s3.trans (same_upd hr')) fr ?_
        rw [upd_same]
        rfl
end
end LT
set_option Elab.async false
set_option maxRecDepth 100000
set_option maxHeartbeats 2000000
set_option linter.unusedSimpArgs false
set_option linter.unusedVariables false
namespace LT
open PySem PySem.Spec PyProof.Rows L2
/-! ### Line.start, forget_examples, tell_wish -/
def ansV (l : List Int) : List V := l.map V.int
/-- what a call's method promises: the document's answer, and what the line is about behind it -/
def spStep (CN CL : Addr) (vs : List V) (H : Hp) (Q : VK) (L : Addr) (s : Sm08.St) (c : Sm08.Call) (rest : List V) : Prop := vs = .ref L :: rest ∧ LineAt CN CL H L s ∧ StOk s ∧
  ∀ H' r, Fr L H H' → LineAt CN CL H' L (Sm08.step s c).1 → H' r = some (.lst (ansV (Sm08.step s c).2)) → (∀ ys, H r ≠ some (.lst ys)) → Q (.ref r) H'
/-- a list that is new is none that was there -/
theorem fresh_of {CN CL : Addr} {H H1 : Hp} {L r : Addr} {s : Sm08.St} (hL : LineAt CN CL H L s) (fr : Fr L H H1) (hr : H1 r = none) : ∀ ys, H r ≠ some (.lst ys) := fun ys e => by
  obtain ⟨dx, lg, wi, ex, e1, _⟩ := hL.ex
  have := fr r _ (fun z => by rw [z, e1] at e; cases e) (by intro kvs z; cases z) e
  rw [hr] at this
  cases this
def spStart (CN CL : Addr) : Sp := fun vs H Q _ => ∃ (L : Addr) (s : Sm08.St) (a b : Nat), spStep CN CL vs H Q L s (.start a b) [.int (a : Int), .int (b : Int)]
abbrev sStart : Stmt := inClass (top 48) 2
theorem scStart : FnScope ["self", "width", "inputs"] ["self", "width", "inputs"] (defScope sStart) := ⟨rfl, rfl, rfl, by decide +kernel, rfl, by decide +kernel, by decide +kernel⟩
def spForget (CN CL : Addr) : Sp := fun vs H Q _ => ∃ (L : Addr) (s : Sm08.St), spStep CN CL vs H Q L s .clear []
abbrev sForget : Stmt := inClass (top 48) 5
theorem scForget : FnScope ["self", "count"] ["self"] (defScope sForget) := ⟨rfl, rfl, rfl, by decide +kernel, rfl, by decide +kernel, by decide +kernel⟩
def spWish (K : PySem.W.Frag) (CN CL : Addr) : Sp := fun vs H Q _ => ∃ (L a : Addr) (s : Sm08.St) (l : List Nat), spStep CN CL vs H Q L s (.wish l) [.ref a] ∧ H a = some (.lst (iv l)) ∧ l.length < 1000000
abbrev sWish : Stmt := inClass (top 48) 6
theorem scWish : FnScope ["self", "term"] ["self", "term"] (defScope sWish) := ⟨rfl, rfl, rfl, by decide +kernel, rfl, by decide +kernel, by decide +kernel⟩
section
variable {P : Program} {wd : World} {K : PySem.W.Frag} {mg : Str → Option Value} {base : Heap} {CN CL : Addr}
theorem ok_start {f fB fE : Addr} {fd fdB fdE : FuncData} (F : Fun K "start" "Line.start" sStart f fd) (T : NCls K CN) (TL : LCls K CL) (ml : mg "len" = none) (hm1 : GInt mg "NOT_GRANTED" (-1))
    (FB : FnOk P wd K mg base CX0 3 fB fdB ["self", "width", "inputs"] (spBegin CN CL)) (bB : Binds K fdB ["self", "width", "inputs"] []) (mB : Meth K CN "begin" fB)
    (FE : FnOk P wd K mg base CX0 2 fE fdE ["self"] (spEvery CN CL)) (bE : Binds K fdE ["self"] []) (mE : Meth K CN "every_row" fE) : FnOk P wd K mg base CX0 4 f fd ["self", "width", "inputs"] (spStart CN CL) := by
  refine F.ok scStart (fun vs H Q E h => ?_) (fun cdv A outer s H vs Q E hr h => ?_)
  · obtain ⟨L, s, a, b, rfl, _⟩ := h
    rfl
  · obtain ⟨L, st, a, b, rfl, hL, hS, q⟩ := h
    obtain ⟨t1, g1⟩ := hm1
    have hr2 : Room 2 _ := hr.mono (by decide)
    refine ⟨_, pss_cons (ps_if (PW.pt (pw_or (pt_cmpR op_notIn_seq (pv 1) (pe_tup (pa_cons pe_int (pa_cons pe_int (pa_cons pe_int (pa_cons pe_int pa_nil))))) rfl) (pw_or1 (pt_cmpR op_notIn_seq (pv 2) (pe_tup (pa_cons pe_int (pa_cons pe_int pa_nil))) rfl)))) (pss_one (ps_ret (pe_lst (pa_cons (pe_glob (v := .int (-1)) rfl g1 ⟨_, rfl⟩) pa_nil)))) pss_nil)
      (pss_cons (ps_expr (pe_meth (pv 0) T.cl mB FB hr bB .nil pass0 (pa_cons (pv 1) (pa_cons (pv 2) pa_nil))))
      (pss_one (ps_ret (pe_lst (pa_cons (pe_callB call_len_seq (by rfl) ml PySem.boot_len (pa_cons (pe_meth0 (pv 0) T.cl mE FE hr2 bE .nil pass0) pa_nil)) pa_nil))))), ?_⟩
    obtain ⟨dx, lg, wi, ex, e1, e2, e3, e4⟩ := hL.ex
    have in4 : ∀ n : Nat, inV (.int (n : Int)) [.int 1, .int 2, .int 3, .int 4] = decide (1 ≤ n ∧ n ≤ 4) := fun n => by
      simp only [inV, List.any_cons, List.any_nil, eqV, Bool.or_false]
      rw [Bool.eq_iff_iff, decide_eq_true_eq]
      simp
      omega
    have in2 : ∀ n : Nat, inV (.int (n : Int)) [.int 1, .int 2] = decide (1 ≤ n ∧ n ≤ 2) := fun n => by
      simp only [inV, List.any_cons, List.any_nil, eqV, Bool.or_false]
      rw [Bool.eq_iff_iff, decide_eq_true_eq]
      simp
      omega
    refine ⟨_, rfl, by show 4 ≤ sizeLine; decide, fun p1 hp1 => ⟨p1, _, rfl, .inr (SqT.new upd_same), rfl, rfl, _, rfl, ?_⟩⟩
    show if (!inV (.int (a : Int)) [.int 1, .int 2, .int 3, .int 4]) = true then _ else _
    rw [in4]
    have bad : ¬ (1 ≤ a ∧ a ≤ 4) ∨ ¬ (1 ≤ b ∧ b ≤ 2) → Sm08.step st (.start a b) = (st, [-1]) := fun h => by
      simp only [Sm08.step]
      rw [if_pos (by omega)]
    by_cases c1 : 1 ≤ a ∧ a ≤ 4
    case neg =>
      refine ifT (by rw [decide_eq_false c1]; rfl) ?_
      refine ifT rfl ?_
      refine ⟨by show 1 ≤ sizeLine; decide, fun r hr' => ?_⟩
      rw [bad (.inl c1)] at q
      exact q _ r (Fr.same ((same_upd hp1).trans (same_upd hr'))) (hL.mono ((same_upd hp1).trans (same_upd hr'))) upd_same (fresh_of hL (Fr.same (same_upd hp1)) hr')
    refine ifF (by rw [decide_eq_true c1]; rfl) ?_
    refine ⟨_, rfl, by show 2 ≤ sizeLine; decide, fun p2 hp2 => ⟨p2, _, rfl, .inr (SqT.new upd_same), rfl, rfl, _, rfl, ?_⟩⟩
    show if (!inV (.int (b : Int)) [.int 1, .int 2]) = true then _ else _
    rw [in2]
    have s2 := (same_upd (o := .tup [.int 1, .int 2, .int 3, .int 4]) hp1).trans (same_upd (o := .tup [.int 1, .int 2]) hp2)
    by_cases c2 : 1 ≤ b ∧ b ≤ 2
    case neg =>
      refine ifT (by rw [decide_eq_false c2]; rfl) ?_
      refine ⟨by show 1 ≤ sizeLine; decide, fun r hr' => ?_⟩
      rw [bad (.inr c2)] at q
      exact q _ r (Fr.same (s2.trans (same_upd hr'))) (hL.mono (s2.trans (same_upd hr'))) upd_same (fresh_of hL (Fr.same s2) hr')
    refine ifF (by rw [decide_eq_true c2]; rfl) ?_
    have ok : Sm08.step st (.start a b) = (newSt a b, [((2 ^ (a * b) : Nat) : Int)]) := by
      simp only [Sm08.step]
      rw [if_neg (by omega)]
      rfl
    rw [ok] at q
    refine ⟨_, rfl, L, dx, _, rfl, s2 _ _ e1, ?_, _, rfl, _, rfl, ?_⟩
    · exact (lk_past (by decide +kernel)).trans ((lk_past (by decide +kernel)).trans ((lk_past (by decide +kernel)).trans rfl))
    · refine ⟨L, dx, a, b, _, rfl, c1.2, s2 _ _ e1, .inr ⟨lg, wi, ex, rfl⟩, fun H1 sb hL1 => ?_⟩
      obtain ⟨dx1, lg1, wi1, ex1, f1, f2, f3, f4⟩ := hL1.ex
      obtain ⟨dL, an, ap, l1, l2, l3⟩ := f2.ex
      refine ⟨_, rfl, L, dx1, _, rfl, f1, ?_, ?_⟩
      · exact (lk_past (by decide +kernel)).trans ((lk_past (by decide +kernel)).trans ((lk_past (by decide +kernel)).trans rfl))
      refine ⟨L, newSt a b, rfl, hL1, c1.2, c2.2, fun H2 p s12 hR => ?_⟩
      obtain ⟨as, hp, has⟩ := hR.ex
      have las : as.length = 2 ^ (a * b) := by
        have h1 : as.length = _ := has.length
        rw [h1]
        exact rowsOf_len a b
      refine ⟨p, _, rfl, .inl (SqL.new hp), by show 1 ≤ sizeLine; decide, fun r hr' => ?_⟩
      refine q _ r (fun x o hx _ e => same_upd hr' _ _ (s12 _ _ (sb _ _ hx (s2 _ _ e)))) (hL1.mono (s12.trans (same_upd hr'))) ?_ (fresh_of hL (fun x o hx _ e => s12 _ _ (sb _ _ hx (s2 _ _ e))) hr')
      rw [upd_same, List.length_map, las]
      rfl
theorem ok_forget {f : Addr} {fd : FuncData} {k : Nat} (F : Fun K "forget_examples" "Line.forget_examples" sForget f fd) (T : NCls K CN) (ml : mg "len" = none) : FnOk P wd K mg base CX0 (k + 1) f fd ["self"] (spForget CN CL) := by
  refine F.ok scForget (fun vs H Q E h => ?_) (fun cdv A outer s H vs Q E hr h => ?_)
  · obtain ⟨L, s, rfl, _⟩ := h
    rfl
  · obtain ⟨L, st, rfl, hL, hS, q⟩ := h
    refine ⟨_, pss_cons (ps_set (i := 1) scForget.nd rfl (Or.inl rfl) (pe_callB call_len_dT (by rfl) ml PySem.boot_len (pa_cons (pe_fld (pv 0) rfl) pa_nil)))
      (pss_cons (ps_fld (pv 0) pe_dnewT rfl) (pss_one (ps_ret (pe_lst (pa_cons (pv 1) pa_nil))))), ?_⟩
    obtain ⟨dx, lg, wi, ex, e1, e2, e3, e4⟩ := hL.ex
    refine ⟨_, rfl, L, CN, dx, _, _, rfl, e1, T.cl, T.nE, nF_examples .., ex, _, rfl, e4, ?_⟩
    intro d hd
    have ndL : L ≠ d := ne_of_none e1 hd
    refine ⟨_, rfl, L, CN, dx, nF lg wi ex, rfl, by rw [upd_ne ndL]; exact e1, T.cl, T.nE, by show 3 < 1000; decide, ?_⟩
    refine ⟨_, rfl, by show 1 ≤ sizeLine; decide, fun r hr' => ?_⟩
    have n2 : ¬ ("language" : Str) = "examples" := by decide +kernel
    have n3 : ¬ ("wish" : Str) = "examples" := by decide +kernel
    have e9 : putF "examples" (.ref d) (nF lg wi ex) = nF lg wi d := by
      unfold nF
      rw [putF_ne n2, putF_ne n3]
      have : ∀ r : List (Str × V), putF "examples" (.ref d) ((("examples" : Str), V.ref ex) :: r) = (("examples" : Str), V.ref d) :: r := fun r => if_pos rfl
      rw [this]
    have keep : ∀ b o, b ≠ L → H b = some o → upd (upd (upd H d (.dT [])) L (.ins CN dx (putF "examples" (.ref d) (nF lg wi ex)))) r (.lst [.int ((exK st.examples).length : Int)]) b = some o := fun b o hb e => same_upd hr' _ _ (by rw [upd_ne hb, upd_ne (ne_of_none e hd)]; exact e)
    refine q _ r (fun b o hb _ e => keep b o hb e) ?_ ?_ (fresh_of hL (fun b o hb _ e => by rw [upd_ne hb, upd_ne (ne_of_none e hd)]; exact e) hr')
    · obtain ⟨dL, an, ap, l1, l2, l3⟩ := e2.ex
      refine ⟨dx, lg, wi, d, same_upd hr' _ _ (by rw [upd_same, e9]), ⟨dL, an, ap, keep _ _ (fun z => ?_) l1, keep _ _ (fun z => by rw [z, e1] at l2; cases l2) l2, keep _ _ (fun z => by rw [z, e1] at l3; cases l3) l3⟩, keep _ _ (fun z => by rw [z, e1] at e3; cases e3) e3, same_upd hr' _ _ (by rw [upd_ne ndL.symm, upd_same]; rfl)⟩
      rw [z, e1] at l1
      have := congrArg (fun o : Option HO => match o with | some (.ins _ _ fs) => fs.length | _ => 0) l1
      simp [nF, lF] at this
    · rw [upd_same]
      simp [Sm08.step, ansV, exK]
theorem ok_wish {f fT : Addr} {fd fdT : FuncData} (F : Fun K "tell_wish" "Line.tell_wish" sWish f fd) (T : NCls K CN) (TL : LCls K CL) (ml : mg "list" = none) (hm1 : GInt mg "NOT_GRANTED" (-1))
    (FT : FnOk P wd K mg base CX0 3 fT fdT ["self", "term"] (spGrant K CN CL)) (bT : Binds K fdT ["self", "term"] []) (mT : Meth K CN "is_granted" fT) : FnOk P wd K mg base CX0 4 f fd ["self", "term"] (spWish K CN CL) := by
  refine F.ok scWish (fun vs H Q E h => ?_) (fun cdv A outer s H vs Q E hr h => ?_)
  · obtain ⟨L, a, s, l, ⟨rfl, _⟩, _⟩ := h
    rfl
  · obtain ⟨L, a, st, l, ⟨rfl, hL, hS, q⟩, ha, hl⟩ := h
    obtain ⟨t1, g1⟩ := hm1
    refine ⟨_, pss_cons (ps_if (pt_not (pt_val (pe_meth (pv 0) T.cl mT FT hr bT .nil pass0 (pa_cons (pv 1) pa_nil)))) (pss_one (ps_ret (pe_lst (pa_cons (pe_glob (v := .int (-1)) rfl g1 ⟨_, rfl⟩) pa_nil)))) pss_nil)
      (pss_cons (ps_fld (pv 0) (pe_callTy call_list_of (by rfl) ml (by decide +kernel) (pa_cons (pv 1) pa_nil)) rfl) (pss_one (ps_ret (pe_lst (pa_cons pe_int pa_nil))))), ?_⟩
    obtain ⟨dx, lg, wi, ex, e1, e2, e3, e4⟩ := hL.ex
    obtain ⟨dL, an, ap, l1, l2, l3⟩ := e2.ex
    refine ⟨_, rfl, L, dx, _, rfl, e1, ?_, _, rfl, ?_⟩
    · exact (lk_past (by decide +kernel)).trans ((lk_past (by decide +kernel)).trans ((lk_past (by decide +kernel)).trans rfl))
    refine ⟨L, a, st, l, rfl, hL, SqL.new ha, _, rfl, ?_⟩
    have hsc := scan_termOf hS.wd.w4 hS.wd.k2 l
    by_cases c1 : l.length ≤ 24
    case neg =>
      refine ifT (by simp [isTerm, c1]) ?_
      refine ⟨by show 1 ≤ sizeLine; decide, fun r hr' => ?_⟩
      have es : Sm08.step st (.wish l) = (st, [-1]) := by
        simp only [Sm08.step]
        rw [if_pos (by omega)]
      rw [es] at q
      exact q _ r (Fr.same (same_upd hr')) (hL.mono (same_upd hr')) upd_same (fresh_of hL (fun _ _ _ _ e => e) hr')
    have es : Sm08.step st (.wish l) = match Sm08.termOf st.w st.k l with
      | none => (st, [-1])
      | some t => (⟨st.w, st.k, st.lang, t, st.examples⟩, [0]) := by
      simp only [Sm08.step]
      rw [if_neg (by omega)]
      rfl
    cases et : Sm08.termOf st.w st.k l with
    | none =>
      rw [et] at hsc es
      refine ifT (by simp [isTerm, hsc]) ?_
      refine ⟨by show 1 ≤ sizeLine; decide, fun r hr' => ?_⟩
      rw [es] at q
      exact q _ r (Fr.same (same_upd hr')) (hL.mono (same_upd hr')) upd_same (fresh_of hL (fun _ _ _ _ e => e) hr')
    | some t =>
      rw [et] at hsc es
      refine ifF (by simp [isTerm, hsc, c1]) ?_
      obtain ⟨hlc, hg, hf⟩ := termOf_code et
      refine ⟨_, rfl, a, _, rfl, .inl (SqL.new ha), fun wn hwn => ?_⟩
      have nwL : L ≠ wn := ne_of_none e1 hwn
      refine ⟨_, rfl, L, CN, dx, nF lg wi ex, rfl, by rw [upd_ne nwL]; exact e1, T.cl, T.nW, by show 3 < 1000; decide, ?_⟩
      refine ⟨by show 1 ≤ sizeLine; decide, fun r hr' => ?_⟩
      have n2 : ¬ ("language" : Str) = "wish" := by decide +kernel
      have e9 : putF "wish" (.ref wn) (nF lg wi ex) = nF lg wn ex := by
        unfold nF
        rw [putF_ne n2]
        have : ∀ r : List (Str × V), putF "wish" (.ref wn) ((("wish" : Str), V.ref wi) :: r) = (("wish" : Str), V.ref wn) :: r := fun r => if_pos rfl
        rw [this]
      have keep : ∀ b o, b ≠ L → H b = some o → upd (upd (upd H wn (.lst (iv l))) L (.ins CN dx (putF "wish" (.ref wn) (nF lg wi ex)))) r (.lst [.int 0]) b = some o := fun b o hb e => same_upd hr' _ _ (by rw [upd_ne hb, upd_ne (ne_of_none e hwn)]; exact e)
      rw [es] at q
      refine q _ r (fun b o hb _ e => keep b o hb e) ?_ upd_same (fresh_of hL (fun b o hb _ e => by rw [upd_ne hb, upd_ne (ne_of_none e hwn)]; exact e) hr')
      refine ⟨dx, lg, wn, ex, same_upd hr' _ _ (by rw [upd_same, e9]), ⟨dL, an, ap, keep _ _ (fun z => ?_) l1, keep _ _ (fun z => by rw [z, e1] at l2; cases l2) l2, keep _ _ (fun z => by rw [z, e1] at l3; cases l3) l3⟩, same_upd hr' _ _ (by rw [upd_ne nwL.symm, upd_same, hlc]), keep _ _ (fun z => by rw [z, e1] at e4; cases e4) e4⟩
      rw [z, e1] at l1
      have := congrArg (fun o : Option HO => match o with | some (.ins _ _ fs) => fs.length | _ => 0) l1
      simp [nF, lF] at this
end
end LT
set_option Elab.async false
set_option maxRecDepth 100000
set_option maxHeartbeats 2000000
set_option linter.unusedSimpArgs false
set_option linter.unusedVariables false
namespace LT
open PySem PySem.Spec PyProof.Rows L2
/-! ### Line.first_by_examples, find_first -/
theorem keys_rows {H : Hp} : ∀ (ex : List Sm08.Example) (bs : List Addr), IsKeys H (exK ex) bs → Paired (TupH H) bs (ex.map (·.1))
  | [], bs, h => by
    cases h
    exact .nil
  | x :: ex, bs, h => by
    cases h with
    | cons h t => exact .cons (by rw [TupH, ← key_iv]; exact h) (keys_rows ex _ t)
theorem exK_vals (ex : List Sm08.Example) : (exK ex).map (·.2) = iv (ex.map (·.2)) := by simp [exK, iv]
theorem exK_keys (ex : List Sm08.Example) : (exK ex).map (·.1) = ex.map fun x => keyOf x.1 := by simp [exK]
/-- what the first term that does the examples is, in numbers -/
def findC (s : Sm08.St) (m : Nat) : Option (Nat × List Nat) := (Sm08.find s.w s.k s.lang s.examples m).map fun x => (x.1, Sm08.code x.2)
theorem findC_first {s : Sm08.St} (h : StOk s) (m : Nat) : findC s m = firstFrom (lvM s.w s.k s.lang (s.examples.map (·.1))) (s.examples.map (·.2)) 1 m :=
  search_first h.wd.k2 (fun x hx => (h.lg.os x hx).1) _ m
theorem StOk.ask {s : Sm08.St} (h : StOk s) : Ask s.w s.k s.lang (s.examples.map (·.1)) := by
  refine ⟨h.wd, h.lg, fun row hr => ?_, ?_⟩
  · obtain ⟨x, hx, rfl⟩ := List.mem_map.mp hr
    exact (h.ex x hx).1
  · have := h.en
    rw [List.length_map]
    omega
theorem search_mem (v : List Nat) : ∀ (ls : List (List Sm08.Found)) (n c : Nat) (t : Sm08.Term), Sm08.search v n ls = some (c, t) → n ≤ c ∧ ∃ l, ls[c - n]? = some l ∧ ∃ u ∈ l, u.1 = t ∧ u.2 = v
  | [], n, c, t, h => by cases h
  | l :: ls, n, c, t, h => by
    simp only [Sm08.search] at h
    cases e : l.find? fun x => x.2 == v with
    | some u =>
      rw [e] at h
      obtain ⟨rfl, rfl⟩ := Prod.mk.inj (Option.some.inj h)
      exact ⟨Nat.le_refl _, l, by simp, u, List.mem_of_find?_eq_some e, rfl, by simpa using List.find?_some e⟩
    | none =>
      rw [e] at h
      obtain ⟨h1, l', h2, h3⟩ := search_mem v ls (n + 1) c t h
      refine ⟨by omega, l', ?_, h3⟩
      have : c - n = (c - (n + 1)) + 1 := by omega
      rw [this, List.getElem?_cons_succ]
      exact h2
/-- a term that the search gives is of the line's, is short, and makes what is wanted -/
theorem search_ok {w k : Nat} {g : Sm08.Lang} {rows : List (List Nat)} (A : Ask w k g rows) {m : Nat} {v : List Nat} {x : Nat × Sm08.Term} (e : Sm08.search v 1 (Sm08.levels w k g rows m) = some x) : fine w k x.2 = true ∧ (Sm08.code x.2).length ≤ m ∧ outs w rows x.2 = v := by
  obtain ⟨h1, l, h2, u, hu, hu1, hu2⟩ := search_mem v _ 1 x.1 x.2 e
  have hlt : x.1 - 1 < m := by
    rcases Nat.lt_or_ge (x.1 - 1) m with z | z
    · exact z
    · rw [List.getElem?_eq_none (by rw [levels_len]; exact z)] at h2
      cases h2
  have hl : Sm08.levelAt (Sm08.levels w k g rows m) x.1 = l := by
    unfold Sm08.levelAt
    rw [if_neg (by omega), List.getD_eq_getElem?_getD, h2]
    rfl
  have q := levels_sound (rows := rows) A.wd.w4 A.wd.k2 A.lg m x.1 u (by rw [hl]; exact hu)
  rw [← hu1]
  exact ⟨by simp [fine, q.gd, q.ft], by have := q.ln; omega, by rw [← q.ou, hu2]⟩
theorem found_ok {s : Sm08.St} (h : StOk s) {m : Nat} (hm : m ≤ 5) {x : Nat × Sm08.Term} (e : Sm08.find s.w s.k s.lang s.examples m = some x) : fine s.w s.k x.2 = true ∧ (Sm08.code x.2).length ≤ 5 ∧ outs s.w (s.examples.map (·.1)) x.2 = s.examples.map (·.2) := by
  obtain ⟨h1, h2, h3⟩ := search_ok h.ask e
  exact ⟨h1, by omega, h3⟩
def spByEx (K : PySem.W.Frag) (CN CL : Addr) : Sp := fun vs H Q _ => ∃ (L : Addr) (s : Sm08.St) (m : Nat), vs = [.ref L, .int (m : Int)] ∧ LineAt CN CL H L s ∧ StOk s ∧ m ≤ 5 ∧ foundQ H Q (findC s m)
abbrev sByEx : Stmt := inClass (top 48) 19
theorem scByEx : FnScope ["self", "most"] ["self", "most"] (defScope sByEx) := ⟨rfl, rfl, rfl, by decide +kernel, rfl, by decide +kernel, by decide +kernel⟩
def spFind (CN CL : Addr) : Sp := fun vs H Q _ => ∃ (L : Addr) (s : Sm08.St) (m : Nat), spStep CN CL vs H Q L s (.find m) [.int (m : Int)]
abbrev sFind : Stmt := inClass (top 48) 7
theorem scFind : FnScope ["self", "most"] ["self", "most"] (defScope sFind) := ⟨rfl, rfl, rfl, by decide +kernel, rfl, by decide +kernel, by decide +kernel⟩
/-! ### two tuples of whole numbers held against each other -/
theorem dp_iv {K : PySem.W.Frag} {H : Hp} : ∀ l : List Nat, DpAll K H (iv l) (l.map fun (n : Nat) => PyData.int (n : Int))
  | [] => .nil
  | n :: l => .cons (.int _) (dp_iv l)
theorem eqv_ints : ∀ l m : List Nat, PyData.eqvAll (l.map fun (n : Nat) => PyData.int (n : Int)) (m.map fun (n : Nat) => PyData.int (n : Int)) = decide (l = m)
  | [], [] => by simp [PyData.eqvAll]
  | [], b :: m => by simp [PyData.eqvAll]
  | a :: l, [] => by simp [PyData.eqvAll]
  | a :: l, b :: m => by
    simp only [List.map_cons, PyData.eqvAll, PyData.eqv, eqv_ints l m]
    rw [Bool.eq_iff_iff]
    simp
    omega
theorem lay_ints : ∀ l : List Nat, PyData.canLayAll0 (l.map fun (n : Nat) => PyData.int (n : Int)) = true
  | [] => by simp [PyData.canLayAll0]
  | a :: l => by simp [PyData.canLayAll0, PyData.canLay0, lay_ints l]
theorem shape_tup (l : List Nat) : SeqAt.shaped (.tuple (l.map fun (n : Nat) => PyData.int (n : Int))) = true := by
  have h1 : ∀ l : List Nat, PyData.depthAll (l.map fun (n : Nat) => PyData.int (n : Int)) ≤ 1 := by
    intro l
    induction l with
    | nil => simp [PyData.depthAll]
    | cons a l ih => simp [PyData.depthAll, PyData.depth]; omega
  have := h1 l
  simp [SeqAt.shaped, PyData.canLay0, PyData.depth, lay_ints]
  omega
theorem does_eqv (w : Nat) (t : Sm08.Term) (ex : List Sm08.Example) : PyData.eqv (.tuple ((outs w (ex.map (·.1)) t).map fun (n : Nat) => PyData.int (n : Int))) (.tuple ((ex.map (·.2)).map fun (n : Nat) => PyData.int (n : Int))) = !ex.any fun x => Sm08.eval w x.1 t != x.2 := by
  rw [PyData.eqv, eqv_ints]
  have h : ∀ l : List Sm08.Example, decide (outs w (l.map (·.1)) t = l.map (·.2)) = !l.any fun x => Sm08.eval w x.1 t != x.2 := by
    intro l
    induction l with
    | nil => rfl
    | cons x l ih =>
      simp only [List.map_cons, outs, List.cons.injEq, List.any_cons, Bool.not_or] at ih ⊢
      rw [← ih, Bool.decide_and]
      congr 1
      by_cases c : Sm08.eval w x.1 t = x.2 <;> simp [c]
  exact h ex
section
variable {P : Program} {wd : World} {K : PySem.W.Frag} {mg : Str → Option Value} {base : Heap} {CN CL : Addr}
theorem ok_byex {f : Addr} {fd : FuncData} (F : Fun K "first_by_examples" "Line.first_by_examples" sByEx f fd) (T : NCls K CN) (ml : mg "list" = none) (mt : mg "tuple" = none)
    (GF : CalN P wd K mg base 7 "first_term" ["language", "rows", "wanted", "most"] (spFirst K CL)) : FnOk P wd K mg base CX0 8 f fd ["self", "most"] (spByEx K CN CL) := by
  refine F.ok scByEx (fun vs H Q E h => ?_) (fun cdv A outer s H vs Q E hr h => ?_)
  · obtain ⟨L, s, m, rfl, _⟩ := h
    rfl
  · obtain ⟨L, st, m, rfl, hL, hS, hm, q⟩ := h
    obtain ⟨fF, gF, ⟨fdF, FF, bF, kF⟩⟩ := GF.ex
    refine ⟨_, pss_one (ps_ret (pe_call FF hr rfl gF kF bF .nil pass0 (pa_cons (pe_fld (pv 0) rfl) (pa_cons (pe_callTy (call_list_dT rfl) (by rfl) ml (by decide +kernel) (pa_cons (pe_fld (pv 0) rfl) pa_nil)) (pa_cons (pe_tupVals (by rfl) mt (pe_fld (pv 0) rfl)) (pa_cons (pv 1) pa_nil)))))), ?_⟩
    obtain ⟨dx, lg, wi, ex, e1, e2, e3, e4⟩ := hL.ex
    refine ⟨_, rfl, L, CN, dx, _, _, rfl, e1, T.cl, T.nL, nF_language .., _, rfl, L, CN, dx, _, _, rfl, e1, T.cl, T.nE, nF_examples .., ex, _, rfl, .inl e4, fun p bs hp hk => ?_⟩
    have s1 := same_upd (o := .lst (bs.map V.ref)) hp
    refine ⟨_, rfl, L, CN, dx, _, _, rfl, s1 _ _ e1, T.cl, T.nE, nF_examples .., ex, _, rfl, s1 _ _ e4, fun p2 hp2 => ⟨_, rfl, ?_⟩⟩
    have s2 := s1.trans (same_upd (o := .tup ((exK st.examples).map (·.2))) hp2)
    have hp' := same_upd (o := .tup ((exK st.examples).map (·.2))) hp2 p _ upd_same
    refine ⟨lg, p, p2, m, st.w, st.k, st.lang, st.examples.map (·.1), st.examples.map (·.2), rfl, e2.mono s2, ⟨bs, SqL.new hp', paired_imp (keys_rows _ _ hk) fun b row _ e => SqT.new (s2 _ _ e)⟩, (by rw [hp']; exact fun z => nomatch z), by rw [upd_same, exK_vals], hS.ask, hm, ?_⟩
    rw [← findC_first hS]
    cases e : findC st m with
    | none =>
      rw [e] at q
      exact fun H' s3 => q H' (s2.trans s3)
    | some x =>
      obtain ⟨c, sg⟩ := x
      rw [e] at q
      exact fun H' a b s3 => q H' a b (s2.trans s3)
theorem found_told (x : Nat × Sm08.Term) : iv (foundL (some (x.1, Sm08.code x.2))) = ansV (1 :: Sm08.toldTerm x) := by
  simp [foundL, ansV, iv, Sm08.toldTerm, Sm08.ints]
theorem ok_find {f fB : Addr} {fd fdB : FuncData} (F : Fun K "find_first" "Line.find_first" sFind f fd) (T : NCls K CN) (h5 : GInt mg "MOST_COST" 5) (hm1 : GInt mg "NOT_GRANTED" (-1))
    (FB : FnOk P wd K mg base CX0 8 fB fdB ["self", "most"] (spByEx K CN CL)) (bB : Binds K fdB ["self", "most"] []) (mB : Meth K CN "first_by_examples" fB)
    (GT : CalN P wd K mg base 2 "found_or_none" ["found"] (spFound K)) : FnOk P wd K mg base CX0 9 f fd ["self", "most"] (spFind CN CL) := by
  refine F.ok scFind (fun vs H Q E h => ?_) (fun cdv A outer s H vs Q E hr h => ?_)
  · obtain ⟨L, s, m, rfl, _⟩ := h
    rfl
  · obtain ⟨L, st, m, rfl, hL, hS, q⟩ := h
    obtain ⟨t5, g5⟩ := h5
    obtain ⟨t1, g1⟩ := hm1
    obtain ⟨fT, gT, ⟨fdT, FT, bT, kT⟩⟩ := GT.ex
    have hr2 : Room 2 _ := hr.mono (by decide)
    refine ⟨_, pss_cons (ps_if (pt_cmpR op_gt (pv 1) (pe_glob (v := .int 5) rfl g5 ⟨_, rfl⟩) (nomark _)) (pss_one (ps_ret (pe_lst (pa_cons (pe_glob (v := .int (-1)) rfl g1 ⟨_, rfl⟩) pa_nil)))) pss_nil)
      (pss_one (ps_ret (pe_call FT hr2 rfl gT kT bT .nil pass0 (pa_cons (pe_meth (pv 0) T.cl mB FB hr bB .nil pass0 (pa_cons (pv 1) pa_nil)) pa_nil)))), ?_⟩
    obtain ⟨dx, lg, wi, ex, e1, e2, e3, e4⟩ := hL.ex
    refine ⟨_, rfl, _, _, rfl, rfl, _, rfl, ?_⟩
    by_cases c1 : m ≤ 5
    case neg =>
      refine ifT (decide_eq_true (by omega)) ?_
      refine ⟨by show 1 ≤ sizeLine; decide, fun r hr' => ?_⟩
      have es : Sm08.step st (.find m) = (st, [-1]) := by
        simp only [Sm08.step]
        rw [if_pos (show Sm08.MOST < m by unfold Sm08.MOST; omega)]
      rw [es] at q
      exact q _ r (Fr.same (same_upd hr')) (hL.mono (same_upd hr')) upd_same (fresh_of hL (fun _ _ _ _ e => e) hr')
    refine ifF (decide_eq_false (by omega)) ?_
    refine ⟨_, rfl, L, dx, _, rfl, e1, ?_, _, rfl, ?_⟩
    · exact (lk_past (by decide +kernel)).trans ((lk_past (by decide +kernel)).trans ((lk_past (by decide +kernel)).trans rfl))
    · refine ⟨L, st, m, rfl, hL, hS, c1, ?_⟩
      have es : Sm08.step st (.find m) = (st, match Sm08.find st.w st.k st.lang st.examples m with
        | none => [0]
        | some x => 1 :: Sm08.toldTerm x) := by
        simp only [Sm08.step]
        rw [if_neg (show ¬ Sm08.MOST < m by unfold Sm08.MOST; omega)]
        rfl
      cases e : Sm08.find st.w st.k st.lang st.examples m with
      | none =>
        have ec : findC st m = none := by rw [findC, e]; rfl
        rw [ec]
        rw [e] at es
        rw [es] at q
        intro H1 s1
        refine ⟨.non, none, rfl, rfl, fun H2 r s2 fr hr2 => ?_⟩
        have s12 := s1.trans s2
        exact q _ r (Fr.same s12) (hL.mono s12) hr2 (fresh_of hL (Fr.same s1) fr)
      | some x =>
        have ec : findC st m = some (x.1, Sm08.code x.2) := by rw [findC, e]; rfl
        rw [ec]
        rw [e] at es
        rw [es] at q
        intro H1 p b s1 hp hb
        have lx : (Sm08.code x.2).length ≤ 1000 := Nat.le_trans (found_ok hS c1 e).2.1 (by decide)
        refine ⟨.ref p, some (x.1, Sm08.code x.2), rfl, ⟨p, b, rfl, hp, hb, lx⟩, fun H2 r s2 fr hr2 => ?_⟩
        have s12 := s1.trans s2
        refine q _ r (Fr.same s12) (hL.mono s12) ?_ (fresh_of hL (Fr.same s1) fr)
        rw [hr2, found_told]
end
end LT
set_option Elab.async false
set_option maxRecDepth 100000
set_option maxHeartbeats 2000000
set_option linter.unusedSimpArgs false
set_option linter.unusedVariables false
namespace LT
open PySem PySem.Spec PyProof.Rows L2
/-! ### Line.tell_example -/
theorem exK_val (l : List Nat) : ∀ ex : List Sm08.Example, valV (exK ex) (keyOf l) = (ex.find? fun x => x.1 == l).map fun x => V.int (x.2 : Int)
  | [] => rfl
  | x :: ex => by
    show valV ((keyOf x.1, V.int (x.2 : Int)) :: exK ex) (keyOf l) = _
    by_cases h : x.1 = l
    · rw [valV_pos (by rw [h]), List.find?_cons_of_pos (by simpa using h)]
      rfl
    · rw [valV_neg (fun z => h (key_inj z)), List.find?_cons_of_neg (by simpa using h), exK_val l ex]
theorem exK_same (l : List Nat) (v : Nat) : ∀ ex : List Sm08.Example, (ex.map (·.1)).Nodup → ∀ x, (ex.find? fun x => x.1 == l) = some x → x.2 = v → putK (exK ex) (keyOf l) (.int (v : Int)) = exK ex
  | [], _, x, h, _ => by cases h
  | y :: ex, nd, x, h, hv => by
    simp only [List.map_cons, List.nodup_cons] at nd
    show putK ((keyOf y.1, V.int (y.2 : Int)) :: exK ex) (keyOf l) _ = (keyOf y.1, V.int (y.2 : Int)) :: exK ex
    by_cases c : y.1 = l
    · rw [List.find?_cons_of_pos (by simpa using c)] at h
      have hx : y = x := Option.some.inj h
      rw [putK_eq (by rw [c]), hx, hv]
      rw [exK_keys]
      intro hm
      obtain ⟨z, hz, ez⟩ := List.mem_map.mp hm
      exact nd.1 (by rw [c, ← key_inj ez]; exact List.mem_map_of_mem (f := (·.1)) hz)
    · rw [List.find?_cons_of_neg (by simpa using c)] at h
      rw [putK_ne (fun z => c (key_inj z)), exK_same l v ex nd.2 x h hv]
theorem and_skip {c : Bool} {U R : Prop} (hU : c = true → R → U) (hR : R) : if c = true then U else R := by
  cases c with
  | true => exact hU rfl hR
  | false => exact hR
def spEx (CN CL : Addr) : Sp := fun vs H Q _ => ∃ (L a : Addr) (s : Sm08.St) (l : List Nat) (v : Nat), spStep CN CL vs H Q L s (.example l v) [.ref a, .int (v : Int)] ∧ H a = some (.lst (iv l))
abbrev sEx : Stmt := inClass (top 48) 4
theorem scEx : FnScope ["self", "inputs", "out", "row"] ["self", "inputs", "out"] (defScope sEx) := ⟨rfl, rfl, rfl, by decide +kernel, rfl, by decide +kernel, by decide +kernel⟩
section
variable {P : Program} {wd : World} {K : PySem.W.Frag} {mg : Str → Option Value} {base : Heap} {CN CL : Addr}
theorem ok_ex {f fI : Addr} {fd fdI : FuncData} (F : Fun K "tell_example" "Line.tell_example" sEx f fd) (T : NCls K CN) (TL : LCls K CL) (ml : mg "len" = none) (mt : mg "tuple" = none) (hm1 : GInt mg "NOT_GRANTED" (-1)) (hm3 : GInt mg "AT_ODDS" (-3)) (hm5 : GInt mg "FULL" (-5)) (h8 : GInt mg "MOST_EXAMPLES" 8) 
    (FI : FnOk P wd K mg base CX0 1 fI fdI ["self", "row"] (spIns K CN CL)) (bI : Binds K fdI ["self", "row"] []) (mI : Meth K CN "are_inputs" fI) : FnOk P wd K mg base CX0 2 f fd ["self", "inputs", "out"] (spEx CN CL) := by
  refine F.ok scEx (fun vs H Q E h => ?_) (fun cdv A outer s H vs Q E hr h => ?_)
  · obtain ⟨L, a, s, l, v, ⟨rfl, _⟩, _⟩ := h
    rfl
  · obtain ⟨L, a, st, l, v, ⟨rfl, hL, hS, q⟩, ha⟩ := h
    obtain ⟨t1, g1⟩ := hm1
    obtain ⟨t3, g3⟩ := hm3
    obtain ⟨t5, g5⟩ := hm5
    obtain ⟨t8, g8⟩ := h8
    refine ⟨_, pss_cons (ps_if (PW.pt (pw_or (pt_not (pt_val (pe_meth (pv 0) T.cl mI FI hr bI .nil pass0 (pa_cons (pv 1) pa_nil)))) (pw_or1 (pt_cmpR op_ge (pv 2) (pe_fld (pe_fld (pv 0) rfl) rfl) (nomark _))))) (pss_one (ps_ret (pe_lst (pa_cons (pe_glob (v := .int (-1)) rfl g1 ⟨_, rfl⟩) pa_nil)))) pss_nil)
      (pss_cons (ps_set (i := 3) scEx.nd rfl (Or.inl rfl) (pe_callTy call_tuple_of (by rfl) mt (by decide +kernel) (pa_cons (pv 1) pa_nil)))
      (pss_cons (ps_if (pt_cmpR op_ne (pe_dget2 (hu_of hr) (pe_fld (pv 0) rfl) (pv 3) (pv 2) ⟨rfl, rfl, rfl, rfl⟩) (pv 2) (nomark _)) (pss_one (ps_ret (pe_lst (pa_cons (pe_glob (v := .int (-3)) rfl g3 ⟨_, rfl⟩) pa_nil)))) pss_nil)
      (pss_cons (ps_if (PW.pt (pw_and (pt_cmp (pc_dnotin (hu_of hr) (pv 3) (pe_fld (pv 0) rfl))) (pw_and1 (pt_cmpR op_eq (pe_callB call_len_dT (by rfl) ml PySem.boot_len (pa_cons (pe_fld (pv 0) rfl) pa_nil)) (pe_glob (v := .int 8) rfl g8 ⟨_, rfl⟩) (nomark _))))) (pss_one (ps_ret (pe_lst (pa_cons (pe_glob (v := .int (-5)) rfl g5 ⟨_, rfl⟩) pa_nil)))) pss_nil)
      (pss_cons (ps_dput (hu_of hr) (pe_fld (pv 0) rfl) (pv 3) (pv 2) rfl)
      (pss_one (ps_ret (pe_lst (pa_cons (pe_callB call_len_dT (by rfl) ml PySem.boot_len (pa_cons (pe_fld (pv 0) rfl) pa_nil)) pa_nil)))))))), ?_⟩
    obtain ⟨dx, lg, wi, ex, e1, e2, e3, e4⟩ := hL.ex
    obtain ⟨dL, an, ap, l1, l2, l3⟩ := e2.ex
    refine ⟨_, rfl, L, dx, _, rfl, e1, ?_, _, rfl, ?_⟩
    · exact (lk_past (by decide +kernel)).trans ((lk_past (by decide +kernel)).trans ((lk_past (by decide +kernel)).trans rfl))
    refine ⟨L, a, st, l, rfl, hL, hS, SqL.new ha, _, rfl, ?_⟩
    have bad : Sm08.goodIns st l = false ∨ 2 ^ st.w ≤ v → Sm08.step st (.example l v) = (st, [-1]) := fun h => by
      simp only [Sm08.step]
      rw [if_pos h]
    have retN : ∀ {D : Ends} {σ : L2.St} (H1 : Hp), D.rt = Q → Same H H1 → Sm08.step st (.example l v) = (st, [-1]) → tRet (tLst (tCons (tC (.int (-1))) tNil)) D σ H1 := fun H1 hD s1 es => by
      rw [es] at q
      refine ⟨by show 1 ≤ sizeLine; decide, fun r hr' => ?_⟩
      rw [hD]
      exact q _ r (Fr.same (s1.trans (same_upd hr'))) (hL.mono (s1.trans (same_upd hr'))) upd_same (fresh_of hL (Fr.same s1) hr')
    by_cases c1 : Sm08.goodIns st l = true
    case neg =>
      rw [Bool.not_eq_true] at c1
      refine ifT (by rw [c1]; rfl) ?_
      refine ifT rfl ?_
      exact retN _ rfl (fun _ _ e => e) (bad (.inl c1))
    refine ifF (by rw [c1]; rfl) ?_
    refine ⟨_, rfl, _, rfl, L, CN, dx, _, _, rfl, e1, T.cl, T.nL, nF_language .., lg, CL, dL, _, _, rfl, l1, TL.cl, TL.nS, lF_size .., _, _, rfl, rfl, _, rfl, ?_⟩
    by_cases c2 : 2 ^ st.w ≤ v
    · refine ifT (decide_eq_true (Int.ofNat_le.mpr c2)) ?_
      exact retN _ rfl (fun _ _ e => e) (bad (.inr c2))
    refine ifF (decide_eq_false (fun z => c2 (Int.ofNat_le.mp z))) ?_
    have es : Sm08.step st (.example l v) = match st.examples.find? fun x => x.1 == l with
      | some x => (st, if x.2 = v then [(st.examples.length : Int)] else [-3])
      | none => if 8 ≤ st.examples.length then (st, [-5]) else (⟨st.w, st.k, st.lang, st.wish, st.examples ++ [(l, v)]⟩, [((st.examples.length + 1 : Nat) : Int)]) := by
      simp only [Sm08.step]
      rw [if_neg]
      · rfl
      · rintro (z | z)
        · rw [c1] at z
          cases z
        · omega
    -- row = tuple(inputs)
    refine ⟨_, rfl, a, _, rfl, .inl ⟨SqL.new ha, fun p3 hp3 => ?_⟩⟩
    have s3 := same_upd (o := .tup (iv l)) hp3
    have key : (keyOf l).map kV = iv l := key_iv l
    have dg : DGet _ ex (.ref p3) (valV (exK st.examples) (keyOf l)) := DGet.t (s3 _ _ e4) (by rw [key, upd_same])
    refine ⟨_, rfl, L, CN, dx, _, _, rfl, s3 _ _ e1, T.cl, T.nE, nF_examples .., ex, rfl, .inr ⟨_, .inl (s3 _ _ e4)⟩, _, rfl, _, rfl, _, dg, _, rfl, ?_⟩
    have ev := exK_val l st.examples
    have en := hS.en
    -- at odds with one that is there
    by_cases c3 : ∃ x, (st.examples.find? fun x => x.1 == l) = some x ∧ x.2 ≠ v
    · obtain ⟨x, ef, hx⟩ := c3
      rw [ef] at es ev
      have es' : Sm08.step st (.example l v) = (st, [-3]) := by
        rw [es]
        show (st, if x.2 = v then [(st.examples.length : Int)] else [-3]) = (st, [-3])
        rw [if_neg hx]
      have ev' : valV (exK st.examples) (keyOf l) = some (.int (x.2 : Int)) := ev
      rw [ev']
      refine ⟨rfl, _, rfl, ?_⟩
      refine ifT ?_ ?_
      · show (!decide (V.int (x.2 : Int) = V.int (v : Int))) = true
        rw [decide_eq_false (fun z => hx (by have := V.int.inj z; omega))]
        rfl
      · rw [es'] at q
        exact ⟨by show 1 ≤ sizeLine; decide, fun r hr' => q _ r (Fr.same (s3.trans (same_upd hr'))) (hL.mono (s3.trans (same_upd hr'))) upd_same (fresh_of hL (Fr.same s3) hr')⟩
    have c3' : ∀ x, (st.examples.find? fun x => x.1 == l) = some x → x.2 = v := fun x hx => Decidable.byContradiction fun z => c3 ⟨x, hx, z⟩
    have eg : (valV (exK st.examples) (keyOf l)).getD (.int (v : Int)) = .int (v : Int) := by
      rw [ev]
      cases ef : st.examples.find? fun x => x.1 == l with
      | none => rfl
      | some x =>
        show V.int (x.2 : Int) = _
        rw [c3' x ef]
    rw [eg]
    refine ⟨rfl, _, rfl, ?_⟩
    refine ifF (by rw [decide_eq_true rfl]; rfl) ?_
    refine ⟨_, rfl, _, rfl, L, CN, dx, _, _, rfl, s3 _ _ e1, T.cl, T.nE, nF_examples .., ex, _, rfl, dg, _, rfl, ?_⟩
    -- full
    by_cases c4 : (st.examples.find? fun x => x.1 == l) = none ∧ st.examples.length = 8
    · obtain ⟨ef, h8⟩ := c4
      rw [ef] at es ev
      have es' : Sm08.step st (.example l v) = (st, [-5]) := by
        rw [es]
        show (if 8 ≤ st.examples.length then (st, [-5]) else _) = (st, [-5])
        rw [if_pos (by omega)]
      have ev' : valV (exK st.examples) (keyOf l) = none := ev
      rw [ev']
      refine ifT rfl ?_
      refine ⟨_, rfl, L, CN, dx, _, _, rfl, s3 _ _ e1, T.cl, T.nE, nF_examples .., ex, _, rfl, s3 _ _ e4, rfl, _, rfl, ?_⟩
      refine ifT (decide_eq_true (by simp [exK, h8])) ?_
      rw [es'] at q
      exact ⟨by show 1 ≤ sizeLine; decide, fun r hr' => q _ r (Fr.same (s3.trans (same_upd hr'))) (hL.mono (s3.trans (same_upd hr'))) upd_same (fresh_of hL (Fr.same s3) hr')⟩
    refine and_skip (fun hc hR => ?_) ?_
    · refine ⟨_, rfl, L, CN, dx, _, _, rfl, s3 _ _ e1, T.cl, T.nE, nF_examples .., ex, _, rfl, s3 _ _ e4, rfl, _, rfl, ?_⟩
      have ef : (st.examples.find? fun x => x.1 == l) = none := by
        rw [ev] at hc
        cases ef : st.examples.find? fun x => x.1 == l with
        | none => rfl
        | some x =>
          rw [ef] at hc
          cases hc
      have h8 : ¬ V.int (((exK st.examples).length : Nat) : Int) = V.int 8 := fun z => c4 ⟨ef, by
        have := V.int.inj z
        simp [exK] at this
        omega⟩
      rw [decide_eq_false h8]
      exact hR
    refine ifF rfl ?_
    -- self.examples[row] = out
    obtain ⟨ex', hput, hstep, hlen⟩ : ∃ ex', putK (exK st.examples) (keyOf l) (.int (v : Int)) = exK ex' ∧ Sm08.step st (.example l v) = (⟨st.w, st.k, st.lang, st.wish, ex'⟩, [(ex'.length : Int)]) ∧ ex'.length ≤ 9 := by
      cases ef : st.examples.find? fun x => x.1 == l with
      | some x =>
        refine ⟨st.examples, exK_same l v _ hS.ed x ef (c3' x ef), ?_, by omega⟩
        rw [es, ef]
        show (st, if x.2 = v then [(st.examples.length : Int)] else [-3]) = _
        rw [if_pos (c3' x ef)]
      | none =>
        refine ⟨st.examples ++ [(l, v)], ?_, ?_, by simp; omega⟩
        · rw [putK_new _ (by rw [ev, ef]; rfl)]
          simp [exK]
        · rw [es, ef]
          show (if 8 ≤ st.examples.length then (st, [-5]) else _) = _
          rw [if_neg (fun z => c4 ⟨ef, by omega⟩)]
          simp
    have lx : (exK st.examples).length = st.examples.length := by simp [exK]
    refine ⟨_, rfl, _, rfl, L, CN, dx, _, _, rfl, s3 _ _ e1, T.cl, T.nE, nF_examples .., _, rfl, ex, _, rfl, DPut.t (k := keyOf l) (s3 _ _ e4) (by rw [key, upd_same]) (by rw [lx]; exact small_lt (by omega)), ?_⟩
    rw [hput]
    have keep : ∀ b o, b ≠ ex → H b = some o → upd (upd H p3 (.tup (iv l))) ex (.dT (exK ex')) b = some o := fun b o hb e => by
      rw [upd_ne hb]
      exact s3 _ _ e
    have nL : L ≠ ex := ne_of e1 e4 (by intro z; cases z)
    refine ⟨_, rfl, L, CN, dx, _, _, rfl, keep _ _ nL e1, T.cl, T.nE, nF_examples .., ex, _, rfl, upd_same, by show 1 ≤ sizeLine; decide, fun r hr' => ?_⟩
    rw [hstep] at q
    refine q _ r (fun b o hb ho e => same_upd hr' _ _ (keep b o (fun z => by rw [z, e4] at e; exact ho _ (Option.some.inj e).symm) e)) ?_ ?_ (fresh_of hL (fun b o hb ho e => keep b o (fun z => by rw [z, e4] at e; exact ho _ (Option.some.inj e).symm) e) hr')
    · refine ⟨dx, lg, wi, ex, same_upd hr' _ _ (keep _ _ nL e1), ⟨dL, an, ap, same_upd hr' _ _ (keep _ _ (ne_of l1 e4 (by intro z; cases z)) l1), same_upd hr' _ _ (keep _ _ (ne_of l2 e4 (by intro z; cases z)) l2), same_upd hr' _ _ (keep _ _ (ne_of l3 e4 (by intro z; cases z)) l3)⟩, same_upd hr' _ _ (keep _ _ (ne_of e3 e4 (by intro z; cases z)) e3), same_upd hr' _ _ upd_same⟩
    · rw [upd_same]
      simp [ansV, exK]
end
end LT
set_option Elab.async false
set_option maxRecDepth 100000
set_option maxHeartbeats 2000000
set_option linter.unusedSimpArgs false
set_option linter.unusedVariables false
namespace LT
open PySem PySem.Spec PyProof.Rows L2
/-! ### Line.tell_language -/
theorem twos_other : ∀ (pr : List Nat) (os : List (Nat × Nat)), Sm08Neutral.twos pr = some os → other pr = os.map (·.1) ∧ other (pr.drop 1) = os.map (·.2)
  | [], os, h => by
    obtain rfl : [] = os := Option.some.inj h
    exact ⟨rfl, rfl⟩
  | [a], os, h => by cases h
  | a :: b :: l, os, h => by
    simp only [Sm08Neutral.twos] at h
    cases e : Sm08Neutral.twos l with
    | none => rw [e] at h; cases h
    | some r =>
      rw [e] at h
      obtain rfl : (a, b) :: r = os := Option.some.inj h
      obtain ⟨h1, h2⟩ := twos_other l r e
      refine ⟨by rw [other, h1]; rfl, ?_⟩
      show other (b :: l) = b :: r.map (·.2)
      cases l with
      | nil =>
        obtain rfl : [] = r := Option.some.inj e
        rfl
      | cons c l =>
        rw [other]
        rw [← h2]
        rfl
theorem iv_other : ∀ l : List Nat, other (iv l) = iv (other l)
  | [] => rfl
  | [_] => rfl
  | a :: b :: l => by
    show V.int (a : Int) :: other (iv l) = V.int (a : Int) :: iv (other l)
    rw [iv_other l]
theorem merge_new : ∀ (more kvs : List (Key × V)), ((kvs ++ more).map (·.1)).Nodup → mergeK kvs more = kvs ++ more
  | [], kvs, _ => by simp [mergeK]
  | kv :: more, kvs, h => by
    have e : mergeK kvs (kv :: more) = mergeK (putK kvs kv.1 kv.2) more := rfl
    have hn : valV kvs kv.1 = none := by
      have h2 : ¬ kv.1 ∈ kvs.map (·.1) := by
        rw [List.map_append, List.map_cons, List.nodup_append] at h
        exact fun hm => h.2.2 _ hm _ List.mem_cons_self rfl
      have h3 := valV_any kv.1 kvs
      cases ev : valV kvs kv.1 with
      | none => rfl
      | some y =>
        rw [ev] at h3
        obtain ⟨p, hp, hp2⟩ := List.any_eq_true.mp h3
        exact absurd (List.mem_map.mpr ⟨p, hp, of_decide_eq_true hp2⟩) h2
    rw [e, putK_new _ hn, merge_new more _ (by simpa using h)]
    simp
theorem zip_ops : ∀ os : List (Nat × Nat), (((os.map (·.1)).map fun (n : Nat) => (n : Int)).map (Sum.inl : Int → Key)).zip (iv (os.map (·.2))) = opsK os
  | [] => rfl
  | x :: os => by
    show (_ :: List.zip _ _) = _ :: opsK os
    rw [← zip_ops os]
    rfl
theorem ops_nodup {os : List (Nat × Nat)} (h : (os.map (·.1)).Nodup) : ((opsK os).map (·.1)).Nodup := by
  have e : (opsK os).map (·.1) = (os.map (·.1)).map fun (n : Nat) => (Sum.inl (n : Int) : Key) := by simp [opsK]
  rw [e]
  exact List.Pairwise.map _ (fun a b hab z => hab (by have := Sum.inl.inj z; omega)) h
/-- the program's tests are the document's -/
theorem may_step (s : Sm08.St) (cs : List Nat) (os : List (Nat × Nat)) : Sm08.step s (.lang cs os) = if mayM s.w cs (os.map (·.1)) (os.map (·.2)) = true then (⟨s.w, s.k, ⟨os, cs⟩, s.wish, s.examples⟩, [(os.length : Int)]) else (s, [-1]) := by
  have h : (2 < cs.length ∨ 5 < os.length ∨ Sm08.distinct cs = false ∨ Sm08.distinct (os.map fun x => x.1) = false ∨ cs.any (fun c => decide (2 ^ s.w ≤ c)) = true ∨ os.any (fun x => decide (11 < x.1) || (decide (x.2 = 0) || decide (3 < x.2))) = true) ↔ ¬ mayM s.w cs (os.map (·.1)) (os.map (·.2)) = true := by
    have e1 : os.any (fun x => decide (11 < x.1) || (decide (x.2 = 0) || decide (3 < x.2))) = true ↔ ((os.map (·.1)).any (fun o => decide (12 ≤ o)) = true ∨ ¬ (os.map (·.2)).all (fun p => decide (1 ≤ p ∧ p ≤ 3)) = true) := by
      simp only [List.any_eq_true, List.all_eq_true, List.mem_map, Bool.or_eq_true, decide_eq_true_eq]
      constructor
      · rintro ⟨x, hx, h | h⟩
        · exact .inl ⟨x.1, ⟨x, hx, rfl⟩, by omega⟩
        · exact .inr fun z => by
            have := z x.2 ⟨x, hx, rfl⟩
            omega
      · rintro (⟨o, ⟨x, hx, rfl⟩, h⟩ | h)
        · exact ⟨x, hx, .inl (by omega)⟩
        · apply Classical.byContradiction
          intro z
          refine h ?_
          rintro p ⟨x, hx, rfl⟩
          apply Classical.byContradiction
          intro y
          exact z ⟨x, hx, .inr (by omega)⟩
    rw [e1]
    simp only [mayM, Bool.and_eq_true, decide_eq_true_eq, Bool.not_eq_true', List.length_map]
    by_cases a1 : cs.length ≤ 2 <;> by_cases a2 : os.length ≤ 5 <;> by_cases a3 : Sm08.distinct cs = true <;> by_cases a4 : Sm08.distinct (os.map (·.1)) = true <;> by_cases a5 : (cs.any fun c => decide (2 ^ s.w ≤ c)) = true <;> by_cases a6 : ((os.map (·.1)).any fun o => decide (12 ≤ o)) = true <;> by_cases a7 : ((os.map (·.2)).all fun p => decide (1 ≤ p ∧ p ≤ 3)) = true <;> (try simp only [Bool.not_eq_true] at a3 a4 a5 a6 a7) <;> simp only [a1, a2, a3, a4, a5, a6, a7] <;> (try simp) <;> (try omega)
  simp only [Sm08.step]
  by_cases c : mayM s.w cs (os.map (·.1)) (os.map (·.2)) = true
  · rw [if_neg (fun z => (h.mp z) c), if_pos c]
  · rw [if_pos (h.mpr c), if_neg c]
def spLang (CN CL : Addr) : Sp := fun vs H Q _ => ∃ (L a b : Addr) (s : Sm08.St) (cs pr : List Nat) (os : List (Nat × Nat)), spStep CN CL vs H Q L s (.lang cs os) [.ref a, .ref b] ∧ H a = some (.lst (iv cs)) ∧ H b = some (.lst (iv pr)) ∧ Sm08Neutral.twos pr = some os ∧ pr.length ≤ 1000
abbrev sLang : Stmt := inClass (top 48) 3
theorem scLang : FnScope ["self", "numbers", "priced", "language", "operations", "costs", "prices"] ["self", "numbers", "priced"] (defScope sLang) := ⟨rfl, rfl, rfl, by decide +kernel, rfl, by decide +kernel, by decide +kernel⟩
section
variable {P : Program} {wd : World} {K : PySem.W.Frag} {mg : Str → Option Value} {base : Heap} {CN CL : Addr}
theorem ok_lang {f fI : Addr} {fd fdI : FuncData} (F : Fun K "tell_language" "Line.tell_language" sLang f fd) (T : NCls K CN) (TL : LCls K CL) (ml : mg "len" = none) (mll : mg "list" = none) (md : mg "dict" = none) (mz : mg "zip" = none) (hm1 : GInt mg "NOT_GRANTED" (-1)) (gL : mg "Language" = some (.ref CL)) (M : Mk K CL fI)
    (FI : FnOk P wd K mg base CX0 1 fI fdI ["self", "size", "inputs", "numbers", "prices"] (spLInit CL)) (bI : Binds K fdI ["self", "size", "inputs", "numbers", "prices"] [])
    (GM : CalN P wd K mg base 2 "may_be_let" ["size", "numbers", "operations", "costs"] (spMay K)) : FnOk P wd K mg base CX0 3 f fd ["self", "numbers", "priced"] (spLang CN CL) := by
  refine F.ok scLang (fun vs H Q E h => ?_) (fun cdv A outer s H vs Q E hr h => ?_)
  · obtain ⟨L, a, b, s, cs, pr, os, ⟨rfl, _⟩, _⟩ := h
    rfl
  · obtain ⟨L, a, b, st, cs, pr, os, ⟨rfl, hL, hS, q⟩, ha, hb, htw, hpl⟩ := h
    obtain ⟨t1, g1⟩ := hm1
    obtain ⟨fM, gM, ⟨fdM, FM, bM, kM⟩⟩ := GM.ex
    refine ⟨_, pss_cons (ps_set (i := 3) scLang.nd rfl (Or.inl rfl) (pe_fld (pv 0) rfl))
      (pss_cons (ps_set (i := 4) scLang.nd rfl (Or.inl rfl) (pe_other (n := 0) rfl (pv 2)))
      (pss_cons (ps_set (i := 5) scLang.nd rfl (Or.inl rfl) (pe_other (n := 1) rfl (pv 2)))
      (pss_cons (ps_if (pt_not (pt_val (pe_call FM hr rfl gM kM bM .nil pass0 (pa_cons (pe_fld (pv 3) rfl) (pa_cons (pv 1) (pa_cons (pv 4) (pa_cons (pv 5) pa_nil))))))) (pss_one (ps_ret (pe_lst (pa_cons (pe_glob (v := .int (-1)) rfl g1 ⟨_, rfl⟩) pa_nil)))) pss_nil)
      (pss_cons (ps_set (i := 6) scLang.nd rfl (Or.inl rfl) (pe_dictZip (by rfl) md (by rfl) mz (pa_cons (pv 4) (pa_cons (pv 5) pa_nil))))
      (pss_cons (ps_fld (pv 0) (pe_make M FI hr rfl gL bI .nil pass0 (pa_cons (pe_fld (pv 3) rfl) (pa_cons (pe_fld (pv 3) rfl) (pa_cons (pe_callTy call_list_of (by rfl) mll (by decide +kernel) (pa_cons (pv 1) pa_nil)) (pa_cons (pv 6) pa_nil))))) rfl)
      (pss_one (ps_ret (pe_lst (pa_cons (pe_callB call_len_seq (by rfl) ml PySem.boot_len (pa_cons (pv 4) pa_nil)) pa_nil))))))))), ?_⟩
    obtain ⟨dx, lg, wi, ex, e1, e2, e3, e4⟩ := hL.ex
    obtain ⟨dL, an, ap, l1, l2, l3⟩ := e2.ex
    obtain ⟨to1, to2⟩ := twos_other pr os htw
    refine ⟨_, rfl, L, CN, dx, _, _, rfl, e1, T.cl, T.nL, nF_language .., ?_⟩
    refine ⟨_, rfl, b, _, rfl, SqL.new hb, fun p1 hp1 => ?_⟩
    have x1 : other ((iv pr).drop 0) = iv (os.map (·.1)) := by rw [List.drop_zero, iv_other, to1]
    have x2 : other ((iv pr).drop 1) = iv (os.map (·.2)) := by
      have : (iv pr).drop 1 = iv (pr.drop 1) := by simp [iv]
      rw [this, iv_other, to2]
    rw [x1]
    have s1 := same_upd (o := .lst (iv (os.map (·.1)))) hp1
    refine ⟨_, rfl, b, _, rfl, SqL.new (s1 _ _ hb), fun p2 hp2 => ?_⟩
    rw [x2]
    have s2 := s1.trans (same_upd (o := .lst (iv (os.map (·.2)))) hp2)
    have h1 : upd (upd H p1 (.lst (iv (os.map (·.1))))) p2 (.lst (iv (os.map (·.2)))) p1 = some (.lst (iv (os.map (·.1)))) := same_upd hp2 _ _ upd_same
    have h2 : upd (upd H p1 (.lst (iv (os.map (·.1))))) p2 (.lst (iv (os.map (·.2)))) p2 = some (.lst (iv (os.map (·.2)))) := upd_same
    refine ⟨_, rfl, lg, CL, dL, _, _, rfl, s2 _ _ l1, TL.cl, TL.nS, lF_size .., _, rfl, _, rfl, _, rfl, ?_⟩
    refine ⟨st.w, a, p1, p2, cs, os.map (·.1), os.map (·.2), rfl, s2 _ _ ha, h1, h2, by simp, fun H3 s3 => ⟨_, rfl, ?_⟩⟩
    have es := may_step st cs os
    have s03 := s2.trans s3
    by_cases c1 : mayM st.w cs (os.map (·.1)) (os.map (·.2)) = true
    case neg =>
      rw [if_neg c1] at es
      refine ifT (by simpa using c1) ?_
      rw [es] at q
      exact ⟨by show 1 ≤ sizeLine; decide, fun r hr' => q _ r (Fr.same (s03.trans (same_upd hr'))) (hL.mono (s03.trans (same_upd hr'))) upd_same (fresh_of hL (Fr.same s03) hr')⟩
    rw [if_pos c1] at es
    refine ifF (by simpa using c1) ?_
    rw [es] at q
    have nd : (os.map (·.1)).Nodup := by
      have : Sm08.distinct (os.map (·.1)) = true := by
        simp only [mayM, Bool.and_eq_true] at c1
        exact c1.2.2.2.1
      exact (distinct_nodup _).mp this
    have ei : iv (os.map (·.1)) = ((os.map (·.1)).map fun (n : Nat) => (n : Int)).map V.int := by simp [iv]
    -- prices = dict(zip(operations, costs))
    refine ⟨_, rfl, _, rfl, p1, p2, (os.map (·.1)).map fun (n : Nat) => (n : Int), iv (os.map (·.2)), rfl, SqL.new (by rw [← ei]; exact s3 _ _ h1), SqL.new (s3 _ _ h2), by simp [iv], fun p3 hp3 => ?_⟩
    rw [zip_ops, merge_new (opsK os) [] (ops_nodup nd)]
    rw [List.nil_append]
    have s4 := same_upd (o := .dK (opsK os)) hp3
    have s04 := s03.trans s4
    refine ⟨_, rfl, lg, CL, dL, _, _, rfl, s04 _ _ l1, TL.cl, TL.nS, lF_size .., _, rfl, lg, CL, dL, _, _, rfl, s04 _ _ l1, TL.cl, TL.nI, lF_inputs .., _, rfl, a, _, rfl, .inl (SqL.new (s04 _ _ ha)), fun p4 hp4 => ⟨_, rfl, fun lg2 dL2 hlg hdL ndl => ?_⟩⟩
    have s5 := same_upd (o := .lst (iv cs)) hp4
    have s05 := s04.trans s5
    refine ⟨lg2, dL2, p4, p3, st.w, st.k, rfl, upd_same, fun H5 sb hlg5 => ⟨rfl, ?_⟩⟩
    have s6 : Same (upd (upd H3 p3 (.dK (opsK os))) p4 (.lst (iv cs))) H5 := fun x o e => sb x o (ne_of_none e hlg) (by rw [upd_ne (ne_of_none e hlg), upd_ne (ne_of_none e hdL)]; exact e)
    have s06 := s05.trans s6
    refine ⟨_, rfl, L, CN, dx, nF lg wi ex, rfl, s06 _ _ e1, T.cl, T.nL, by show 3 < 1000; decide, ?_⟩
    have e9 : putF "language" (.ref lg2) (nF lg wi ex) = nF lg2 wi ex := if_pos rfl
    rw [e9]
    have nL : ∀ {x o}, (∀ C d fs, o ≠ .ins C d fs) → H5 x = some o → x ≠ L := fun ho e z => by
      rw [z, s06 _ _ e1] at e
      exact ho _ _ _ (Option.some.inj e).symm
    have hp1' : H5 p1 = some (.lst (iv (os.map (·.1)))) := s6 _ _ (s5 _ _ (s4 _ _ (s3 _ _ h1)))
    refine ⟨_, rfl, p1, _, rfl, .inl (SqL.new (by rw [upd_ne (nL (by intro _ _ _ z; cases z) hp1')]; exact hp1')), by show 1 ≤ sizeLine; decide, fun r hr' => ?_⟩
    have keep : ∀ x o, x ≠ L → H5 x = some o → upd (upd H5 L (.ins CN dx (nF lg2 wi ex))) r (.lst [.int ((iv (os.map (·.1))).length : Int)]) x = some o := fun x o hx e => same_upd hr' _ _ (by rw [upd_ne hx]; exact e)
    have nlg : lg2 ≠ L := (ne_of_none (s05 _ _ e1) hlg).symm
    refine q _ r (fun x o hx _ e => keep x o hx (s06 _ _ e)) ⟨dx, lg2, wi, ex, same_upd hr' _ _ upd_same, ⟨dL2, p4, p3, keep _ _ nlg hlg5, ?_, ?_⟩, ?_, ?_⟩ ?_ (fresh_of hL (fun x o hx _ e => by rw [upd_ne hx]; exact s06 _ _ e) hr')
    · have : H5 p4 = some (.lst (iv cs)) := s6 _ _ upd_same
      exact keep _ _ (nL (by intro _ _ _ z; cases z) this) this
    · have : H5 p3 = some (.dK (opsK os)) := s6 _ _ (s5 _ _ upd_same)
      exact keep _ _ (nL (by intro _ _ _ z; cases z) this) this
    · have := s06 _ _ e3
      exact keep _ _ (nL (by intro _ _ _ z; cases z) this) this
    · have := s06 _ _ e4
      exact keep _ _ (nL (by intro _ _ _ z; cases z) this) this
    · rw [upd_same, iv_len, List.length_map]
      rfl
end
end LT
set_option linter.unusedSimpArgs false
set_option linter.unusedVariables false
namespace LT
open PySem PySem.Spec PyProof.Rows L2
/-! ### mathematics G: the first difference, learning step by step -/
theorem find_congr {α : Type} {p r : α → Bool} : ∀ {l : List α}, (∀ x ∈ l, p x = r x) → l.find? p = l.find? r
  | [], _ => rfl
  | a :: l, h => by
    have h1 := h a (by simp)
    have h2 := find_congr (l := l) fun x hx => h x (by simp [hx])
    simp only [List.find?_cons, h1, h2]
theorem fst_find (f g : List Nat → Nat) (rows : List (List Nat)) : (rows.find? fun r => f r != g r) = (fstDiff (rows.map g) (rows.map f)).map fun i => rows.getD i [] := by
  have e : rows = (List.range rows.length).map fun i => rows.getD i [] := by
    apply List.ext_getElem
    · simp
    · intro i h1 h2
      simp [h1]
  have e2 : (rows.find? fun r => f r != g r) = ((List.range rows.length).map fun i => rows.getD i []).find? fun r => f r != g r := by rw [← e]
  rw [e2, List.find?_map]
  unfold fstDiff
  rw [List.length_map]
  congr 1
  apply find_congr
  intro i hi
  have hlt : i < rows.length := by simpa using hi
  have hg : (rows.map g).getD i 0 = g (rows.getD i []) := by simp [hlt]
  have hf : (rows.map f).getD i 0 = f (rows.getD i []) := by simp [hlt]
  rw [hg, hf]
  show (f (rows.getD i []) != g (rows.getD i [])) = _
  rw [Bool.eq_iff_iff]
  simp
  exact ⟨fun h z => h z.symm, fun h z => h z.symm⟩
theorem differ_fst (w k : Nat) (t u : Sm08.Term) : Sm08.differ w k t u = (fstDiff (outs w (Sm08.rowsOf w k) u) (outs w (Sm08.rowsOf w k) t)).map fun i => (Sm08.rowsOf w k).getD i [] :=
  fst_find (fun r => Sm08.eval w r t) (fun r => Sm08.eval w r u) _
theorem fst_some {xs ys : List Nat} {i : Nat} (h : fstDiff xs ys = some i) : i < xs.length ∧ xs.getD i 0 ≠ ys.getD i 0 := by
  unfold fstDiff at h
  rw [List.find?_range_eq_some] at h
  exact ⟨by simpa using h.2.1, by simpa using h.1⟩
/-- a state with other examples -/
def withEx (s : Sm08.St) (ex : List Sm08.Example) : Sm08.St := ⟨s.w, s.k, s.lang, s.wish, ex⟩
def doesAll (s : Sm08.St) (ex : List Sm08.Example) : Prop := ∀ x ∈ ex, Sm08.eval s.w x.1 s.wish = x.2
theorem learn_none {s : Sm08.St} {m f n : Nat} {ex : List Sm08.Example} (h : Sm08.find s.w s.k s.lang ex m = none) : Sm08.learn s.w s.k s.lang s.wish m f n ex = (ex, .none_ n) := by
  unfold Sm08.learn
  rw [h]
theorem learn_does {s : Sm08.St} {m f n : Nat} {ex : List Sm08.Example} {x : Nat × Sm08.Term} (h : Sm08.find s.w s.k s.lang ex m = some x) (hd : Sm08.differ s.w s.k x.2 s.wish = none) : Sm08.learn s.w s.k s.lang s.wish m f n ex = (ex, .does n x.1 x.2) := by
  unfold Sm08.learn
  rw [h]
  simp only [hd]
theorem learn_full {s : Sm08.St} {m n : Nat} {ex : List Sm08.Example} {x : Nat × Sm08.Term} {r : List Nat} (h : Sm08.find s.w s.k s.lang ex m = some x) (hd : Sm08.differ s.w s.k x.2 s.wish = some r) : Sm08.learn s.w s.k s.lang s.wish m 0 n ex = (ex, .full) := by
  unfold Sm08.learn
  rw [h]
  simp only [hd]
theorem learn_more {s : Sm08.St} {m f n : Nat} {ex : List Sm08.Example} {x : Nat × Sm08.Term} {r : List Nat} (h : Sm08.find s.w s.k s.lang ex m = some x) (hd : Sm08.differ s.w s.k x.2 s.wish = some r) : Sm08.learn s.w s.k s.lang s.wish m (f + 1) n ex = Sm08.learn s.w s.k s.lang s.wish m f (n + 1) (ex ++ [(r, Sm08.eval s.w r s.wish)]) := by
  rw [Sm08.learn]
  rw [h]
  simp only [hd]
/-- the example that comes is a new one -/
theorem comes_new {s : Sm08.St} {ex : List Sm08.Example} {t : Sm08.Term} {r : List Nat} (hd : doesAll s ex) (ho : outs s.w (ex.map (·.1)) t = ex.map (·.2)) (hr : Sm08.eval s.w r t ≠ Sm08.eval s.w r s.wish) : ∀ x ∈ ex, x.1 ≠ r := by
  intro x hx z
  have h1 := hd x hx
  have h2 : ∀ l : List Sm08.Example, outs s.w (l.map (·.1)) t = l.map (·.2) → ∀ x ∈ l, Sm08.eval s.w x.1 t = x.2 := by
    intro l
    induction l with
    | nil => intro _ x hx; cases hx
    | cons y l ih =>
      intro h x hx
      simp only [List.map_cons, outs, List.cons.injEq] at h
      rcases List.mem_cons.mp hx with rfl | hx
      · exact h.1
      · exact ih h.2 x hx
  have h3 := h2 ex ho x hx
  rw [z] at h1 h3
  exact hr (h3.trans h1.symm)
end LT
set_option Elab.async false
set_option maxRecDepth 100000
set_option maxHeartbeats 2000000
set_option linter.unusedSimpArgs false
set_option linter.unusedVariables false
namespace LT
open PySem PySem.Spec PyProof.Rows L2
/-! ### Line.learn -/
def spLearn (CN CL : Addr) : Sp := fun vs H Q _ => ∃ (L : Addr) (s : Sm08.St) (m : Nat), spStep CN CL vs H Q L s (.learn m) [.int (m : Int)]
abbrev sLearn : Stmt := inClass (top 48) 8
theorem scLearn : FnScope ["self", "most", "rows", "wishes", "before", "found", "came", "place"] ["self", "most"] (defScope sLearn) := ⟨rfl, rfl, rfl, by decide +kernel, rfl, by decide +kernel, by decide +kernel⟩
section
variable {P : Program} {wd : World} {K : PySem.W.Frag} {mg : Str → Option Value} {base : Heap} {CN CL : Addr}
theorem ok_learn {f fB fE fO : Addr} {fd fdB fdE fdO : FuncData} (F : Fun K "learn" "Line.learn" sLearn f fd) (T : NCls K CN) (TL : LCls K CL) (ml : mg "len" = none) (mll : mg "list" = none) (mt : mg "tuple" = none) (h5 : GInt mg "MOST_COST" 5) (h8 : GInt mg "MOST_EXAMPLES" 8) (hm1 : GInt mg "NOT_GRANTED" (-1)) (hm3 : GInt mg "AT_ODDS" (-3))
    (FB : FnOk P wd K mg base CX0 8 fB fdB ["self", "most"] (spByEx K CN CL)) (bB : Binds K fdB ["self", "most"] []) (mB : Meth K CN "first_by_examples" fB)
    (FE : FnOk P wd K mg base CX0 2 fE fdE ["self"] (spEvery CN CL)) (bE : Binds K fdE ["self"] []) (mE : Meth K CN "every_row" fE)
    (FO : FnOk P wd K mg base CX0 4 fO fdO ["self", "term", "rows"] (spOuts K CN CL)) (bO : Binds K fdO ["self", "term", "rows"] []) (mO : Meth K CN "outcomes" fO) (GF : CalN P wd K mg base 1 "first_difference" ["ones", "others"] spDiff)
    (GT : CalN P wd K mg base 1 "told" ["found"] (spTold K)) : FnOk P wd K mg base CX0 9 f fd ["self", "most"] (spLearn CN CL) := by
  refine F.ok scLearn (fun vs H Q E h => ?_) (fun cdv A outer s H vs Q E hr h => ?_)
  · obtain ⟨L, s, m, rfl, _⟩ := h
    rfl
  · obtain ⟨L, st, m, rfl, hL, hS, q⟩ := h
    obtain ⟨t5, g5⟩ := h5
    obtain ⟨t8, g8⟩ := h8
    obtain ⟨t1, g1⟩ := hm1
    obtain ⟨t3, g3⟩ := hm3
    obtain ⟨fF, gF, ⟨fdF, FF, bF, kF⟩⟩ := GF.ex
    obtain ⟨fT, gT, ⟨fdT, FT, bT, kT⟩⟩ := GT.ex
    have hr1 : Room 1 _ := hr.mono (by decide)
    have hr2 : Room 2 _ := hr.mono (by decide)
    have hr4 : Room 4 _ := hr.mono (by decide)
    refine ⟨_, pss_cons (ps_if (pt_cmpR op_gt (pv 1) (pe_glob (v := .int 5) rfl g5 ⟨_, rfl⟩) (nomark _)) (pss_one (ps_ret (pe_lst (pa_cons (pe_glob (v := .int (-1)) rfl g1 ⟨_, rfl⟩) pa_nil)))) pss_nil)
      (pss_cons (ps_if (pt_cmpR (op_neD hr.units) (pe_meth (pv 0) T.cl mO FO hr4 bO .nil pass0 (pa_cons (pe_fld (pv 0) rfl) (pa_cons (pe_callTy (call_list_dT rfl) (by rfl) mll (by decide +kernel) (pa_cons (pe_fld (pv 0) rfl) pa_nil)) pa_nil))) (pe_tupVals (by rfl) mt (pe_fld (pv 0) rfl)) (nomark _)) (pss_one (ps_ret (pe_lst (pa_cons (pe_glob (v := .int (-3)) rfl g3 ⟨_, rfl⟩) pa_nil)))) pss_nil)
      (pss_cons (ps_set (i := 2) scLearn.nd rfl (Or.inl rfl) (pe_meth0 (pv 0) T.cl mE FE hr2 bE .nil pass0))
      (pss_cons (ps_set (i := 3) scLearn.nd rfl (Or.inl rfl) (pe_meth (pv 0) T.cl mO FO hr4 bO .nil pass0 (pa_cons (pe_fld (pv 0) rfl) (pa_cons (pv 2) pa_nil))))
      (pss_cons (ps_set (i := 4) scLearn.nd rfl (Or.inl rfl) (pe_callB call_len_dT (by rfl) ml PySem.boot_len (pa_cons (pe_fld (pv 0) rfl) pa_nil)))
      (pss_one (ps_while PassesOwn.never (pt_val pe_bl)
        (pss_cons (ps_set (i := 5) scLearn.nd rfl (Or.inl rfl) (pe_meth (pv 0) T.cl mB FB hr bB .nil pass0 (pa_cons (pv 1) pa_nil)))
        (pss_cons (ps_set (i := 6) scLearn.nd rfl (Or.inl rfl) (pe_op op_sub (pe_callB call_len_dT (by rfl) ml PySem.boot_len (pa_cons (pe_fld (pv 0) rfl) pa_nil)) (pv 4)))
        (pss_cons (ps_if (pt_cmp (pc_isN (pv 5))) (pss_one (ps_ret (pe_lst (pa_cons pe_int (pa_cons (pv 6) pa_nil))))) pss_nil)
        (pss_cons (ps_set (i := 7) scLearn.nd rfl (Or.inl rfl) (pe_call FF hr1 rfl gF kF bF .nil pass0 (pa_cons (pv 3) (pa_cons (pe_meth (pv 0) T.cl mO FO hr4 bO .nil pass0 (pa_cons (pe_ix ix_tup (pv 5) pe_int (fun _ _ => rfl)) (pa_cons (pv 2) pa_nil))) pa_nil))))
        (pss_cons (ps_if (pt_cmp (pc_isN (pv 7))) (pss_one (ps_ret (pe_op op_cat (pe_lst (pa_cons pe_int (pa_cons (pv 6) pa_nil))) (pe_call FT hr1 rfl gT kT bT .nil pass0 (pa_cons (pv 5) pa_nil))))) pss_nil)
        (pss_cons (ps_if (pt_cmpR op_eq (pe_callB call_len_dT (by rfl) ml PySem.boot_len (pa_cons (pe_fld (pv 0) rfl) pa_nil)) (pe_glob (v := .int 8) rfl g8 ⟨_, rfl⟩) (nomark _)) (pss_one (ps_ret (pe_lst (pa_cons pe_int pa_nil)))) pss_nil)
        (pss_one (ps_dput (hu_of hr) (pe_fld (pv 0) rfl) (pe_ix ix_list (pv 2) (pv 7) (fun _ _ => rfl)) (pe_ix ix_tup (pv 3) (pv 7) (fun _ _ => rfl)) rfl)))))))))))))), ?_⟩
    obtain ⟨dx, lg, wi, ex, e1, e2, e3, e4⟩ := hL.ex
    obtain ⟨dL, an, ap, l1, l2, l3⟩ := e2.ex
    refine ⟨_, rfl, _, _, rfl, rfl, _, rfl, ?_⟩
    by_cases c1 : m ≤ 5
    case neg =>
      refine ifT (decide_eq_true (by omega)) ?_
      have es : Sm08.step st (.learn m) = (st, [-1]) := by
        simp only [Sm08.step]
        rw [if_pos (show Sm08.MOST < m by unfold Sm08.MOST; omega)]
      rw [es] at q
      exact ⟨by show 1 ≤ sizeLine; decide, fun r hr' => q _ r (Fr.same (same_upd hr')) (hL.mono (same_upd hr')) upd_same (fresh_of hL (fun _ _ _ _ e => e) hr')⟩
    refine ifF (decide_eq_false (by omega)) ?_
    have noA : ∀ (lg wi ex : Addr) (m : Str), (m == ("language" : Str)) = false → (m == ("wish" : Str)) = false → (m == ("examples" : Str)) = false → (nF lg wi ex).lookup m = none := fun lg wi ex m h1 h2 h3 => (lk_past h1).trans ((lk_past h2).trans ((lk_past h3).trans rfl))
    have en := hS.en
    have wl := hS.wl
    refine ⟨_, rfl, L, dx, _, rfl, e1, noA _ _ _ _ (by decide +kernel) (by decide +kernel) (by decide +kernel), _, rfl, L, CN, dx, _, _, rfl, e1, T.cl, T.nW, nF_wish .., _, rfl, L, CN, dx, _, _, rfl, e1, T.cl, T.nE, nF_examples .., ex, _, rfl, .inl e4, fun p0 bs hp0 hk0 => ?_⟩
    have s0 := same_upd (o := .lst (bs.map V.ref)) hp0
    refine ⟨L, wi, p0, st, st.wish, st.examples.map (·.1), rfl, hL.mono s0, hS, SqL.new (s0 _ _ e3), hS.wf, RowsAt.any ⟨bs, SqL.new upd_same, paired_imp (keys_rows _ _ hk0) fun b row _ e => SqT.new (s0 _ _ e)⟩, hS.ask.ro, by rw [List.length_map]; omega, by omega, fun H0 q0 s00 hq0 => ?_⟩
    have s01 := s0.trans s00
    refine ⟨_, rfl, L, CN, dx, _, _, rfl, s01 _ _ e1, T.cl, T.nE, nF_examples .., ex, _, rfl, s01 _ _ e4, fun q1 hq1 => ?_⟩
    rw [exK_vals]
    have s1 := s01.trans (same_upd (o := .tup (iv (st.examples.map (·.2)))) hq1)
    refine ⟨_, _, .tup (SqT.new (same_upd hq1 _ _ hq0)) (dp_iv _), .tup (SqT.new upd_same) (dp_iv _), shape_tup _, shape_tup _, _, rfl, ?_⟩
    rw [does_eqv, Bool.not_not]
    generalize upd H0 q1 (.tup (iv (st.examples.map (·.2)))) = H1 at s1 ⊢
    by_cases c2 : (st.examples.any fun x => Sm08.eval st.w x.1 st.wish != x.2) = true
    · refine ifT c2 ?_
      have es : Sm08.step st (.learn m) = (st, [-3]) := by
        simp only [Sm08.step]
        rw [if_neg (show ¬ Sm08.MOST < m by unfold Sm08.MOST; omega), if_pos c2]
      rw [es] at q
      exact ⟨by show 1 ≤ sizeLine; decide, fun r hr' => q _ r (Fr.same (s1.trans (same_upd hr'))) (hL.mono (s1.trans (same_upd hr'))) upd_same (fresh_of hL (Fr.same s1) hr')⟩
    have c2' : (st.examples.any fun x => Sm08.eval st.w x.1 st.wish != x.2) = false := by simpa using c2
    refine ifF c2' ?_
    have d0 : doesAll st st.examples := fun x hx => by
      have := List.any_eq_false.mp c2' x hx
      simpa using this
    have es : Sm08.step st (.learn m) = (withEx st (Sm08.learn st.w st.k st.lang st.wish m (8 - st.examples.length) 0 st.examples).1, match (Sm08.learn st.w st.k st.lang st.wish m (8 - st.examples.length) 0 st.examples).2 with
      | .does n c t => 1 :: (n : Int) :: Sm08.toldTerm (c, t)
      | .none_ n => [0, (n : Int)]
      | .full => [2]) := by
      simp only [Sm08.step]
      rw [if_neg (show ¬ Sm08.MOST < m by unfold Sm08.MOST; omega), if_neg c2]
      rfl
    rw [es] at q
    -- rows, wishes, before
    refine ⟨_, rfl, L, dx, _, rfl, s1 _ _ e1, noA _ _ _ _ (by decide +kernel) (by decide +kernel) (by decide +kernel), ?_⟩
    refine ⟨L, st, rfl, hL.mono s1, hS.wd.w4, hS.wd.k2, fun H2 p s2 hR => ?_⟩
    have s02 := s1.trans s2
    have rlen := rowsOf_small hS.wd.w4 hS.wd.k2
    have rok := rowsOf_ok st.w st.k
    refine ⟨_, rfl, L, dx, _, rfl, s02 _ _ e1, noA _ _ _ _ (by decide +kernel) (by decide +kernel) (by decide +kernel), _, rfl, L, CN, dx, _, _, rfl, s02 _ _ e1, T.cl, T.nW, nF_wish .., _, rfl, ?_⟩
    refine ⟨L, wi, p, st, st.wish, Sm08.rowsOf st.w st.k, rfl, hL.mono s02, hS, SqL.new (s02 _ _ e3), hS.wf, hR.at.any, rok, by omega, by omega, fun H3 pw s3 hpw => ?_⟩
    have s03 := s02.trans s3
    refine ⟨_, rfl, L, CN, dx, _, _, rfl, s03 _ _ e1, T.cl, T.nE, nF_examples .., ex, _, rfl, s03 _ _ e4, ?_⟩
    -- while True
    have lx0 : (exK st.examples).length = st.examples.length := by simp [exK]
    refine ⟨fun fuel σ H' => ∃ (v5 v6 v7 : Option V) (xs : List Sm08.Example), σ = [some (.ref L), some (.int (m : Int)), some (.ref p), some (.ref pw), some (.int (st.examples.length : Int)), v5, v6, v7] ∧ fuel = 8 - xs.length ∧ st.examples.length ≤ xs.length ∧ xs.length ≤ 8 ∧ StOk (withEx st xs) ∧ doesAll st xs ∧
      Fr L H H' ∧ LineAt CN CL H' L (withEx st xs) ∧ RowsH H' p (Sm08.rowsOf st.w st.k) ∧ H' pw = some (.tup (iv (outs st.w (Sm08.rowsOf st.w st.k) st.wish))) ∧
      Sm08.learn st.w st.k st.lang st.wish m (8 - xs.length) (xs.length - st.examples.length) xs = Sm08.learn st.w st.k st.lang st.wish m (8 - st.examples.length) 0 st.examples, ⟨8 - st.examples.length, none, none, none, st.examples, by rw [lx0]; rfl, rfl, Nat.le_refl _, hS.en, hS, d0, Fr.same s03, hL.mono s03, hR.mono s3, hpw, by rw [Nat.sub_self]⟩, ?_⟩
    rintro fuel σ H' ⟨v5, v6, v7, xs, rfl, rfl, le0, le8, hSx, dA, fr, hLx, hRx, hpwx, elearn⟩
    refine ⟨_, rfl, ?_⟩
    refine ifT rfl ?_
    refine ⟨_, fun _ _ h => h, ?_⟩
    obtain ⟨dx', lg', wi', ex', f1, f2, f3, f4⟩ := hLx.ex
    obtain ⟨dL', an', ap', k1, k2, k3⟩ := f2.ex
    have lxs : (exK xs).length = xs.length := by simp [exK]
    have f4' : H' ex' = some (.dT (exK xs)) := f4
    refine ⟨_, rfl, L, dx', _, rfl, f1, ?_, _, rfl, ?_⟩
    · exact (lk_past (by decide +kernel)).trans ((lk_past (by decide +kernel)).trans ((lk_past (by decide +kernel)).trans rfl))
    refine ⟨L, withEx st xs, m, rfl, hLx, hSx, c1, ?_⟩
    have ecame : (((exK xs).length : Nat) : Int) - (st.examples.length : Int) = ((xs.length - st.examples.length : Nat) : Int) := by
      rw [lxs]
      omega
    cases e : Sm08.find st.w st.k st.lang xs m with
    | none =>
      have ec : findC (withEx st xs) m = none := by
        show (Sm08.find st.w st.k st.lang xs m).map _ = none
        rw [e]
        rfl
      rw [ec]
      rw [learn_none e] at elearn
      rw [← elearn] at q
      intro H4 s4
      refine ⟨_, rfl, L, CN, dx', _, _, rfl, s4 _ _ f1, T.cl, T.nE, nF_examples .., ex', _, rfl, s4 _ _ f4', _, rfl, _, _, rfl, rfl, ?_⟩
      refine ⟨_, rfl, _, rfl, ?_⟩
      refine ifT rfl ?_
      refine ⟨_, rfl, by show 2 ≤ sizeLine; decide, fun r hr' => q _ r (fr.trans (Fr.same (s4.trans (same_upd hr')))) (hLx.mono (s4.trans (same_upd hr'))) ?_ (fresh_of hL (fr.trans (Fr.same s4)) hr')⟩
      rw [upd_same]
      show some (HO.lst [.int 0, .int ((((exK xs).length : Nat) : Int) - (st.examples.length : Int))]) = _
      rw [ecame]
      rfl
    | some x =>
      have ec : findC (withEx st xs) m = some (x.1, Sm08.code x.2) := by
        show (Sm08.find st.w st.k st.lang xs m).map _ = _
        rw [e]
        rfl
      rw [ec]
      obtain ⟨xf, xl, xo⟩ := found_ok hSx c1 (x := x) e
      have xf' : fine st.w st.k x.2 = true := xf
      have xo' : outs st.w (xs.map (·.1)) x.2 = xs.map (·.2) := xo
      intro H4 pt pb s4 hpt hpb
      refine ⟨_, rfl, L, CN, dx', _, _, rfl, s4 _ _ f1, T.cl, T.nE, nF_examples .., ex', _, rfl, s4 _ _ f4', _, rfl, _, _, rfl, rfl, ?_⟩
      refine ⟨_, rfl, _, rfl, ?_⟩
      refine ifF rfl ?_
      -- place
      refine ⟨_, rfl, _, rfl, L, dx', _, rfl, s4 _ _ f1, noA _ _ _ _ (by decide +kernel) (by decide +kernel) (by decide +kernel), _, rfl, pt, _, 1, .ref pb, rfl, rfl, SqT.new hpt, rfl, _, rfl, ?_⟩
      refine ⟨L, pb, p, withEx st xs, x.2, Sm08.rowsOf st.w st.k, rfl, hLx.mono s4, hSx, SqL.new hpb, xf', (hRx.mono s4).at.any, rok, by omega, by omega, fun H5 po s5 hpo => ?_⟩
      have hpo : H5 po = some (.tup (iv (outs st.w (Sm08.rowsOf st.w st.k) x.2))) := hpo
      have s45 := s4.trans s5
      refine ⟨pw, po, _, _, rfl, s45 _ _ hpwx, hpo, by simp [outs], by simp [outs]; omega, fun H6 s6 => ?_⟩
      have s46 := s45.trans s6
      have edf := differ_fst st.w st.k x.2 st.wish
      cases ed : fstDiff (outs st.w (Sm08.rowsOf st.w st.k) st.wish) (outs st.w (Sm08.rowsOf st.w st.k) x.2) with
      | none =>
        rw [ed] at edf
        rw [learn_does e edf] at elearn
        rw [← elearn] at q
        refine ⟨_, rfl, _, rfl, ?_⟩
        refine ifT rfl ?_
        refine ⟨_, rfl, by show 2 ≤ sizeLine; decide, fun r1 hr1' => ⟨_, rfl, ?_⟩⟩
        refine ⟨pt, pb, x.1, Sm08.code x.2, rfl, same_upd hr1' _ _ (s6 _ _ (s5 _ _ hpt)), same_upd hr1' _ _ (s6 _ _ (s5 _ _ hpb)), by omega, fun H7 r2 s7 hr2 => ?_⟩
        refine ⟨r1, r2, _, _, rfl, rfl, s7 _ _ upd_same, hr2, ?_, fun r hr' => ?_⟩
        · rw [iv_len]
          exact small_line (by simp; omega)
        · have s47 := s46.trans ((same_upd hr1').trans s7)
          refine q _ r (fr.trans (Fr.same (s47.trans (same_upd hr')))) (hLx.mono (s47.trans (same_upd hr'))) ?_ (fresh_of hL (fr.trans (Fr.same s47)) hr')
          rw [upd_same]
          show some (HO.lst ([.int 1, .int ((((exK xs).length : Nat) : Int) - (st.examples.length : Int))] ++ _)) = _
          rw [ecame]
          simp [ansV, iv, Sm08.toldTerm, Sm08.ints]
      | some i =>
        rw [ed] at edf
        have edf' : Sm08.differ st.w st.k x.2 st.wish = some ((Sm08.rowsOf st.w st.k).getD i []) := edf
        obtain ⟨hi, hne⟩ := fst_some ed
        have hi' : i < (Sm08.rowsOf st.w st.k).length := by simpa [outs] using hi
        refine ⟨_, rfl, _, rfl, ?_⟩
        refine ifF rfl ?_
        refine ⟨_, rfl, L, CN, dx', _, _, rfl, s46 _ _ f1, T.cl, T.nE, nF_examples .., ex', _, rfl, s46 _ _ f4', rfl, _, rfl, ?_⟩
        by_cases c8 : xs.length = 8
        · refine ifT (decide_eq_true (by rw [lxs, c8]; rfl)) ?_
          rw [c8] at elearn
          rw [learn_full e edf'] at elearn
          rw [← elearn] at q
          exact ⟨by show 1 ≤ sizeLine; decide, fun r hr' => q _ r (fr.trans (Fr.same (s46.trans (same_upd hr')))) (hLx.mono (s46.trans (same_upd hr'))) upd_same (fresh_of hL (fr.trans (Fr.same s46)) hr')⟩
        refine ifF (decide_eq_false (fun z => c8 (by have := V.int.inj z; omega))) ?_
        -- self.examples[rows[place]] = wishes[place]
        have hrow : (Sm08.rowsOf st.w st.k)[i]? = some ((Sm08.rowsOf st.w st.k).getD i []) := by
          rw [List.getD_eq_getElem?_getD, List.getElem?_eq_getElem hi']
          rfl
        have ow : ∀ t : Sm08.Term, (outs st.w (Sm08.rowsOf st.w st.k) t)[i]? = some (Sm08.eval st.w ((Sm08.rowsOf st.w st.k).getD i []) t) := fun t => by
          rw [outs, List.getElem?_map, hrow]
          rfl
        have hmem : (Sm08.rowsOf st.w st.k).getD i [] ∈ Sm08.rowsOf st.w st.k := List.mem_of_getElem? hrow
        have hne' : Sm08.eval st.w ((Sm08.rowsOf st.w st.k).getD i []) x.2 ≠ Sm08.eval st.w ((Sm08.rowsOf st.w st.k).getD i []) st.wish := by
          have od : ∀ t : Sm08.Term, (outs st.w (Sm08.rowsOf st.w st.k) t).getD i 0 = Sm08.eval st.w ((Sm08.rowsOf st.w st.k).getD i []) t := fun t => by
            have h9 := ow t
            generalize (Sm08.rowsOf st.w st.k).getD i [] = rr at h9 ⊢
            rw [List.getD_eq_getElem?_getD, h9]
            rfl
          rw [od, od] at hne
          exact fun z => hne z.symm
        have hnew := comes_new dA xo' hne'
        obtain ⟨as, hp6, has⟩ := (hRx.mono s46).ex
        have ra := rok _ hmem
        generalize hr0 : (Sm08.rowsOf st.w st.k).getD i [] = r0 at *
        obtain ⟨ai, hai, hat⟩ : ∃ ai, as[i]? = some ai ∧ TupH H6 ai r0 := by
          have : i < as.length := by
            have h1 : as.length = _ := has.length
            omega
          obtain ⟨row, h1, h2⟩ := paired_get has (List.getElem?_eq_getElem this)
          rw [hrow] at h1
          obtain rfl := Option.some.inj h1
          exact ⟨_, List.getElem?_eq_getElem this, h2⟩
        have key : (keyOf r0).map kV = iv r0 := key_iv r0
        have hv : valV (exK xs) (keyOf r0) = none := by
          rw [exK_val, List.find?_eq_none.mpr (fun y hy => by simpa using hnew y hy)]
          rfl
        refine ⟨_, rfl, _, rfl, pw, _, (i : Int), .int (Sm08.eval st.w r0 st.wish : Int), rfl, rfl, SqT.new (s46 _ _ hpwx), atI_nat (by rw [iv, List.getElem?_map, ow]; rfl), ?_⟩
        refine ⟨_, rfl, L, CN, dx', _, _, rfl, s46 _ _ f1, T.cl, T.nE, nF_examples .., _, rfl, _, rfl, p, _, (i : Int), .ref ai, rfl, rfl, SqL.new hp6, atI_nat (by rw [List.getElem?_map, hai]; rfl), ex', _, rfl, DPut.t (k := keyOf r0) (s46 _ _ f4') (by rw [key]; exact hat) (by rw [lxs]; exact small_lt (by omega)), ?_⟩
        rw [putK_new _ hv]
        have exx : exK xs ++ [(keyOf r0, V.int (Sm08.eval st.w r0 st.wish : Int))] = exK (xs ++ [(r0, Sm08.eval st.w r0 st.wish)]) := by simp [exK]
        rw [exx]
        have keep : ∀ b o, b ≠ ex' → H6 b = some o → upd H6 ex' (.dT (exK (xs ++ [(r0, Sm08.eval st.w r0 st.wish)]))) b = some o := fun b o hb e => by rw [upd_ne hb]; exact e
        have nx : ∀ {b o}, (∀ kvs, o ≠ .dT kvs) → H6 b = some o → b ≠ ex' := fun ho e z => by
          rw [z, s46 _ _ f4'] at e
          exact ho _ (Option.some.inj e).symm
        have lapp : (xs ++ [(r0, Sm08.eval st.w r0 st.wish)]).length = xs.length + 1 := by simp
        refine ⟨8 - (xs.length + 1), by omega, some (.ref pt), _, _, xs ++ [(r0, Sm08.eval st.w r0 st.wish)], rfl, by rw [lapp], by omega, by omega, ?_, ?_, ?_, ?_, ?_, ?_, ?_⟩
        · refine ⟨hSx.wd, hSx.k1, hSx.lg, hSx.wf, hSx.wl, ?_, by show (xs ++ [(r0, Sm08.eval st.w r0 st.wish)]).length ≤ 8; omega, ?_⟩
          · intro y hy
            rcases List.mem_append.mp hy with hy | hy
            · exact hSx.ex y hy
            · simp at hy
              subst hy
              have wf := hS.wf
              simp [fine] at wf
              exact ⟨ra, eval_lt hS.wd.w1 hS.wd.w4 ra st.wish wf.2⟩
          · show ((xs ++ [(r0, Sm08.eval st.w r0 st.wish)]).map (·.1)).Nodup
            rw [List.map_append, List.nodup_append]
            refine ⟨hSx.ed, by simp, fun a ha b hb z => ?_⟩
            simp at hb
            obtain ⟨y, hy, rfl⟩ := List.mem_map.mp ha
            exact hnew y hy (z.trans hb)
        · intro y hy
          rcases List.mem_append.mp hy with hy | hy
          · exact dA y hy
          · simp at hy
            subst hy
            rfl
        · refine fr.trans ((Fr.same s46).trans fun b o hb ho e => keep b o (nx ho e) e)
        · refine ⟨dx', lg', wi', ex', keep _ _ (nx (by intro _ z; cases z) (s46 _ _ f1)) (s46 _ _ f1), ⟨dL', an', ap', ?_, ?_, ?_⟩, ?_, upd_same⟩
          · exact keep _ _ (nx (by intro _ z; cases z) (s46 _ _ k1)) (s46 _ _ k1)
          · exact keep _ _ (nx (by intro _ z; cases z) (s46 _ _ k2)) (s46 _ _ k2)
          · exact keep _ _ (nx (by intro _ z; cases z) (s46 _ _ k3)) (s46 _ _ k3)
          · exact keep _ _ (nx (by intro _ z; cases z) (s46 _ _ f3)) (s46 _ _ f3)
        · exact ⟨as, keep _ _ (nx (by intro _ z; cases z) hp6) hp6, paired_imp has fun b row _ e => by
            have e' : H6 b = _ := e
            exact keep _ _ (nx (by intro _ z; cases z) e') e'⟩
        · exact keep _ _ (nx (by intro _ z; cases z) (s46 _ _ hpwx)) (s46 _ _ hpwx)
        · rw [← elearn, lapp]
          have e8 : 8 - xs.length = 8 - (xs.length + 1) + 1 := by omega
          have e9 : xs.length + 1 - st.examples.length = xs.length - st.examples.length + 1 := by omega
          rw [e8, e9, learn_more e edf']
end
end LT
set_option Elab.async false
set_option maxRecDepth 100000
set_option maxHeartbeats 2000000
set_option linter.unusedSimpArgs false
set_option linter.unusedVariables false
namespace LT
open PySem PySem.Spec PyProof.Rows L2
/-! ### Line.find_best, check -/
theorem noA {lg wi ex : Addr} {m : Str} (h1 : (m == ("language" : Str)) = false) (h2 : (m == ("wish" : Str)) = false) (h3 : (m == ("examples" : Str)) = false) : (nF lg wi ex).lookup m = none := (lk_past h1).trans ((lk_past h2).trans ((lk_past h3).trans rfl))
theorem StOk.askAll {s : Sm08.St} (h : StOk s) : Ask s.w s.k s.lang (Sm08.rowsOf s.w s.k) := by
  have := rowsOf_small h.wd.w4 h.wd.k2
  exact ⟨h.wd, h.lg, rowsOf_ok s.w s.k, by omega⟩
def bestC (s : Sm08.St) (m : Nat) : Option (Nat × List Nat) := (Sm08.best s.w s.k s.lang s.wish m).map fun x => (x.1, Sm08.code x.2)
theorem bestC_first {s : Sm08.St} (h : StOk s) (m : Nat) : bestC s m = firstFrom (lvM s.w s.k s.lang (Sm08.rowsOf s.w s.k)) (outs s.w (Sm08.rowsOf s.w s.k) s.wish) 1 m :=
  search_first h.wd.k2 (fun x hx => (h.lg.os x hx).1) _ m
def spBest (CN CL : Addr) : Sp := fun vs H Q _ => ∃ (L : Addr) (s : Sm08.St) (m : Nat), spStep CN CL vs H Q L s (.best m) [.int (m : Int)]
abbrev sBest : Stmt := inClass (top 48) 9
theorem scBest : FnScope ["self", "most", "rows"] ["self", "most"] (defScope sBest) := ⟨rfl, rfl, rfl, by decide +kernel, rfl, by decide +kernel, by decide +kernel⟩
def spCheck (CN CL : Addr) : Sp := fun vs H Q _ => ∃ (L a : Addr) (s : Sm08.St) (l : List Nat), spStep CN CL vs H Q L s (.check l) [.ref a] ∧ H a = some (.lst (iv l))
abbrev sCheck : Stmt := inClass (top 48) 10
theorem scCheck : FnScope ["self", "term", "rows", "place"] ["self", "term"] (defScope sCheck) := ⟨rfl, rfl, rfl, by decide +kernel, rfl, by decide +kernel, by decide +kernel⟩
section
variable {P : Program} {wd : World} {K : PySem.W.Frag} {mg : Str → Option Value} {base : Heap} {CN CL : Addr}
theorem ok_best {f fE fO : Addr} {fd fdE fdO : FuncData} (F : Fun K "find_best" "Line.find_best" sBest f fd) (T : NCls K CN) (h5 : GInt mg "MOST_COST" 5) (hm1 : GInt mg "NOT_GRANTED" (-1))
    (FE : FnOk P wd K mg base CX0 2 fE fdE ["self"] (spEvery CN CL)) (bE : Binds K fdE ["self"] []) (mE : Meth K CN "every_row" fE)
    (FO : FnOk P wd K mg base CX0 4 fO fdO ["self", "term", "rows"] (spOuts K CN CL)) (bO : Binds K fdO ["self", "term", "rows"] []) (mO : Meth K CN "outcomes" fO)
    (GF : CalN P wd K mg base 7 "first_term" ["language", "rows", "wanted", "most"] (spFirst K CL)) (GT : CalN P wd K mg base 2 "found_or_none" ["found"] (spFound K)) : FnOk P wd K mg base CX0 8 f fd ["self", "most"] (spBest CN CL) := by
  refine F.ok scBest (fun vs H Q E h => ?_) (fun cdv A outer s H vs Q E hr h => ?_)
  · obtain ⟨L, s, m, rfl, _⟩ := h
    rfl
  · obtain ⟨L, st, m, rfl, hL, hS, q⟩ := h
    obtain ⟨t5, g5⟩ := h5
    obtain ⟨t1, g1⟩ := hm1
    obtain ⟨fT, gT, ⟨fdT, FT, bT, kT⟩⟩ := GT.ex
    obtain ⟨fF, gF, ⟨fdF, FF, bF, kF⟩⟩ := GF.ex
    have hr2 : Room 2 _ := hr.mono (by decide)
    have hr4 : Room 4 _ := hr.mono (by decide)
    refine ⟨_, pss_cons (ps_if (pt_cmpR op_gt (pv 1) (pe_glob (v := .int 5) rfl g5 ⟨_, rfl⟩) (nomark _)) (pss_one (ps_ret (pe_lst (pa_cons (pe_glob (v := .int (-1)) rfl g1 ⟨_, rfl⟩) pa_nil)))) pss_nil)
      (pss_cons (ps_set (i := 2) scBest.nd rfl (Or.inl rfl) (pe_meth0 (pv 0) T.cl mE FE hr2 bE .nil pass0))
      (pss_one (ps_ret (pe_call FT hr2 rfl gT kT bT .nil pass0 (pa_cons (pe_call FF hr rfl gF kF bF .nil pass0 (pa_cons (pe_fld (pv 0) rfl) (pa_cons (pv 2) (pa_cons (pe_meth (pv 0) T.cl mO FO hr4 bO .nil pass0 (pa_cons (pe_fld (pv 0) rfl) (pa_cons (pv 2) pa_nil))) (pa_cons (pv 1) pa_nil))))) pa_nil))))), ?_⟩
    obtain ⟨dx, lg, wi, ex, e1, e2, e3, e4⟩ := hL.ex
    refine ⟨_, rfl, _, _, rfl, rfl, _, rfl, ?_⟩
    by_cases c1 : m ≤ 5
    case neg =>
      refine ifT (decide_eq_true (by omega)) ?_
      have es : Sm08.step st (.best m) = (st, [-1]) := by
        simp only [Sm08.step]
        rw [if_pos (show Sm08.MOST < m by unfold Sm08.MOST; omega)]
      rw [es] at q
      exact ⟨by show 1 ≤ sizeLine; decide, fun r hr' => q _ r (Fr.same (same_upd hr')) (hL.mono (same_upd hr')) upd_same (fresh_of hL (fun _ _ _ _ e => e) hr')⟩
    refine ifF (decide_eq_false (by omega)) ?_
    have wl := hS.wl
    have rlen := rowsOf_small hS.wd.w4 hS.wd.k2
    have rok := rowsOf_ok st.w st.k
    refine ⟨_, rfl, L, dx, _, rfl, e1, noA (by decide +kernel) (by decide +kernel) (by decide +kernel), ?_⟩
    refine ⟨L, st, rfl, hL, hS.wd.w4, hS.wd.k2, fun H1 p s1 hR => ?_⟩
    refine ⟨_, rfl, L, CN, dx, _, _, rfl, s1 _ _ e1, T.cl, T.nL, nF_language .., _, rfl, _, rfl, L, dx, _, rfl, s1 _ _ e1, noA (by decide +kernel) (by decide +kernel) (by decide +kernel), _, rfl, L, CN, dx, _, _, rfl, s1 _ _ e1, T.cl, T.nW, nF_wish .., _, rfl, ?_⟩
    refine ⟨L, wi, p, st, st.wish, Sm08.rowsOf st.w st.k, rfl, hL.mono s1, hS, SqL.new (s1 _ _ e3), hS.wf, hR.at.any, rok, by omega, by omega, fun H2 pw s2 hpw => ?_⟩
    have s12 := s1.trans s2
    refine ⟨_, rfl, lg, p, pw, m, st.w, st.k, st.lang, Sm08.rowsOf st.w st.k, outs st.w (Sm08.rowsOf st.w st.k) st.wish, rfl, e2.mono s12, (hR.mono s2).at, (hR.mono s2).some, hpw, hS.askAll, c1, ?_⟩
    rw [← bestC_first hS]
    have es : Sm08.step st (.best m) = (st, match Sm08.best st.w st.k st.lang st.wish m with
      | none => [0]
      | some x => 1 :: Sm08.toldTerm x) := by
      simp only [Sm08.step]
      rw [if_neg (show ¬ Sm08.MOST < m by unfold Sm08.MOST; omega)]
      rfl
    cases e : Sm08.best st.w st.k st.lang st.wish m with
    | none =>
      have ec : bestC st m = none := by rw [bestC, e]; rfl
      rw [ec]
      rw [e] at es
      rw [es] at q
      intro H3 s3
      have s13 := s12.trans s3
      refine ⟨.non, none, rfl, rfl, fun H4 r s4 fr hr4 => ?_⟩
      exact q _ r (Fr.same (s13.trans s4)) (hL.mono (s13.trans s4)) hr4 (fresh_of hL (Fr.same s13) fr)
    | some x =>
      have ec : bestC st m = some (x.1, Sm08.code x.2) := by rw [bestC, e]; rfl
      rw [ec]
      rw [e] at es
      rw [es] at q
      intro H3 p3 b3 s3 hp3 hb3
      have s13 := s12.trans s3
      have lx := (search_ok hS.askAll e).2.1
      refine ⟨.ref p3, some (x.1, Sm08.code x.2), rfl, ⟨p3, b3, rfl, hp3, hb3, by omega⟩, fun H4 r s4 fr hr4 => ?_⟩
      refine q _ r (Fr.same (s13.trans s4)) (hL.mono (s13.trans s4)) ?_ (fresh_of hL (Fr.same s13) fr)
      rw [hr4, found_told]
theorem ok_check {f fE fO fT : Addr} {fd fdE fdO fdT : FuncData} (F : Fun K "check" "Line.check" sCheck f fd) (T : NCls K CN) (ml : mg "list" = none) (hm1 : GInt mg "NOT_GRANTED" (-1))
    (FT : FnOk P wd K mg base CX0 3 fT fdT ["self", "term"] (spGrant K CN CL)) (bT : Binds K fdT ["self", "term"] []) (mT : Meth K CN "is_granted" fT)
    (FE : FnOk P wd K mg base CX0 2 fE fdE ["self"] (spEvery CN CL)) (bE : Binds K fdE ["self"] []) (mE : Meth K CN "every_row" fE)
    (FO : FnOk P wd K mg base CX0 4 fO fdO ["self", "term", "rows"] (spOuts K CN CL)) (bO : Binds K fdO ["self", "term", "rows"] []) (mO : Meth K CN "outcomes" fO)
    (GF : CalN P wd K mg base 1 "first_difference" ["ones", "others"] spDiff) : FnOk P wd K mg base CX0 5 f fd ["self", "term"] (spCheck CN CL) := by
  refine F.ok scCheck (fun vs H Q E h => ?_) (fun cdv A outer s H vs Q E hr h => ?_)
  · obtain ⟨L, a, s, l, ⟨rfl, _⟩, _⟩ := h
    rfl
  · obtain ⟨L, a, st, l, ⟨rfl, hL, hS, q⟩, ha⟩ := h
    obtain ⟨t1, g1⟩ := hm1
    obtain ⟨fF, gF, ⟨fdF, FF, bF, kF⟩⟩ := GF.ex
    have hr1 : Room 1 _ := hr.mono (by decide)
    have hr2 : Room 2 _ := hr.mono (by decide)
    have hr3 : Room 3 _ := hr.mono (by decide)
    refine ⟨_, pss_cons (ps_if (pt_not (pt_val (pe_meth (pv 0) T.cl mT FT hr3 bT .nil pass0 (pa_cons (pv 1) pa_nil)))) (pss_one (ps_ret (pe_lst (pa_cons (pe_glob (v := .int (-1)) rfl g1 ⟨_, rfl⟩) pa_nil)))) pss_nil)
      (pss_cons (ps_set (i := 2) scCheck.nd rfl (Or.inl rfl) (pe_meth0 (pv 0) T.cl mE FE hr2 bE .nil pass0))
      (pss_cons (ps_set (i := 3) scCheck.nd rfl (Or.inl rfl) (pe_call FF hr1 rfl gF kF bF .nil pass0 (pa_cons (pe_meth (pv 0) T.cl mO FO hr bO .nil pass0 (pa_cons (pe_fld (pv 0) rfl) (pa_cons (pv 2) pa_nil))) (pa_cons (pe_meth (pv 0) T.cl mO FO hr bO .nil pass0 (pa_cons (pv 1) (pa_cons (pv 2) pa_nil))) pa_nil))))
      (pss_one (ps_ret (pe_ifExp (pt_cmp (pc_isN (pv 3))) (pe_lst (pa_cons pe_int pa_nil)) (pe_op op_cat (pe_lst (pa_cons pe_int pa_nil)) (pe_callTy call_list_of (by rfl) ml (by decide +kernel) (pa_cons (pe_ix ix_list (pv 2) (pv 3) (fun _ _ => rfl)) pa_nil)))))))), ?_⟩
    obtain ⟨dx, lg, wi, ex, e1, e2, e3, e4⟩ := hL.ex
    refine ⟨_, rfl, L, dx, _, rfl, e1, noA (by decide +kernel) (by decide +kernel) (by decide +kernel), _, rfl, ?_⟩
    refine ⟨L, a, st, l, rfl, hL, SqL.new ha, _, rfl, ?_⟩
    have hsc := scan_termOf hS.wd.w4 hS.wd.k2 l
    by_cases c1 : l.length ≤ 24
    case neg =>
      refine ifT (by simp [isTerm, c1]) ?_
      have es : Sm08.step st (.check l) = (st, [-1]) := by
        simp only [Sm08.step]
        rw [if_pos (by omega)]
      rw [es] at q
      exact ⟨by show 1 ≤ sizeLine; decide, fun r hr' => q _ r (Fr.same (same_upd hr')) (hL.mono (same_upd hr')) upd_same (fresh_of hL (fun _ _ _ _ e => e) hr')⟩
    have es : Sm08.step st (.check l) = (st, match Sm08.termOf st.w st.k l with
      | none => [-1]
      | some t => match Sm08.differ st.w st.k t st.wish with
        | none => [1]
        | some r => 0 :: Sm08.ints r) := by
      simp only [Sm08.step]
      rw [if_neg (by omega)]
      rfl
    cases et : Sm08.termOf st.w st.k l with
    | none =>
      rw [et] at hsc es
      refine ifT (by simp [isTerm, hsc]) ?_
      rw [es] at q
      exact ⟨by show 1 ≤ sizeLine; decide, fun r hr' => q _ r (Fr.same (same_upd hr')) (hL.mono (same_upd hr')) upd_same (fresh_of hL (fun _ _ _ _ e => e) hr')⟩
    | some t =>
      rw [et] at hsc es
      refine ifF (by simp [isTerm, hsc, c1]) ?_
      obtain ⟨hlc, hg, hf⟩ := termOf_code et
      have es' : Sm08.step st (.check l) = (st, match Sm08.differ st.w st.k t st.wish with
        | none => [1]
        | some r => 0 :: Sm08.ints r) := es
      rw [es'] at q
      have tf : fine st.w st.k t = true := by simp [fine, hg, hf]
      have wl := hS.wl
      have rlen := rowsOf_small hS.wd.w4 hS.wd.k2
      have rok := rowsOf_ok st.w st.k
      refine ⟨_, rfl, L, dx, _, rfl, e1, noA (by decide +kernel) (by decide +kernel) (by decide +kernel), ?_⟩
      refine ⟨L, st, rfl, hL, hS.wd.w4, hS.wd.k2, fun H1 p s1 hR => ?_⟩
      refine ⟨_, rfl, L, dx, _, rfl, s1 _ _ e1, noA (by decide +kernel) (by decide +kernel) (by decide +kernel), _, rfl, L, CN, dx, _, _, rfl, s1 _ _ e1, T.cl, T.nW, nF_wish .., _, rfl, ?_⟩
      refine ⟨L, wi, p, st, st.wish, Sm08.rowsOf st.w st.k, rfl, hL.mono s1, hS, SqL.new (s1 _ _ e3), hS.wf, hR.at.any, rok, by omega, by omega, fun H2 pw s2 hpw => ?_⟩
      have s12 := s1.trans s2
      refine ⟨_, rfl, L, dx, _, rfl, s12 _ _ e1, noA (by decide +kernel) (by decide +kernel) (by decide +kernel), _, rfl, _, rfl, ?_⟩
      refine ⟨L, a, p, st, t, Sm08.rowsOf st.w st.k, rfl, hL.mono s12, hS, by rw [← hlc]; exact SqL.new (s12 _ _ ha), tf, (hR.mono s2).at.any, rok, by omega, by rw [← hlc]; omega, fun H3 pt s3 hpt => ?_⟩
      have s13 := s12.trans s3
      refine ⟨pw, pt, _, _, rfl, s3 _ _ hpw, hpt, by simp [outs], by simp [outs]; omega, fun H4 s4 => ?_⟩
      have s14 := s13.trans s4
      have edf := differ_fst st.w st.k t st.wish
      cases ed : fstDiff (outs st.w (Sm08.rowsOf st.w st.k) st.wish) (outs st.w (Sm08.rowsOf st.w st.k) t) with
      | none =>
        rw [ed] at edf
        have edf' : Sm08.differ st.w st.k t st.wish = none := edf
        rw [edf'] at q
        refine ⟨_, rfl, _, rfl, ?_⟩
        refine ifT rfl ?_
        exact ⟨by show 1 ≤ sizeLine; decide, fun r hr' => q _ r (Fr.same (s14.trans (same_upd hr'))) (hL.mono (s14.trans (same_upd hr'))) upd_same (fresh_of hL (Fr.same s14) hr')⟩
      | some i =>
        rw [ed] at edf
        have edf' : Sm08.differ st.w st.k t st.wish = some ((Sm08.rowsOf st.w st.k).getD i []) := edf
        rw [edf'] at q
        obtain ⟨hi, _⟩ := fst_some ed
        have hi' : i < (Sm08.rowsOf st.w st.k).length := by simpa [outs] using hi
        have hrow : (Sm08.rowsOf st.w st.k)[i]? = some ((Sm08.rowsOf st.w st.k).getD i []) := by
          rw [List.getD_eq_getElem?_getD, List.getElem?_eq_getElem hi']
          rfl
        have lrow := (rok _ (List.mem_of_getElem? hrow)).1
        have k2 := hS.wd.k2
        generalize (Sm08.rowsOf st.w st.k).getD i [] = r0 at *
        refine ⟨_, rfl, _, rfl, ?_⟩
        refine ifF rfl ?_
        refine ⟨by show 1 ≤ sizeLine; decide, fun r1 hr1' => ?_⟩
        have s15 := s14.trans (same_upd (o := .lst [.int 0]) hr1')
        obtain ⟨as, hp5, has⟩ := (hR.mono (s2.trans (s3.trans (s4.trans (same_upd (o := .lst [.int 0]) hr1'))))).ex
        obtain ⟨ai, hai, hat⟩ : ∃ ai, as[i]? = some ai ∧ TupH (upd H4 r1 (.lst [.int 0])) ai r0 := by
          have : i < as.length := by
            have h1 : as.length = _ := has.length
            omega
          obtain ⟨row, h1, h2⟩ := paired_get has (List.getElem?_eq_getElem this)
          rw [hrow] at h1
          obtain rfl := Option.some.inj h1
          exact ⟨_, List.getElem?_eq_getElem this, h2⟩
        refine ⟨_, rfl, _, rfl, p, _, (i : Int), .ref ai, rfl, rfl, SqL.new hp5, atI_nat (by rw [List.getElem?_map, hai]; rfl), ai, _, rfl, .inr (SqT.new hat), fun r2 hr2' => ?_⟩
        have s16 := s15.trans (same_upd (o := .lst (iv r0)) hr2')
        refine ⟨r1, r2, _, _, rfl, rfl, same_upd hr2' _ _ upd_same, upd_same, ?_, fun r hr' => ?_⟩
        · rw [iv_len, lrow]
          exact small_line (by simp; omega)
        · refine q _ r (Fr.same (s16.trans (same_upd hr'))) (hL.mono (s16.trans (same_upd hr'))) ?_ (fresh_of hL (Fr.same s16) hr')
          rw [upd_same]
          simp [ansV, iv, Sm08.ints]
end
end LT
set_option Elab.async false
set_option maxRecDepth 100000
set_option maxHeartbeats 2000000
set_option linter.unusedSimpArgs false
set_option linter.unusedVariables false
namespace LT
open PySem PySem.Spec PyProof.Rows L2
/-! ### d[i] of a dict that the top has written, its keys whole numbers -/
def KeysInt (l : List DictEntry) : Prop := ∀ e ∈ l, ∃ i t, e.key = .int i t ∧ e.hash = hashInt i
def KDctI (K : PySem.W.Frag) (a : Addr) (i : Int) (v : V) : Prop := ∃ es n u, K.lookup a = some ⟨.type "dict", none, .dict es n, #[]⟩ ∧ KeysInt es.toList ∧ findBy Value.isInt es i = some u ∧ RelV v u
def rIxDI (K : PySem.W.Frag) : R2 := fun x y H Q => ∃ p i v, x = .ref p ∧ y = .int i ∧ KDctI K p i v ∧ Q v H
theorem mapInt_K {prog : Program} {w : World} {K : PySem.W.Frag} {h : Heap} {a : Addr} {es : Array DictEntry} {n : Nat} (X : K.In h) (hl : K.lookup a = some ⟨.type "dict", none, .dict es n, #[]⟩) (hk : KeysInt es.toList) : h.MapOf (intKind prog w) a (fun k => findBy Value.isInt es k) :=
  ⟨_, es, n, X _ _ hl, ⟨rfl, rfl, rfl⟩, rfl, fun e he => by
    obtain ⟨i, t, e1, e2⟩ := hk e (Array.mem_toList_iff.mpr he)
    exact ⟨i, by rw [e1]; exact intKind_is prog w i t, e2⟩, fun _ => rfl⟩
section
variable {X : Cx}
theorem ix_kdictI : IxR X (rIxDI X.K) := by
  intro value slice pins s σ H x y v u Q I rx ry h hs
  obtain ⟨p, i, r, rfl, rfl, ⟨es, n, u0, hl, hk, e, ru⟩, q⟩ := h
  obtain rfl : v = Value.ref p := rx
  obtain ⟨t, rfl⟩ := ry
  have hm := mapInt_K (prog := X.prog) (w := X.w) I.kIn hl hk
  exact tail_any hm.typeIs slot_dict_getitem.lookup (wpAny_getItem_of (intKind_is X.prog X.w i t) hm e ⟨r, H, I.tok _, ru, q⟩) hs
end
end LT
set_option Elab.async false
set_option maxRecDepth 100000
set_option maxHeartbeats 4000000
set_option linter.unusedSimpArgs false
set_option linter.unusedVariables false
namespace LT
open PySem PySem.Spec PyProof.Rows L2
open PySem.W (KdxIt)
/-! ### d.items() of a dict whose keys are tuples, the target two names -/
theorem turn_itemsTT {P : Program} {w : World} {K : PySem.W.Frag} {elts : List Expr} {kk : Nat} {tpos : Pos} {d : Addr} {o : Obj} {es : Array DictEntry} {ep : Nat} {kvs : List (List Key × V)} (it : Addr) (hod : o.data = .dict es ep) :
    Turn P w K (.Tuple elts kk tpos) (ItiTN d o kvs) [it] it (fun i h => ∃ ok ov, IsItemIter h it d i kvs.length ep ok ov) where
  mem := by simp
  obj := fun i h st b hb => by
    have e : b = it := by simpa using hb
    subst e
    obtain ⟨ok, ov, e⟩ := st
    exact ⟨_, e, fun v z => nomatch z⟩
  keep := fun i h h' st k => let ⟨ok, ov, e⟩ := st; ⟨ok, ov, k it (by simp) _ e⟩
  item := by
    intro X hP hw hK hc i pins s σ H E I hf st hg
    subst hP hw hK
    obtain ⟨hd, hi⟩ := hg
    obtain ⟨hs, es', ep', hr, hdt, hsz, ent⟩ := frz_entries I hd
    obtain ⟨rfl, rfl⟩ := dict_ep hod hdt
    obtain ⟨⟨k, v⟩, hkv⟩ : ∃ p, kvs[i]? = some p := ⟨kvs[i], List.getElem?_eq_getElem hi⟩
    obtain ⟨hie, q, hkey, hq, rv⟩ := ent i k v hkv
    obtain ⟨ok, ov, e⟩ := st
    rw [← hsz] at e
    have hlt : it < s.heap.objs.size := Heap.lt_size e
    refine wpAny_pyNext_items_item_raw e hr hie fun h' ho hT _ hk => ?_
    refine ⟨_, rfl, wpAny_letOwnedTupleGo_items (s := { s with heap := h' }) ho fun h'' he' sb => ?_⟩
    have hT2 : h''.get? s.heap.objs.size = some { cls := .type "tuple", data := .seq #[es'[i].key, es'[i].val] } := (sb.2 _ (Nat.ne_of_gt hlt)).trans hT
    have new : ObjOk X.prog X.w (upd H s.heap.objs.size (.tup [.ref q, v])) h'' s.heap.objs.size (.tup [.ref q, v]) :=
      ⟨by show 2 ≤ sizeLine; decide, [es'[i].key, es'[i].val], .cons hkey (.cons rv .nil), ⟨_, hT2, rfl, _, rfl⟩⟩
    have I1 : Inv X pins σ (upd H s.heap.objs.size (.tup [.ref q, v])) { s with heap := h'' } :=
      I.turnedNew (t' := s.toks) (ch := [it]) (fun b ob hb e => (sb.2 b (by simpa using hb)).trans (hk b ob (by simpa using hb) e)) hf (Nat.le_refl _) new
    refine ⟨.ref s.heap.objs.size, _, I1, rfl, ⟨_, q, k, v, hkv, rfl, I.hok.fresh (Nat.le_refl _), hq, rfl⟩, ⟨es'[i].key, es'[i].val, ?_⟩, fun b hb => ?_⟩
    · rw [← hsz]; exact he'
    · have e : b = it := by simpa using hb
      rw [e, upd_ne (Nat.ne_of_lt hlt)]
      exact (hf it (by simp)).1
  done := by
    intro X hP hw hK hc i pins s σ H E I hf st hg
    subst hP hw hK
    obtain ⟨hd, hi⟩ := hg
    obtain ⟨f0, f1, f2, f3, f4, f5⟩ := hf it (by simp)
    obtain ⟨hs, es', ep', hr, hdt, hsz, ent⟩ := frz_entries I hd
    obtain ⟨rfl, rfl⟩ := dict_ep hod hdt
    obtain ⟨ok, ov, e⟩ := st
    rw [← hsz] at e
    exact wpAny_pyNext_items_end_raw (I.ok.hd hc) e hr (by omega) fun h' eb => ⟨rfl, I.turned (t' := s.toks) (fun b ob hb z => eb b ob hb z) f0 f1 f3 f4 f5⟩
  self := fun A i s Q E st h => let ⟨_, _, e⟩ := st; PySem.W.kcp_self e h
section
variable {X : Cx}
theorem pi_itemsTT {e : Expr} {td : TE} {elts : List Expr} {kk : Nat} {tpos apos cpos : Pos} (he : PE X e td) (hbase : attributeBase e "items" X.env (eval e X.env) = eval e X.env := by rfl) (hline : (apos.endLine == cpos.line) = true := by rfl) :
    PI X (.Tuple elts kk tpos) (.Call (.Attribute e "items" apos) [] [] cpos) (iItemsTN td) := by
  refine ⟨fun pins s σ H R I h => ?_⟩
  refine wpAny_Call_method (T := "dict") (id := "dict.items") hbase rfl hline F.plainAttrs_dict F.slot_dict_items F.type_dict_items (thn (he.run pins s σ H _ I h) fun u s1 ⟨y, Ha, Ia, rx, d, o, kvs, ex, hd, q⟩ => ?_)
  subst ex
  obtain rfl : u = Value.ref d := rx
  obtain ⟨hs, es, ep, hr, hdt, hsz, ent⟩ := frz_entries Ia hd
  obtain ⟨oo, hoo, hex, _⟩ := id hr
  refine ⟨hr.typeIs, fun b eb => by cases eb; exact ⟨oo, hoo, hex.2.1⟩, ?_⟩
  have Ib : Inv X pins σ Ha { s1 with heap := s1.heap.push { cls := .type "dict_items", data := .fields #[.ref d] } } := Ia.kept (t' := s1.toks) fun b ob q => Heap.get?_push_of_some _ q
  have fin : wpAny (model X.prog X.w) X.A (pyIter (.ref s1.heap.objs.size)) (PIE X pins σ (.Tuple elts kk tpos) R) X.xe { s1 with heap := s1.heap.push { cls := .type "dict_items", data := .fields #[.ref d] } } := by
    refine wpAny_pyIter_items_raw (d := d) (es := es) (ep := ep) ⟨_, Heap.get?_push_size _ rfl, rfl, rfl⟩ (hr.at fun o e => Heap.get?_push_of_some _ e) (pi_one (tk := s1.toks) Ib _ (turn_itemsTT _ hdt) ⟨.none, .none, ?_⟩ q)
    rw [← hsz]
    exact Heap.get?_push_size _ rfl
  show wpAny _ _ (callWith cpos (.builtin "dict.items") [.ref d] [] []) _ X.xe s1
  exact method_meetsIn F.slot_dict_items F.entry_dict_items rfl (PySem.evalArgs_none ⟨rfl, hr.typeIs, F.args_dict_items_1 _, _, meets_dict_items_raw d hs, ⟨es, ep, hr⟩, fin⟩)
end
end LT
set_option Elab.async false
set_option maxRecDepth 100000
set_option maxHeartbeats 2000000
set_option linter.unusedSimpArgs false
set_option linter.unusedVariables false
namespace LT
open PySem PySem.Spec PyProof.Rows L2
/-! ### Line.count_classes, tell_cost, tell_value, show_examples -/
def spClasses (CN CL : Addr) : Sp := fun vs H Q _ => ∃ (L : Addr) (s : Sm08.St) (m : Nat), spStep CN CL vs H Q L s (.classes m) [.int (m : Int)]
abbrev sClasses : Stmt := inClass (top 48) 11
theorem scClasses : FnScope ["self", "most"] ["self", "most"] (defScope sClasses) := ⟨rfl, rfl, rfl, by decide +kernel, rfl, by decide +kernel, by decide +kernel⟩
def spTellCost (CN CL : Addr) : Sp := fun vs H Q _ => ∃ (L a : Addr) (s : Sm08.St) (l : List Nat), spStep CN CL vs H Q L s (.cost l) [.ref a] ∧ H a = some (.lst (iv l))
abbrev sTellCost : Stmt := inClass (top 48) 12
theorem scTellCost : FnScope ["self", "term", "cost"] ["self", "term"] (defScope sTellCost) := ⟨rfl, rfl, rfl, by decide +kernel, rfl, by decide +kernel, by decide +kernel⟩
def spValue (CN CL : Addr) : Sp := fun vs H Q _ => ∃ (L a b : Addr) (s : Sm08.St) (i l : List Nat), spStep CN CL vs H Q L s (.value i l) [.ref a, .ref b] ∧ H a = some (.lst (iv i)) ∧ H b = some (.lst (iv l))
abbrev sValue : Stmt := inClass (top 48) 13
theorem scValue : FnScope ["self", "inputs", "term"] ["self", "inputs", "term"] (defScope sValue) := ⟨rfl, rfl, rfl, by decide +kernel, rfl, by decide +kernel, by decide +kernel⟩
def spShow (CN CL : Addr) : Sp := fun vs H Q _ => ∃ (L : Addr) (s : Sm08.St), spStep CN CL vs H Q L s .shows []
abbrev sShow : Stmt := inClass (top 48) 14
theorem scShow : FnScope ["self", "shown", "row", "out"] ["self"] (defScope sShow) := ⟨rfl, rfl, rfl, by decide +kernel, rfl, by decide +kernel, by decide +kernel⟩
section
variable {P : Program} {wd : World} {K : PySem.W.Frag} {mg : Str → Option Value} {base : Heap} {CN CL : Addr}
theorem ok_classes {f : Addr} {fd : FuncData} (F : Fun K "count_classes" "Line.count_classes" sClasses f fd) (T : NCls K CN) (ml : mg "list" = none) (h5 : GInt mg "MOST_COST" 5) (hm1 : GInt mg "NOT_GRANTED" (-1))
    (GC : CalN P wd K mg base 7 "count_things" ["language", "rows", "most"] (spThings K CL)) : FnOk P wd K mg base CX0 8 f fd ["self", "most"] (spClasses CN CL) := by
  refine F.ok scClasses (fun vs H Q E h => ?_) (fun cdv A outer s H vs Q E hr h => ?_)
  · obtain ⟨L, s, m, rfl, _⟩ := h
    rfl
  · obtain ⟨L, st, m, rfl, hL, hS, q⟩ := h
    obtain ⟨t5, g5⟩ := h5
    obtain ⟨t1, g1⟩ := hm1
    obtain ⟨fC, gC, ⟨fdC, FC, bC, kC⟩⟩ := GC.ex
    refine ⟨_, pss_cons (ps_if (pt_cmpR op_gt (pv 1) (pe_glob (v := .int 5) rfl g5 ⟨_, rfl⟩) (nomark _)) (pss_one (ps_ret (pe_lst (pa_cons (pe_glob (v := .int (-1)) rfl g1 ⟨_, rfl⟩) pa_nil)))) pss_nil)
      (pss_one (ps_ret (pe_op op_cat (pe_lst (pa_cons (pv 1) pa_nil)) (pe_call FC hr rfl gC kC bC .nil pass0 (pa_cons (pe_fld (pv 0) rfl) (pa_cons (pe_callTy (call_list_dT rfl) (by rfl) ml (by decide +kernel) (pa_cons (pe_fld (pv 0) rfl) pa_nil)) (pa_cons (pv 1) pa_nil))))))), ?_⟩
    obtain ⟨dx, lg, wi, ex, e1, e2, e3, e4⟩ := hL.ex
    refine ⟨_, rfl, _, _, rfl, rfl, _, rfl, ?_⟩
    by_cases c1 : m ≤ 5
    case neg =>
      refine ifT (decide_eq_true (by omega)) ?_
      have es : Sm08.step st (.classes m) = (st, [-1]) := by
        simp only [Sm08.step]
        rw [if_pos (show Sm08.MOST < m by unfold Sm08.MOST; omega)]
      rw [es] at q
      exact ⟨by show 1 ≤ sizeLine; decide, fun r hr' => q _ r (Fr.same (same_upd hr')) (hL.mono (same_upd hr')) upd_same (fresh_of hL (fun _ _ _ _ e => e) hr')⟩
    refine ifF (decide_eq_false (by omega)) ?_
    have es : Sm08.step st (.classes m) = (st, Sm08.ints (m :: (Sm08.levels st.w st.k st.lang (st.examples.map fun x => x.1) m).map fun l => l.length)) := by
      simp only [Sm08.step]
      rw [if_neg (show ¬ Sm08.MOST < m by unfold Sm08.MOST; omega)]
    have el := levels_lengths (w := st.w) (k := st.k) (g := st.lang) (rows := st.examples.map fun x => x.1) hS.wd.k2 (fun x hx => (hS.lg.os x hx).1) m
    rw [es, el] at q
    refine ⟨_, rfl, by show 1 ≤ sizeLine; decide, fun r1 hr1 => ?_⟩
    have s1 := same_upd (o := .lst [.int (m : Int)]) hr1
    refine ⟨_, rfl, L, CN, dx, _, _, rfl, s1 _ _ e1, T.cl, T.nL, nF_language .., _, rfl, L, CN, dx, _, _, rfl, s1 _ _ e1, T.cl, T.nE, nF_examples .., ex, _, rfl, .inl (s1 _ _ e4), fun p bs hp hk => ⟨_, rfl, ?_⟩⟩
    have s2 := s1.trans (same_upd (o := .lst (bs.map V.ref)) hp)
    refine ⟨lg, p, m, st.w, st.k, st.lang, st.examples.map (·.1), rfl, e2.mono s2, ⟨bs, SqL.new upd_same, paired_imp (keys_rows _ _ hk) fun b row _ e => SqT.new (same_upd hp _ _ e)⟩, (by rw [upd_same]; exact fun z => nomatch z), hS.ask, c1, fun H3 r2 s3 hr2 => ?_⟩
    have s23 := s2.trans s3
    refine ⟨r1, r2, _, _, rfl, rfl, s3 _ _ (same_upd hp _ _ upd_same), hr2, ?_, fun r hr' => ?_⟩
    · rw [iv_len]
      exact small_line (by simp; omega)
    · refine q _ r (Fr.same (s23.trans (same_upd hr'))) (hL.mono (s23.trans (same_upd hr'))) ?_ (fresh_of hL (Fr.same s23) hr')
      rw [upd_same]
      simp [ansV, iv, Sm08.ints]
theorem ok_tellCost {f fT : Addr} {fd fdT : FuncData} (F : Fun K "tell_cost" "Line.tell_cost" sTellCost f fd) (T : NCls K CN) (hm1 : GInt mg "NOT_GRANTED" (-1))
    (FT : FnOk P wd K mg base CX0 3 fT fdT ["self", "term"] (spGrant K CN CL)) (bT : Binds K fdT ["self", "term"] []) (mT : Meth K CN "is_granted" fT)
    (GC : CalN P wd K mg base 2 "term_cost" ["language", "term"] (spCost K CL)) : FnOk P wd K mg base CX0 4 f fd ["self", "term"] (spTellCost CN CL) := by
  refine F.ok scTellCost (fun vs H Q E h => ?_) (fun cdv A outer s H vs Q E hr h => ?_)
  · obtain ⟨L, a, s, l, ⟨rfl, _⟩, _⟩ := h
    rfl
  · obtain ⟨L, a, st, l, ⟨rfl, hL, hS, q⟩, ha⟩ := h
    obtain ⟨t1, g1⟩ := hm1
    obtain ⟨fC, gC, ⟨fdC, FC, bC, kC⟩⟩ := GC.ex
    have hr2 : Room 2 _ := hr.mono (by decide)
    refine ⟨_, pss_cons (ps_if (pt_not (pt_val (pe_meth (pv 0) T.cl mT FT hr bT .nil pass0 (pa_cons (pv 1) pa_nil)))) (pss_one (ps_ret (pe_lst (pa_cons (pe_glob (v := .int (-1)) rfl g1 ⟨_, rfl⟩) pa_nil)))) pss_nil)
      (pss_cons (ps_set (i := 2) scTellCost.nd rfl (Or.inl rfl) (pe_call FC hr2 rfl gC kC bC .nil pass0 (pa_cons (pe_fld (pv 0) rfl) (pa_cons (pv 1) pa_nil))))
      (pss_one (ps_ret (pe_ifExp (pt_cmp (pc_isN (pv 2))) (pe_lst (pa_cons pe_int pa_nil)) (pe_lst (pa_cons pe_int (pa_cons (pv 2) pa_nil))))))), ?_⟩
    obtain ⟨dx, lg, wi, ex, e1, e2, e3, e4⟩ := hL.ex
    refine ⟨_, rfl, L, dx, _, rfl, e1, noA (by decide +kernel) (by decide +kernel) (by decide +kernel), _, rfl, ?_⟩
    refine ⟨L, a, st, l, rfl, hL, SqL.new ha, _, rfl, ?_⟩
    have hsc := scan_termOf hS.wd.w4 hS.wd.k2 l
    by_cases c1 : l.length ≤ 24
    case neg =>
      refine ifT (by simp [isTerm, c1]) ?_
      have es : Sm08.step st (.cost l) = (st, [-1]) := by
        simp only [Sm08.step]
        rw [if_pos (by omega)]
      rw [es] at q
      exact ⟨by show 1 ≤ sizeLine; decide, fun r hr' => q _ r (Fr.same (same_upd hr')) (hL.mono (same_upd hr')) upd_same (fresh_of hL (fun _ _ _ _ e => e) hr')⟩
    have es : Sm08.step st (.cost l) = (st, match Sm08.termOf st.w st.k l with
      | none => [-1]
      | some t => match Sm08.cost st.k st.lang t with
        | none => [0]
        | some c => Sm08.ints [1, c]) := by
      simp only [Sm08.step]
      rw [if_neg (by omega)]
      rfl
    cases et : Sm08.termOf st.w st.k l with
    | none =>
      rw [et] at hsc es
      refine ifT (by simp [isTerm, hsc]) ?_
      rw [es] at q
      exact ⟨by show 1 ≤ sizeLine; decide, fun r hr' => q _ r (Fr.same (same_upd hr')) (hL.mono (same_upd hr')) upd_same (fresh_of hL (fun _ _ _ _ e => e) hr')⟩
    | some t =>
      rw [et] at hsc es
      refine ifF (by simp [isTerm, hsc, c1]) ?_
      obtain ⟨hlc, hg, hf⟩ := termOf_code et
      have es' : Sm08.step st (.cost l) = (st, match costL st.lang l with
        | none => [0]
        | some c => Sm08.ints [1, c]) := by
        rw [hlc, costL_term hS.wd.w4 hS.wd.k2 hg hf, ← hlc]
        exact es
      rw [es'] at q
      refine ⟨_, rfl, L, CN, dx, _, _, rfl, e1, T.cl, T.nL, nF_language .., _, rfl, ?_⟩
      refine ⟨lg, a, st.w, st.k, st.lang, l, rfl, e2, SqL.new ha, by omega, fun H1 s1 => ?_⟩
      cases ec : costL st.lang l with
      | none =>
        rw [ec] at q
        refine ⟨_, rfl, _, rfl, ?_⟩
        refine ifT rfl ?_
        exact ⟨by show 1 ≤ sizeLine; decide, fun r hr' => q _ r (Fr.same (s1.trans (same_upd hr'))) (hL.mono (s1.trans (same_upd hr'))) upd_same (fresh_of hL (Fr.same s1) hr')⟩
      | some c =>
        rw [ec] at q
        refine ⟨_, rfl, _, rfl, ?_⟩
        refine ifF rfl ?_
        exact ⟨_, rfl, by show 2 ≤ sizeLine; decide, fun r hr' => q _ r (Fr.same (s1.trans (same_upd hr'))) (hL.mono (s1.trans (same_upd hr'))) upd_same (fresh_of hL (Fr.same s1) hr')⟩
theorem ok_value {f fT fI fO : Addr} {fd fdT fdI fdO : FuncData} (F : Fun K "tell_value" "Line.tell_value" sValue f fd) (T : NCls K CN) (ml : mg "list" = none) (hm1 : GInt mg "NOT_GRANTED" (-1))
    (FT : FnOk P wd K mg base CX0 3 fT fdT ["self", "term"] (spGrant K CN CL)) (bT : Binds K fdT ["self", "term"] []) (mT : Meth K CN "is_granted" fT)
    (FI : FnOk P wd K mg base CX0 1 fI fdI ["self", "row"] (spIns K CN CL)) (bI : Binds K fdI ["self", "row"] []) (mI : Meth K CN "are_inputs" fI)
    (FO : FnOk P wd K mg base CX0 4 fO fdO ["self", "term", "rows"] (spOuts K CN CL)) (bO : Binds K fdO ["self", "term", "rows"] []) (mO : Meth K CN "outcomes" fO) : FnOk P wd K mg base CX0 5 f fd ["self", "inputs", "term"] (spValue CN CL) := by
  refine F.ok scValue (fun vs H Q E h => ?_) (fun cdv A outer s H vs Q E hr h => ?_)
  · obtain ⟨L, a, b, s, i, l, ⟨rfl, _⟩, _⟩ := h
    rfl
  · obtain ⟨L, a, b, st, i, l, ⟨rfl, hL, hS, q⟩, ha, hb⟩ := h
    obtain ⟨t1, g1⟩ := hm1
    have hr1 : Room 1 _ := hr.mono (by decide)
    have hr3 : Room 3 _ := hr.mono (by decide)
    refine ⟨_, pss_cons (ps_if (PW.pt (pw_or (pt_not (pt_val (pe_meth (pv 0) T.cl mT FT hr3 bT .nil pass0 (pa_cons (pv 2) pa_nil)))) (pw_or1 (pt_not (pt_val (pe_meth (pv 0) T.cl mI FI hr1 bI .nil pass0 (pa_cons (pv 1) pa_nil))))))) (pss_one (ps_ret (pe_lst (pa_cons (pe_glob (v := .int (-1)) rfl g1 ⟨_, rfl⟩) pa_nil)))) pss_nil)
      (pss_one (ps_ret (pe_callTy call_list_of (by rfl) ml (by decide +kernel) (pa_cons (pe_meth (pv 0) T.cl mO FO hr bO .nil pass0 (pa_cons (pv 2) (pa_cons (pe_lst (pa_cons (pv 1) pa_nil)) pa_nil))) pa_nil)))), ?_⟩
    obtain ⟨dx, lg, wi, ex, e1, e2, e3, e4⟩ := hL.ex
    have retN : ∀ {D : Ends} {σ : L2.St} (H1 : Hp), D.rt = Q → Same H H1 → Sm08.step st (.value i l) = (st, [-1]) → tRet (tLst (tCons (tC (.int (-1))) tNil)) D σ H1 := fun H1 hD s1 es => by
      rw [es] at q
      refine ⟨by show 1 ≤ sizeLine; decide, fun r hr' => ?_⟩
      rw [hD]
      exact q _ r (Fr.same (s1.trans (same_upd hr'))) (hL.mono (s1.trans (same_upd hr'))) upd_same (fresh_of hL (Fr.same s1) hr')
    refine ⟨_, rfl, L, dx, _, rfl, e1, noA (by decide +kernel) (by decide +kernel) (by decide +kernel), _, rfl, ?_⟩
    refine ⟨L, b, st, l, rfl, hL, SqL.new hb, _, rfl, ?_⟩
    have hsc := scan_termOf hS.wd.w4 hS.wd.k2 l
    by_cases c1 : l.length ≤ 24
    case neg =>
      refine ifT (by simp [isTerm, c1]) ?_
      refine ifT rfl ?_
      refine retN _ rfl (fun _ _ e => e) ?_
      simp only [Sm08.step]
      rw [if_pos (.inr (by omega))]
    cases et : Sm08.termOf st.w st.k l with
    | none =>
      rw [et] at hsc
      refine ifT (by simp [isTerm, hsc]) ?_
      refine ifT rfl ?_
      refine retN _ rfl (fun _ _ e => e) ?_
      simp only [Sm08.step]
      rw [et]
      split <;> rfl
    | some t =>
      rw [et] at hsc
      refine ifF (by simp [isTerm, hsc, c1]) ?_
      refine ⟨_, rfl, L, dx, _, rfl, e1, noA (by decide +kernel) (by decide +kernel) (by decide +kernel), _, rfl, ?_⟩
      refine ⟨L, a, st, i, rfl, hL, hS, SqL.new ha, _, rfl, ?_⟩
      by_cases c2 : Sm08.goodIns st i = true
      case neg =>
        rw [Bool.not_eq_true] at c2
        refine ifT (by rw [c2]; rfl) ?_
        refine retN _ rfl (fun _ _ e => e) ?_
        simp only [Sm08.step]
        rw [if_pos (.inl c2)]
      refine ifF (by rw [c2]; rfl) ?_
      obtain ⟨hlc, hg, hf⟩ := termOf_code et
      have tf : fine st.w st.k t = true := by simp [fine, hg, hf]
      have es : Sm08.step st (.value i l) = (st, Sm08.ints [Sm08.eval st.w i t]) := by
        simp only [Sm08.step]
        rw [if_neg, et]
        rintro (z | z)
        · rw [c2] at z
          cases z
        · omega
      rw [es] at q
      have ro : RowOk st.w st.k i := by
        simp only [Sm08.goodIns, Bool.and_eq_true, List.all_eq_true, decide_eq_true_eq, beq_iff_eq] at c2
        exact ⟨c2.1, c2.2⟩
      refine ⟨_, rfl, L, dx, _, rfl, e1, noA (by decide +kernel) (by decide +kernel) (by decide +kernel), _, rfl, _, rfl, by show 1 ≤ sizeLine; decide, fun p hp => ?_⟩
      have s1 := same_upd (o := .lst [.ref a]) hp
      refine ⟨L, b, p, st, t, [i], rfl, hL.mono s1, hS, by rw [← hlc]; exact SqL.new (s1 _ _ hb), tf, ⟨[a], SqL.new upd_same, .cons (.inr (SqL.new (s1 _ _ ha))) .nil⟩, by simpa using ro, by simp, by rw [← hlc]; omega, fun H2 p2 s2 hp2 => ?_⟩
      have s12 := s1.trans s2
      refine ⟨p2, _, rfl, .inr (SqT.new hp2), fun r hr' => ?_⟩
      exact q _ r (Fr.same (s12.trans (same_upd hr'))) (hL.mono (s12.trans (same_upd hr'))) upd_same (fresh_of hL (Fr.same s12) hr')
theorem ok_show {f : Addr} {fd : FuncData} {k : Nat} (F : Fun K "show_examples" "Line.show_examples" sShow f fd) (T : NCls K CN) (ml : mg "len" = none) (mll : mg "list" = none) : FnOk P wd K mg base CX0 (k + 1) f fd ["self"] (spShow CN CL) := by
  refine F.ok scShow (fun vs H Q E h => ?_) (fun cdv A outer s H vs Q E hr h => ?_)
  · obtain ⟨L, s, rfl, _⟩ := h
    rfl
  · obtain ⟨L, st, rfl, hL, hS, q⟩ := h
    refine ⟨_, pss_cons (ps_set (i := 1) scShow.nd rfl (Or.inl rfl) (pe_lst (pa_cons (pe_callB call_len_dT (by rfl) ml PySem.boot_len (pa_cons (pe_fld (pv 0) rfl) pa_nil)) pa_nil)))
      (pss_cons (ps_lock (ps_for PassesOwn.never rfl (pi_itemsTT (pe_fld (pv 0) rfl)) (pg_tup rfl (pgs_cons (pg_name (i := 2) scShow.nd rfl (Or.inl rfl)) (pgs_cons (pg_name (i := 3) scShow.nd rfl (Or.inl rfl)) pgs_nil)))
        (pss_one (ps_expr (pe_bm PySem.F.plainAttrs_list PySem.F.slot_list_extend PySem.F.type_list_extend mt_extend (pv 1) (pa_cons (pe_op op_cat (pe_callTy call_list_of (by rfl) mll (by decide +kernel) (pa_cons (pv 2) pa_nil)) (pe_lst (pa_cons (pv 3) pa_nil))) pa_nil))))))
      (pss_one (ps_ret (pv 1)))), ?_⟩
    obtain ⟨dx, lg, wi, ex, e1, e2, e3, e4⟩ := hL.ex
    have lx : (exK st.examples).length = st.examples.length := by simp [exK]
    have en := hS.en
    have k2 := hS.wd.k2
    refine ⟨_, rfl, L, CN, dx, _, _, rfl, e1, T.cl, T.nE, nF_examples .., ex, _, rfl, e4, by show 1 ≤ sizeLine; decide, fun p hp => ?_⟩
    rw [lx]
    have s1 := same_upd (o := .lst [.int (st.examples.length : Int)]) hp
    have npe : ex ≠ p := ne_of_none e4 hp
    refine ⟨ex, _, s1 _ _ e4, trivial, fun od => ?_⟩
    have nL : L ≠ ex := ne_of e1 e4 (by intro z; cases z)
    refine ⟨_, rfl, L, CN, dx, _, _, rfl, by rw [upd_ne nL]; exact s1 _ _ e1, T.cl, T.nE, nF_examples .., ex, od, _, rfl, upd_same, ?_⟩
    let shL : List Sm08.Example → List Nat := fun l => st.examples.length :: l.flatMap fun x => x.1 ++ [x.2]
    have lenL : ∀ j, (shL (st.examples.take j)).length ≤ 100 := fun j => by
      show (st.examples.length :: (st.examples.take j).flatMap fun x => x.1 ++ [x.2]).length ≤ 100
      have := length_flatMap_le (fun x : Sm08.Example => x.1 ++ [x.2]) 3 (st.examples.take j) (fun x hx => by
        have := (hS.ex x (List.mem_of_mem_take hx)).1.1
        simp
        omega)
      have h2 : (st.examples.take j).length ≤ 8 := by rw [List.length_take]; omega
      simp only [List.length_cons]
      omega
    refine for_it walk_itemsTN (fun j σ H3 => ∃ v2 v3 : Option V, σ = [some (.ref L), some (.ref p), v2, v3] ∧ (∀ b o, b ≠ ex → H b = some o → H3 b = some o) ∧ H3 ex = some (.frz od (.dT (exK st.examples))) ∧ H3 p = some (.lst (iv (shL (st.examples.take j)))))
      ⟨none, none, rfl, fun b o hb e => by rw [upd_ne hb]; exact s1 _ _ e, upd_same, by rw [upd_ne npe.symm, upd_same]; rfl⟩ (fun j σ H3 _ ⟨_, _, _, _, h3, _⟩ => h3) ?_ ?_
    · rintro j x σ H3 H4 hj ⟨v2, v3, rfl, keep, hex, hpl⟩ ⟨T', qk, ky, v, hkv, rfl, hT', hqk, rfl⟩
      have hj' : j < st.examples.length := by rw [← lx]; exact hj
      obtain ⟨y, hy⟩ : ∃ y, st.examples[j]? = some y := ⟨_, List.getElem?_eq_getElem hj'⟩
      have hky : (ky, v) = (keyOf y.1, V.int (y.2 : Int)) := by
        rw [exK, List.getElem?_map, hy] at hkv
        exact (Option.some.inj hkv).symm
      obtain ⟨rfl, rfl⟩ := Prod.mk.inj hky
      rw [key_iv] at hqk
      have s4 := same_upd (o := .tup [.ref qk, .int (y.2 : Int)]) hT'
      have ry := (hS.ex y (List.mem_of_getElem? hy)).1.1
      refine ⟨T', _, rfl, SqT.new upd_same, rfl, .ref qk, [.int (y.2 : Int)], rfl, .int (y.2 : Int), [], rfl, rfl, ?_⟩
      refine ⟨_, rfl, .inl ⟨rfl, _, SqL.new (s4 _ _ hpl)⟩, _, rfl, qk, _, rfl, .inr (SqT.new (s4 _ _ hqk)), fun r1 hr1 => ⟨_, rfl, by show 1 ≤ sizeLine; decide, fun r2 hr2 => ?_⟩⟩
      have s5 := s4.trans (same_upd (o := .lst (iv y.1)) hr1)
      have s6 := s5.trans (same_upd (o := .lst [.int (y.2 : Int)]) hr2)
      refine ⟨r1, r2, _, _, rfl, rfl, same_upd hr2 _ _ upd_same, upd_same, by rw [iv_len]; exact small_line (by simp; omega), fun r3 hr3 => ?_⟩
      have s7 := s6.trans (same_upd (o := .lst (iv y.1 ++ [.int (y.2 : Int)])) hr3)
      have hp7 := s7 _ _ hpl
      refine ⟨p, r3, _, _, rfl, rfl, hp7, upd_same, ?_, ?_⟩
      · have := lenL j
        rw [iv_len, List.length_append, iv_len]
        exact small_line (by simp; omega)
      · refine ⟨some (.ref qk), some (.int (y.2 : Int)), rfl, fun b o hb e => ?_, ?_, ?_⟩
        · have hbp : b ≠ p := ne_of_none e hp
          rw [upd_ne hbp]
          exact s7 _ _ (keep b o hb e)
        · rw [upd_ne npe]
          exact s7 _ _ hex
        · rw [upd_same]
          have : st.examples.take (j + 1) = st.examples.take j ++ [y] := by rw [List.take_add_one, hy]; rfl
          show some (HO.lst (iv (st.examples.length :: (st.examples.take j).flatMap fun x => x.1 ++ [x.2]) ++ (iv y.1 ++ [.int (y.2 : Int)]))) = some (HO.lst (iv (st.examples.length :: (st.examples.take (j + 1)).flatMap fun x => x.1 ++ [x.2])))
          rw [this]
          simp [iv]
    · rintro σ H3 ⟨v2, v3, rfl, keep, hex, hpl⟩
      rw [lx, List.take_length] at hpl
      refine ⟨hex, _, rfl, ?_⟩
      have keep2 : ∀ b o, H b = some o → upd H3 ex (.dT (exK st.examples)) b = some o := fun b o e => by
        by_cases c : b = ex
        · rw [c] at e ⊢
          rw [upd_same, ← e4, e]
        · rw [upd_ne c]
          exact keep b o c e
      refine q _ p (Fr.same keep2) (hL.mono keep2) ?_ (fresh_of hL (fun _ _ _ _ e => e) hp)
      rw [upd_ne npe.symm, hpl]
      show some (HO.lst (iv (st.examples.length :: st.examples.flatMap fun x => x.1 ++ [x.2]))) = some (HO.lst (ansV ((st.examples.length : Int) :: st.examples.flatMap fun x => Sm08.ints (x.1 ++ [x.2]))))
      congr 2
      simp [iv, ansV, Sm08.ints, List.map_flatMap]
      rfl
end
end LT
set_option Elab.async false
set_option maxRecDepth 100000
set_option maxHeartbeats 2000000
set_option linter.unusedSimpArgs false
set_option linter.unusedVariables false
namespace LT
open PySem PySem.Spec PyProof.Rows L2
/-! ### read_rows -/
theorem putRows_take (xs : List (List Int)) : ∀ j x, xs[j]? = some x → PyFlat.putRows (xs.drop j) = (x.length : Int) :: (x ++ PyFlat.putRows (xs.drop (j + 1))) := by
  intro j x h
  have hlt : j < xs.length := by
    rcases Nat.lt_or_ge j xs.length with z | z
    · exact z
    · rw [List.getElem?_eq_none z] at h; cases h
  rw [List.drop_eq_getElem_cons hlt]
  rw [List.getElem?_eq_getElem hlt] at h
  rw [Option.some.inj h]
  rfl
/-- lists that hold whole numbers, at their places -/
def LstH (H : Hp) (a : Addr) (x : List Int) : Prop := H a = some (.lst (x.map V.int))
structure ListsH (H : Hp) (p : Addr) (xs : List (List Int)) : Prop where
  ex : ∃ as : List Addr, H p = some (.lst (as.map V.ref)) ∧ Paired (LstH H) as xs
def spRead (K : PySem.W.Frag) : Sp := fun vs H Q _ => ∃ (a : Addr) (l : List Int) (pl : Nat) (xs : List (List Int)) (t : List Int), vs = [.ref a, .int (pl : Int), .int (xs.length : Int)] ∧ SqL K H a (l.map V.int) ∧ l.drop pl = PyFlat.putRows xs ++ t ∧ xs.length ≤ 1000 ∧
  ∀ H' p, Same H H' → ListsH H' p xs → Q (.ref p) H'
abbrev sRead : Stmt := top 67
theorem scRead : FnScope ["calls", "place", "count", "rows", "end"] ["calls", "place", "count"] (defScope sRead) := ⟨rfl, rfl, rfl, by decide +kernel, rfl, by decide +kernel, by decide +kernel⟩
section
variable {P : Program} {wd : World} {K : PySem.W.Frag} {mg : Str → Option Value} {base : Heap}
theorem ok_read {f : Addr} {fd : FuncData} {k : Nat} (F : Fun K "read_rows" "read_rows" sRead f fd) (ml : mg "len" = none) : FnOk P wd K mg base CX0 (k + 1) f fd ["calls", "place", "count"] (spRead K) := by
  refine F.ok scRead (fun vs H Q E h => ?_) (fun cdv A outer s H vs Q E hr h => ?_)
  · obtain ⟨a, l, pl, xs, t, rfl, _⟩ := h
    rfl
  · obtain ⟨a, l, pl, xs, t, rfl, hL, hd, hn, q⟩ := h
    refine ⟨_, pss_cons (ps_set (i := 3) scRead.nd rfl (Or.inl rfl) (pe_lst pa_nil))
      (pss_cons (ps_while PassesOwn.never (pt_cmpR op_lt (pe_callB call_len_seq (by rfl) ml PySem.boot_len (pa_cons (pv 3) pa_nil)) (pv 2) (nomark _))
        (pss_cons (ps_set (i := 4) scRead.nd rfl (Or.inl rfl) (pe_op op_add (pe_op op_add (pv 1) pe_int) (pe_ix ix_list (pv 0) (pv 1) (fun _ _ => rfl))))
        (pss_cons (ps_expr (pe_bm PySem.F.plainAttrs_list PySem.F.slot_list_append PySem.F.type_list_append mt_append (pv 3) (pa_cons (pe_slice sl_list (pv 0) (po_some (pe_op op_add (pv 1) pe_int)) (po_some (pv 4))) pa_nil)))
        (pss_one (ps_set (i := 1) scRead.nd rfl (Or.inl rfl) (pv 4))))))
      (pss_one (ps_ret (pv 3)))), ?_⟩
    refine ⟨by show 0 ≤ sizeLine; decide, fun p hp => ?_⟩
    refine ⟨fun fuel σ H' => ∃ (v4 : Option V) (j pj : Nat) (as : List Addr), σ = [some (.ref a), some (.int (pj : Int)), some (.int (xs.length : Int)), some (.ref p), v4] ∧ fuel = xs.length - j ∧ j ≤ xs.length ∧ l.drop pj = PyFlat.putRows (xs.drop j) ++ t ∧ Same H H' ∧ H' p = some (.lst (as.map V.ref)) ∧ Paired (LstH H') as (xs.take j),
      ⟨xs.length, none, 0, pl, [], rfl, rfl, Nat.zero_le _, hd, same_upd hp, upd_same, .nil⟩, ?_⟩
    rintro fuel σ H' ⟨v4, j, pj, as, rfl, rfl, hj, hdj, s1, hpj, has⟩
    have las : as.length = j := by
      have h1 : as.length = _ := has.length
      rw [h1, List.length_take]
      omega
    refine ⟨_, rfl, p, _, rfl, .inl (SqL.new hpj), _, rfl, _, _, rfl, rfl, _, rfl, ?_⟩
    rw [List.length_map, las]
    by_cases c : j < xs.length
    · refine ifT (decide_eq_true (by omega)) ?_
      refine ⟨_, fun _ _ h => h, ?_⟩
      have hx : xs[j]? = some xs[j] := List.getElem?_eq_getElem c
      generalize xs[j] = x at hx
      rw [putRows_take xs j x hx] at hdj
      have hl0 : l[pj]? = some (x.length : Int) := by
        have := congrArg (fun z : List Int => z[0]?) hdj
        simpa using this
      have hl1 : l.drop (pj + 1) = x ++ (PyFlat.putRows (xs.drop (j + 1)) ++ t) := by
        have := congrArg (List.drop 1) hdj
        rw [List.drop_drop] at this
        rw [this]
        simp
      have hl2 : l.drop (pj + 1 + x.length) = PyFlat.putRows (xs.drop (j + 1)) ++ t := by
        have := congrArg (List.drop x.length) hl1
        rw [List.drop_drop] at this
        rw [this, PyFlat.drop_len]
      have hlen : pj + 1 + x.length ≤ l.length := by
        have h1 := congrArg List.length hl1
        rw [List.length_drop, List.length_append] at h1
        have : pj < l.length := by
          rcases Nat.lt_or_ge pj l.length with z | z
          · exact z
          · rw [List.getElem?_eq_none z] at hl0; cases hl0
        omega
      have hL1 : SqL K H' a (l.map V.int) := s1.seq hL
      refine ⟨_, rfl, _, _, rfl, rfl, _, rfl, _, rfl, a, _, (pj : Int), .int (x.length : Int), rfl, rfl, hL1, atI_nat (by rw [List.getElem?_map, hl0]; rfl), _, _, rfl, rfl, ?_⟩
      refine ⟨_, rfl, .inl ⟨rfl, _, SqL.new hpj⟩, _, rfl, _, rfl, _, _, rfl, rfl, _, rfl, _, rfl, _, rfl, a, _, rfl, hL1, fun pn hpn => ?_⟩
      have ecut : cutV (l.map V.int) (some ((pj : Int) + 1)) (some ((pj : Int) + 1 + (x.length : Int))) = x.map V.int := by
        have e1 : (pj : Int) + 1 = ((pj + 1 : Nat) : Int) := by omega
        have e2 : (pj : Int) + 1 + (x.length : Int) = ((pj + 1 + x.length : Nat) : Int) := by omega
        unfold cutV
        rw [e2, e1, HT.sIx_nat, HT.sIx_nat, List.length_map, Nat.min_eq_left hlen, Nat.min_eq_left (show pj + 1 ≤ l.length by omega), ← List.map_drop, hl1, ← List.map_take]
        have e3 : pj + 1 + x.length - (pj + 1) = x.length := by omega
        rw [e3, PyFlat.take_len]
      rw [ecut]
      refine ⟨p, _, _, rfl, rfl, same_upd hpn _ _ hpj, by rw [List.length_map, las]; exact small_lt (by omega), ?_⟩
      have npp : p ≠ pn := ne_of_none hpj hpn
      refine ⟨_, rfl, xs.length - (j + 1), by omega, some (.int ((pj : Int) + 1 + (x.length : Int))), j + 1, pj + 1 + x.length, as ++ [pn], ?_, rfl, by omega, hl2, Same.put (s1.trans (same_upd hpn)) hp, by rw [upd_same, List.map_append]; rfl, ?_⟩
      · have e2 : (pj : Int) + 1 + (x.length : Int) = ((pj + 1 + x.length : Nat) : Int) := by omega
        rw [← e2]
        rfl
      · rw [List.take_add_one, hx]
        refine paired_append (paired_imp has fun b y hb e => ?_) (.cons ?_ .nil)
        · have e' : H' b = some (.lst (y.map V.int)) := e
          have nb : b ≠ p := fun z => by
            rw [z, hpj] at e'
            have e2 := HO.lst.inj (Option.some.inj e')
            cases as with
            | nil => cases hb
            | cons u us =>
              cases y with
              | nil => cases e2
              | cons v vs => cases (List.cons.inj e2).1
          rw [LstH, upd_ne nb]
          exact same_upd hpn _ _ e'
        · rw [LstH, upd_ne npp.symm, upd_same]
    · refine ifF (decide_eq_false (by omega)) ?_
      have : j = xs.length := by omega
      rw [this, List.take_length] at has
      exact ⟨_, rfl, q _ p s1 ⟨as, hpj, has⟩⟩
end
end LT
set_option linter.unusedSimpArgs false
set_option linter.unusedVariables false
namespace LT
open PySem PySem.Spec PyProof.Rows L2
/-! ### mathematics H: what a line is about stays as the document lets it be -/
theorem withEx_add {s : Sm08.St} {ex : List Sm08.Example} {r : List Nat} {v : Nat} (h : StOk (withEx s ex)) (hr : RowOk s.w s.k r) (hv : v < 2 ^ s.w) (hn : ∀ x ∈ ex, x.1 ≠ r) (hl : ex.length < 8) : StOk (withEx s (ex ++ [(r, v)])) := by
  refine ⟨h.wd, h.k1, h.lg, h.wf, h.wl, ?_, ?_, ?_⟩
  · intro y hy
    rcases List.mem_append.mp hy with hy | hy
    · exact h.ex y hy
    · simp at hy
      subst hy
      exact ⟨hr, hv⟩
  · show (ex ++ [(r, v)]).length ≤ 8
    simp
    omega
  · show ((ex ++ [(r, v)]).map (·.1)).Nodup
    rw [List.map_append, List.nodup_append]
    refine ⟨h.ed, by simp, fun a ha b hb z => ?_⟩
    simp at hb
    obtain ⟨y, hy, rfl⟩ := List.mem_map.mp ha
    exact hn y hy (z.trans hb)
theorem differ_some {w k : Nat} {t u : Sm08.Term} {r : List Nat} (h : Sm08.differ w k t u = some r) : r ∈ Sm08.rowsOf w k ∧ Sm08.eval w r t ≠ Sm08.eval w r u := by
  refine ⟨List.mem_of_find?_eq_some h, ?_⟩
  simpa using List.find?_some h
theorem learn_ok {s : Sm08.St} {m : Nat} (hm : m ≤ 5) : ∀ (f n : Nat) (ex : List Sm08.Example), StOk (withEx s ex) → doesAll s ex → ex.length + f ≤ 8 → StOk (withEx s (Sm08.learn s.w s.k s.lang s.wish m f n ex).1) := by
  intro f
  induction f with
  | zero =>
    intro n ex h hd hl
    cases e : Sm08.find s.w s.k s.lang ex m with
    | none => rw [learn_none e]; exact h
    | some x =>
      cases ed : Sm08.differ s.w s.k x.2 s.wish with
      | none => rw [learn_does e ed]; exact h
      | some r => rw [learn_full e ed]; exact h
  | succ f ih =>
    intro n ex h hd hl
    cases e : Sm08.find s.w s.k s.lang ex m with
    | none => rw [learn_none e]; exact h
    | some x =>
      cases ed : Sm08.differ s.w s.k x.2 s.wish with
      | none => rw [learn_does e ed]; exact h
      | some r =>
        rw [learn_more e ed]
        obtain ⟨h1, h2⟩ := differ_some ed
        have ho : outs s.w (ex.map (·.1)) x.2 = ex.map (·.2) := (found_ok h hm (x := x) e).2.2
        have ra := rowsOf_ok s.w s.k r h1
        have wf : fine s.w s.k s.wish = true := h.wf
        simp [fine] at wf
        have wd : Words s.w s.k := h.wd
        refine ih (n + 1) _ (withEx_add h ra (eval_lt wd.w1 wd.w4 ra s.wish wf.2) (comes_new hd ho h2) (by omega)) ?_ (by simp; omega)
        intro y hy
        rcases List.mem_append.mp hy with hy | hy
        · exact hd y hy
        · simp at hy
          subst hy
          rfl
theorem lang_ok {w : Nat} {cs : List Nat} {os : List (Nat × Nat)} (h : mayM w cs (os.map (·.1)) (os.map (·.2)) = true) : LangOk w ⟨os, cs⟩ := by
  simp only [mayM, Bool.and_eq_true, decide_eq_true_eq, Bool.not_eq_true', List.length_map] at h
  obtain ⟨h1, h2, h3, h4, h5, h6, h7⟩ := h
  refine ⟨fun c hc => ?_, fun x hx => ?_, h1, h2, (distinct_nodup _).mp h3, (distinct_nodup _).mp h4⟩
  · have := List.any_eq_false.mp h5 c hc
    simpa using this
  · have a := List.any_eq_false.mp h6 x.1 (List.mem_map.mpr ⟨x, hx, rfl⟩)
    have b := List.all_eq_true.mp h7 x.2 (List.mem_map.mpr ⟨x, hx, rfl⟩)
    simp at a b
    exact ⟨by omega, b.1, b.2⟩
theorem step_ok {s : Sm08.St} (h : StOk s) (c : Sm08.Call) : StOk (Sm08.step s c).1 := by
  cases c with
  | start w k =>
    simp only [Sm08.step]
    split
    · exact h
    · rename_i hn
      exact newSt_ok ⟨by omega, by omega, by omega⟩ (by omega)
  | lang cs os =>
    rw [may_step]
    split
    · rename_i hc
      exact ⟨h.wd, h.k1, lang_ok hc, h.wf, h.wl, h.ex, h.en, h.ed⟩
    · exact h
  | «example» l v =>
    simp only [Sm08.step]
    split
    · exact h
    · rename_i hn
      cases ef : s.examples.find? fun x => x.1 == l with
      | some x => exact h
      | none =>
        simp only
        split
        · exact h
        · rename_i h8
          have hg : Sm08.goodIns s l = true := by
            cases e : Sm08.goodIns s l with
            | true => rfl
            | false => exact absurd (.inl e) hn
          simp only [Sm08.goodIns, Bool.and_eq_true, List.all_eq_true, decide_eq_true_eq, beq_iff_eq] at hg
          refine withEx_add (s := s) (ex := s.examples) h ⟨hg.1, hg.2⟩ (by omega) (fun x hx => ?_) (by omega)
          have := List.find?_eq_none.mp ef x hx
          simpa using this
  | clear => exact ⟨h.wd, h.k1, h.lg, h.wf, h.wl, by simp [Sm08.step], by simp [Sm08.step], by simp [Sm08.step]⟩
  | wish l =>
    simp only [Sm08.step]
    split
    · exact h
    · rename_i hn
      cases et : Sm08.termOf s.w s.k l with
      | none => exact h
      | some t =>
        obtain ⟨hl, hg, hf⟩ := termOf_code et
        exact ⟨h.wd, h.k1, h.lg, by simp [fine, hg, hf], by show (Sm08.code t).length ≤ 24; rw [← hl]; omega, h.ex, h.en, h.ed⟩
  | learn m =>
    simp only [Sm08.step]
    split
    · exact h
    · rename_i hm
      split
      · exact h
      · rename_i ha
        have ha' : (s.examples.any fun x => Sm08.eval s.w x.1 s.wish != x.2) = false := by simpa using ha
        have en := h.en
        exact learn_ok (by unfold Sm08.MOST at hm; omega) _ 0 s.examples h (fun x hx => by simpa using List.any_eq_false.mp ha' x hx) (by omega)
  | find m => exact h
  | best m => exact h
  | check l => exact h
  | classes m => exact h
  | cost l => exact h
  | value a b => exact h
  | shows => exact h
theorem init_ok : StOk Sm08.init := newSt_ok (w := 2) (k := 1) ⟨by decide, by decide, by decide⟩ (by decide)
end LT
set_option linter.unusedSimpArgs false
set_option linter.unusedVariables false
namespace LT
open PySem PySem.Spec PyProof.Rows L2
/-! ### mathematics I: the calls in the list, and the document's calls -/
def Nn (l : List Int) : Prop := ∀ x ∈ l, 0 ≤ x
inductive Raw : List (List Int) → Sm08.Call → Prop
  | start (x y : Int) : 0 ≤ x → 0 ≤ y → Raw [[0, x, y]] (.start x.toNat y.toNat)
  | lang (r s : List Int) (os : List (Nat × Nat)) : Nn r → Nn s → Sm08Neutral.twos (s.map Int.toNat) = some os → Raw [[1], r, s] (.lang (r.map Int.toNat) os)
  | ex (x : Int) (r : List Int) : 0 ≤ x → Nn r → Raw [[2, x], r] (.example (r.map Int.toNat) x.toNat)
  | clear : Raw [[3]] .clear
  | wish (r : List Int) : Nn r → Raw [[4], r] (.wish (r.map Int.toNat))
  | find (x : Int) : 0 ≤ x → Raw [[5, x]] (.find x.toNat)
  | learn (x : Int) : 0 ≤ x → Raw [[6, x]] (.learn x.toNat)
  | best (x : Int) : 0 ≤ x → Raw [[7, x]] (.best x.toNat)
  | check (r : List Int) : Nn r → Raw [[8], r] (.check (r.map Int.toNat))
  | classes (x : Int) : 0 ≤ x → Raw [[9, x]] (.classes x.toNat)
  | cost (r : List Int) : Nn r → Raw [[10], r] (.cost (r.map Int.toNat))
  | value (r s : List Int) : Nn r → Nn s → Raw [[11], r, s] (.value (r.map Int.toNat) (s.map Int.toNat))
  | shows : Raw [[12]] .shows
theorem nat_nn {x : Int} (h : Sm08Neutral.nat x = true) : 0 ≤ x := by
  simp [Sm08Neutral.nat] at h
  exact h.1
theorem nats_nn {l : List Int} (h : Sm08Neutral.nats l = true) : Nn l := fun x hx => nat_nn (List.all_eq_true.mp h x hx)
theorem iv_nat {l : List Int} (h : Nn l) : l.map V.int = iv (l.map Int.toNat) := by
  rw [iv, List.map_map]
  apply List.map_congr_left
  intro x hx
  have := h x hx
  show V.int x = V.int ((x.toNat : Nat) : Int)
  rw [Int.toNat_of_nonneg this]
theorem len0 {α : Type} {l : List α} (h : l.length = 0) : l = [] := List.length_eq_zero_iff.mp h
theorem len1 {α : Type} {l : List α} (h : l.length = 1) : ∃ a, l = [a] := List.length_eq_one_iff.mp h
theorem len2 {α : Type} {l : List α} (h : l.length = 2) : ∃ a b, l = [a, b] := by
  match l, h with
  | [a, b], _ => exact ⟨a, b, rfl⟩
theorem raw_of {c : List (List Int)} (h : PyFlat.okCall PySm08.shape c) (ha : Sm08Neutral.asked1 ((PySm08.whole c).headD []) = true) : ∃ x, Raw c x ∧ Sm08Neutral.callOf ((PySm08.whole c).headD []) = some x := by
  obtain ⟨p, a, xs, rfl, hs⟩ := h
  unfold PySm08.shape at hs
  unfold Sm08Neutral.asked1 at ha
  by_cases h0 : p = 0
  · subst h0
    rw [if_pos rfl] at hs
    obtain ⟨e1, e2⟩ := Prod.mk.inj (Option.some.inj hs)
    obtain ⟨x, y, rfl⟩ := len2 e1.symm
    obtain rfl := len0 e2.symm
    simp only [PySm08.whole, List.headD_cons, List.cons_append, List.nil_append, Sm08Neutral.callOf] at ha ⊢
    split at ha
    · rename_i hn
      have := nats_nn hn
      exact ⟨_, .start x y (this x (by simp)) (this y (by simp)), by rw [if_pos hn]⟩
    · cases ha
  rw [if_neg h0] at hs
  by_cases h1 : p = 1
  · subst h1
    rw [if_pos rfl] at hs
    obtain ⟨e1, e2⟩ := Prod.mk.inj (Option.some.inj hs)
    obtain rfl := len0 e1.symm
    obtain ⟨r, s, rfl⟩ := len2 e2.symm
    simp only [PySm08.whole, List.headD_cons, List.cons_append, List.nil_append, Sm08Neutral.callOf] at ha ⊢
    split at ha
    · rename_i hn
      have h3 := nats_nn hn.2.1
      have e5 : ((r.length : Int)).toNat = r.length := Int.toNat_natCast _
      rw [e5, PyFlat.drop_len, PyFlat.take_len] at ha
      cases et : Sm08Neutral.twos (s.map Int.toNat) with
      | none => rw [et] at ha; cases ha
      | some os => exact ⟨_, .lang r s os (fun x hx => h3 x (by simp [hx])) (fun x hx => h3 x (by simp [hx])) et, by rw [if_pos hn, e5, PyFlat.drop_len, PyFlat.take_len, et]; rfl⟩
    · cases ha
  rw [if_neg h1] at hs
  by_cases h2 : p = 2
  · subst h2
    rw [if_pos rfl] at hs
    obtain ⟨e1, e2⟩ := Prod.mk.inj (Option.some.inj hs)
    obtain ⟨x, rfl⟩ := len1 e1.symm
    obtain ⟨r, rfl⟩ := len1 e2.symm
    simp only [PySm08.whole, List.headD_cons, List.cons_append, List.nil_append, Sm08Neutral.callOf] at ha ⊢
    split at ha
    · rename_i hn
      have h3 := nats_nn hn.1
      exact ⟨_, .ex x r (h3 x (by simp)) (fun y hy => h3 y (by simp [hy])), by rw [if_pos hn, List.dropLast_concat]; simp⟩
    · cases ha
  rw [if_neg h2] at hs
  by_cases h3 : p = 3
  · subst h3
    rw [if_pos rfl] at hs
    obtain ⟨e1, e2⟩ := Prod.mk.inj (Option.some.inj hs)
    obtain rfl := len0 e1.symm
    obtain rfl := len0 e2.symm
    exact ⟨_, .clear, rfl⟩
  rw [if_neg h3] at hs
  by_cases h4 : p = 4
  · subst h4
    rw [if_pos rfl] at hs
    obtain ⟨e1, e2⟩ := Prod.mk.inj (Option.some.inj hs)
    obtain rfl := len0 e1.symm
    obtain ⟨r, rfl⟩ := len1 e2.symm
    simp only [PySm08.whole, List.headD_cons, List.cons_append, List.nil_append, Sm08Neutral.callOf] at ha ⊢
    split at ha
    · rename_i hn
      exact ⟨_, .wish r (nats_nn hn), by rw [if_pos hn]⟩
    · cases ha
  rw [if_neg h4] at hs
  by_cases h5 : p = 5
  · subst h5
    rw [if_pos rfl] at hs
    obtain ⟨e1, e2⟩ := Prod.mk.inj (Option.some.inj hs)
    obtain ⟨x, rfl⟩ := len1 e1.symm
    obtain rfl := len0 e2.symm
    simp only [PySm08.whole, List.headD_cons, List.cons_append, List.nil_append, Sm08Neutral.callOf] at ha ⊢
    split at ha
    · rename_i hn
      exact ⟨_, .find x (nat_nn hn), by rw [if_pos hn]⟩
    · cases ha
  rw [if_neg h5] at hs
  by_cases h6 : p = 6
  · subst h6
    rw [if_pos rfl] at hs
    obtain ⟨e1, e2⟩ := Prod.mk.inj (Option.some.inj hs)
    obtain ⟨x, rfl⟩ := len1 e1.symm
    obtain rfl := len0 e2.symm
    simp only [PySm08.whole, List.headD_cons, List.cons_append, List.nil_append, Sm08Neutral.callOf] at ha ⊢
    split at ha
    · rename_i hn
      exact ⟨_, .learn x (nat_nn hn), by rw [if_pos hn]⟩
    · cases ha
  rw [if_neg h6] at hs
  by_cases h7 : p = 7
  · subst h7
    rw [if_pos rfl] at hs
    obtain ⟨e1, e2⟩ := Prod.mk.inj (Option.some.inj hs)
    obtain ⟨x, rfl⟩ := len1 e1.symm
    obtain rfl := len0 e2.symm
    simp only [PySm08.whole, List.headD_cons, List.cons_append, List.nil_append, Sm08Neutral.callOf] at ha ⊢
    split at ha
    · rename_i hn
      exact ⟨_, .best x (nat_nn hn), by rw [if_pos hn]⟩
    · cases ha
  rw [if_neg h7] at hs
  by_cases h8 : p = 8
  · subst h8
    rw [if_pos rfl] at hs
    obtain ⟨e1, e2⟩ := Prod.mk.inj (Option.some.inj hs)
    obtain rfl := len0 e1.symm
    obtain ⟨r, rfl⟩ := len1 e2.symm
    simp only [PySm08.whole, List.headD_cons, List.cons_append, List.nil_append, Sm08Neutral.callOf] at ha ⊢
    split at ha
    · rename_i hn
      exact ⟨_, .check r (nats_nn hn), by rw [if_pos hn]⟩
    · cases ha
  rw [if_neg h8] at hs
  by_cases h9 : p = 9
  · subst h9
    rw [if_pos rfl] at hs
    obtain ⟨e1, e2⟩ := Prod.mk.inj (Option.some.inj hs)
    obtain ⟨x, rfl⟩ := len1 e1.symm
    obtain rfl := len0 e2.symm
    simp only [PySm08.whole, List.headD_cons, List.cons_append, List.nil_append, Sm08Neutral.callOf] at ha ⊢
    split at ha
    · rename_i hn
      exact ⟨_, .classes x (nat_nn hn), by rw [if_pos hn]⟩
    · cases ha
  rw [if_neg h9] at hs
  by_cases h10 : p = 10
  · subst h10
    rw [if_pos rfl] at hs
    obtain ⟨e1, e2⟩ := Prod.mk.inj (Option.some.inj hs)
    obtain rfl := len0 e1.symm
    obtain ⟨r, rfl⟩ := len1 e2.symm
    simp only [PySm08.whole, List.headD_cons, List.cons_append, List.nil_append, Sm08Neutral.callOf] at ha ⊢
    split at ha
    · rename_i hn
      exact ⟨_, .cost r (nats_nn hn), by rw [if_pos hn]⟩
    · cases ha
  rw [if_neg h10] at hs
  by_cases h11 : p = 11
  · subst h11
    rw [if_pos rfl] at hs
    obtain ⟨e1, e2⟩ := Prod.mk.inj (Option.some.inj hs)
    obtain rfl := len0 e1.symm
    obtain ⟨r, s, rfl⟩ := len2 e2.symm
    simp only [PySm08.whole, List.headD_cons, List.cons_append, List.nil_append, Sm08Neutral.callOf] at ha ⊢
    split at ha
    · rename_i hn
      have h3 := nats_nn hn.2.1
      have e5 : ((r.length : Int)).toNat = r.length := Int.toNat_natCast _
      exact ⟨_, .value r s (fun x hx => h3 x (by simp [hx])) (fun x hx => h3 x (by simp [hx])), by rw [if_pos hn, e5, PyFlat.drop_len, PyFlat.take_len]⟩
    · cases ha
  rw [if_neg h11] at hs
  by_cases h12 : p = 12
  · subst h12
    rw [if_pos rfl] at hs
    obtain ⟨e1, e2⟩ := Prod.mk.inj (Option.some.inj hs)
    obtain rfl := len0 e1.symm
    obtain rfl := len0 e2.symm
    exact ⟨_, .shows, rfl⟩
  rw [if_neg h12] at hs
  cases hs
end LT
set_option linter.unusedSimpArgs false
set_option linter.unusedVariables false
namespace LT
open PySem PySem.Spec PyProof.Rows L2
/-! ### mathematics J: what is asked, call by call -/
/-- a call's answer and the state behind it, in the list's own numbers -/
def rawStep (s : Sm08.St) (c : List (List Int)) : Sm08.St × List Int := Sm08Neutral.step s ((PySm08.whole c).headD [])
theorem rawStep_of {s : Sm08.St} {c : List (List Int)} {x : Sm08.Call} (h : Sm08Neutral.callOf ((PySm08.whole c).headD []) = some x) : rawStep s c = Sm08.step s x := by
  unfold rawStep Sm08Neutral.step
  rw [h]
structure Asked1 (c : List (List Int)) : Prop where
  ok : PyFlat.okCall PySm08.shape c
  raw : ∃ x, Raw c x ∧ Sm08Neutral.callOf ((PySm08.whole c).headD []) = some x
  ins : PyInside.call PySm08.bound c = true
theorem played_map {S : Type} (step : S → List (List Int) → S × List Int) (f : List (List Int) → List (List Int)) : ∀ (cs : List (List (List Int))) (s : S), PyFlat.played step s (cs.map f) = PyFlat.played (fun s c => step s (f c)) s cs
  | [], _ => rfl
  | c :: cs, s => by simp only [List.map_cons, PyFlat.played, played_map step f cs]
theorem asked_inv {l : List Int} (h : PySm08.answers_asked l = true) : ∃ cs : List (List (List Int)), l = PyFlat.put cs ∧ cs.length ≤ 40 ∧ (∀ c ∈ cs, Asked1 c) ∧ PySm08.answers l = PyFlat.told (PyFlat.played rawStep Sm08.init cs) ∧ (PySm08.answers l).length ≤ 10000000 := by
  unfold PySm08.answers_asked at h
  cases e : PyFlat.calls PySm08.shape l.length l with
  | none => rw [e] at h; cases h
  | some raw =>
    rw [e] at h
    simp only [Bool.and_eq_true] at h
    obtain ⟨⟨⟨⟨h1, h2⟩, h3⟩, h4⟩, h5⟩ := h
    obtain ⟨p1, p2⟩ := PyFlat.put_calls _ _ _ e
    simp only [PyFlat.atMost, decide_eq_true_eq] at h2
    simp only [Sm08Neutral.asked, Bool.and_eq_true, List.all_eq_true] at h4
    refine ⟨raw, p1, h2, fun c hc => ⟨p2 c hc, raw_of (p2 c hc) ?_, List.all_eq_true.mp h3 c hc⟩, ?_, ?_⟩
    · refine h4.1 _ (List.mem_map.mpr ⟨PySm08.whole c, List.mem_map.mpr ⟨c, hc, rfl⟩, rfl⟩)
    · unfold PySm08.answers PySm08.calls
      rw [e]
      simp only
      rw [played_map]
      rfl
    · simpa [PyFlat.short] using h5
end LT
set_option Elab.async false
set_option maxRecDepth 100000
set_option maxHeartbeats 2000000
set_option linter.unusedSimpArgs false
set_option linter.unusedVariables false
namespace LT
open PySem PySem.Spec PyProof.Rows L2
/-! ### answer_call -/
/-- a method of the line with its promise -/
structure MethOk (P : Program) (wd : World) (K : PySem.W.Frag) (mg : Str → Option Value) (base : Heap) (C : Addr) (k : Nat) (m : Str) (ps : List Str) (sp : Sp) : Prop where
  ex : ∃ f fd, FnOk P wd K mg base CX0 k f fd ps sp ∧ Binds K fd ps [] ∧ Meth K C m f
/-- answer_call's promise: any call that may be asked -/
def spAC (CN CL : Addr) : Sp := fun vs H Q _ => ∃ (L pa rw : Addr) (s : Sm08.St) (p : Int) (a : List Int) (xs : List (List Int)) (x : Sm08.Call), vs = [.ref L, .int p, .ref pa, .ref rw] ∧ Raw ((p :: a) :: xs) x ∧ PyInside.call PySm08.bound ((p :: a) :: xs) = true ∧ LineAt CN CL H L s ∧ StOk s ∧ H pa = some (.lst (a.map V.int)) ∧ ListsH H rw xs ∧
  ∀ H' r, Fr L H H' → LineAt CN CL H' L (Sm08.step s x).1 → H' r = some (.lst (ansV (Sm08.step s x).2)) → (∀ ys, H r ≠ some (.lst ys)) → Q (.ref r) H'
abbrev sAC : Stmt := top 68
theorem scAC : FnScope ["line", "call", "plain", "rows"] ["line", "call", "plain", "rows"] (defScope sAC) := ⟨rfl, rfl, rfl, by decide +kernel, rfl, by decide +kernel, by decide +kernel⟩
theorem lists1 {H : Hp} {p : Addr} {r : List Int} (h : ListsH H p [r]) : ∃ a, H p = some (.lst [.ref a]) ∧ H a = some (.lst (r.map V.int)) := by
  obtain ⟨as, h1, h2⟩ := h.ex
  cases h2 with
  | cons h3 h4 =>
    cases h4
    exact ⟨_, h1, h3⟩
theorem lists2 {H : Hp} {p : Addr} {r s : List Int} (h : ListsH H p [r, s]) : ∃ a b, H p = some (.lst [.ref a, .ref b]) ∧ H a = some (.lst (r.map V.int)) ∧ H b = some (.lst (s.map V.int)) := by
  obtain ⟨as, h1, h2⟩ := h.ex
  cases h2 with
  | cons h3 h4 =>
    cases h4 with
    | cons h5 h6 =>
      cases h6
      exact ⟨_, _, h1, h3, h5⟩
section
variable {P : Program} {wd : World} {K : PySem.W.Frag} {mg : Str → Option Value} {base : Heap} {CN CL : Addr}
theorem ok_ac {f : Addr} {fd : FuncData} (F : Fun K "answer_call" "answer_call" sAC f fd) (T : NCls K CN)
    (i0 : GInt mg "START" 0) (i1 : GInt mg "LANG" 1) (i2 : GInt mg "EXAMPLE" 2) (i3 : GInt mg "CLEAR" 3) (i4 : GInt mg "WISH" 4) (i5 : GInt mg "FIND" 5) (i6 : GInt mg "LEARN" 6) (i7 : GInt mg "BEST" 7) (i8 : GInt mg "CHECK" 8) (i9 : GInt mg "CLASSES" 9) (i10 : GInt mg "COST" 10) (i11 : GInt mg "VALUE" 11)
    (M0 : MethOk P wd K mg base CN 4 "start" ["self", "width", "inputs"] (spStart CN CL)) (M1 : MethOk P wd K mg base CN 3 "tell_language" ["self", "numbers", "priced"] (spLang CN CL)) (M2 : MethOk P wd K mg base CN 2 "tell_example" ["self", "inputs", "out"] (spEx CN CL)) (M3 : MethOk P wd K mg base CN 1 "forget_examples" ["self"] (spForget CN CL))
    (M4 : MethOk P wd K mg base CN 4 "tell_wish" ["self", "term"] (spWish K CN CL)) (M5 : MethOk P wd K mg base CN 9 "find_first" ["self", "most"] (spFind CN CL)) (M6 : MethOk P wd K mg base CN 9 "learn" ["self", "most"] (spLearn CN CL)) (M7 : MethOk P wd K mg base CN 8 "find_best" ["self", "most"] (spBest CN CL))
    (M8 : MethOk P wd K mg base CN 5 "check" ["self", "term"] (spCheck CN CL)) (M9 : MethOk P wd K mg base CN 8 "count_classes" ["self", "most"] (spClasses CN CL)) (M10 : MethOk P wd K mg base CN 4 "tell_cost" ["self", "term"] (spTellCost CN CL)) (M11 : MethOk P wd K mg base CN 5 "tell_value" ["self", "inputs", "term"] (spValue CN CL)) (M12 : MethOk P wd K mg base CN 1 "show_examples" ["self"] (spShow CN CL)) :
    FnOk P wd K mg base CX0 10 f fd ["line", "call", "plain", "rows"] (spAC CN CL) := by
  refine F.ok scAC (fun vs H Q E h => ?_) (fun cdv A outer s H vs Q E hr h => ?_)
  · obtain ⟨L, pa, rw, s, p, a, xs, x, rfl, _⟩ := h
    rfl
  · obtain ⟨L, pa, rw, st, p, a, xs, x, rfl, hraw, hin, hL, hS, hpa, hrw, q⟩ := h
    obtain ⟨t0, g0⟩ := i0
    obtain ⟨t1, g1⟩ := i1
    obtain ⟨t2, g2⟩ := i2
    obtain ⟨t3, g3⟩ := i3
    obtain ⟨t4, g4⟩ := i4
    obtain ⟨t5, g5⟩ := i5
    obtain ⟨t6, g6⟩ := i6
    obtain ⟨t7, g7⟩ := i7
    obtain ⟨t8, g8⟩ := i8
    obtain ⟨t9, g9⟩ := i9
    obtain ⟨t10, g10⟩ := i10
    obtain ⟨t11, g11⟩ := i11
    obtain ⟨f0, d0, F0, b0, m0⟩ := M0.ex
    obtain ⟨f1, d1, F1, b1, m1⟩ := M1.ex
    obtain ⟨f2, d2, F2, b2, m2⟩ := M2.ex
    obtain ⟨f3, d3, F3, b3, m3⟩ := M3.ex
    obtain ⟨f4, d4, F4, b4, m4⟩ := M4.ex
    obtain ⟨f5, d5, F5, b5, m5⟩ := M5.ex
    obtain ⟨f6, d6, F6, b6, m6⟩ := M6.ex
    obtain ⟨f7, d7, F7, b7, m7⟩ := M7.ex
    obtain ⟨f8, d8, F8, b8, m8⟩ := M8.ex
    obtain ⟨f9, d9, F9, b9, m9⟩ := M9.ex
    obtain ⟨f10, d10, F10, b10, m10⟩ := M10.ex
    obtain ⟨f11, d11, F11, b11, m11⟩ := M11.ex
    obtain ⟨f12, d12, F12, b12, m12⟩ := M12.ex
    have hr1 : Room 1 _ := hr.mono (by decide)
    have hr2 : Room 2 _ := hr.mono (by decide)
    have hr3 : Room 3 _ := hr.mono (by decide)
    have hr4 : Room 4 _ := hr.mono (by decide)
    have hr5 : Room 5 _ := hr.mono (by decide)
    have hr8 : Room 8 _ := hr.mono (by decide)
    refine ⟨_, pss_cons (ps_if (pt_cmpR op_eq (pv 1) (pe_glob (v := .int 0) rfl g0 ⟨_, rfl⟩) (nomark _)) (pss_one (ps_ret (pe_meth (pv 0) T.cl m0 F0 hr4 b0 .nil pass0 (pa_cons (pe_ix ix_list (pv 2) pe_int (fun _ _ => rfl)) (pa_cons (pe_ix ix_list (pv 2) pe_int (fun _ _ => rfl)) pa_nil))))) pss_nil)
      (pss_cons (ps_if (pt_cmpR op_eq (pv 1) (pe_glob (v := .int 1) rfl g1 ⟨_, rfl⟩) (nomark _)) (pss_one (ps_ret (pe_meth (pv 0) T.cl m1 F1 hr3 b1 .nil pass0 (pa_cons (pe_ix ix_list (pv 3) pe_int (fun _ _ => rfl)) (pa_cons (pe_ix ix_list (pv 3) pe_int (fun _ _ => rfl)) pa_nil))))) pss_nil)
      (pss_cons (ps_if (pt_cmpR op_eq (pv 1) (pe_glob (v := .int 2) rfl g2 ⟨_, rfl⟩) (nomark _)) (pss_one (ps_ret (pe_meth (pv 0) T.cl m2 F2 hr2 b2 .nil pass0 (pa_cons (pe_ix ix_list (pv 3) pe_int (fun _ _ => rfl)) (pa_cons (pe_ix ix_list (pv 2) pe_int (fun _ _ => rfl)) pa_nil))))) pss_nil)
      (pss_cons (ps_if (pt_cmpR op_eq (pv 1) (pe_glob (v := .int 3) rfl g3 ⟨_, rfl⟩) (nomark _)) (pss_one (ps_ret (pe_meth0 (pv 0) T.cl m3 F3 hr1 b3 .nil pass0))) pss_nil)
      (pss_cons (ps_if (pt_cmpR op_eq (pv 1) (pe_glob (v := .int 4) rfl g4 ⟨_, rfl⟩) (nomark _)) (pss_one (ps_ret (pe_meth (pv 0) T.cl m4 F4 hr4 b4 .nil pass0 (pa_cons (pe_ix ix_list (pv 3) pe_int (fun _ _ => rfl)) pa_nil)))) pss_nil)
      (pss_cons (ps_if (pt_cmpR op_eq (pv 1) (pe_glob (v := .int 5) rfl g5 ⟨_, rfl⟩) (nomark _)) (pss_one (ps_ret (pe_meth (pv 0) T.cl m5 F5 hr b5 .nil pass0 (pa_cons (pe_ix ix_list (pv 2) pe_int (fun _ _ => rfl)) pa_nil)))) pss_nil)
      (pss_cons (ps_if (pt_cmpR op_eq (pv 1) (pe_glob (v := .int 6) rfl g6 ⟨_, rfl⟩) (nomark _)) (pss_one (ps_ret (pe_meth (pv 0) T.cl m6 F6 hr b6 .nil pass0 (pa_cons (pe_ix ix_list (pv 2) pe_int (fun _ _ => rfl)) pa_nil)))) pss_nil)
      (pss_cons (ps_if (pt_cmpR op_eq (pv 1) (pe_glob (v := .int 7) rfl g7 ⟨_, rfl⟩) (nomark _)) (pss_one (ps_ret (pe_meth (pv 0) T.cl m7 F7 hr8 b7 .nil pass0 (pa_cons (pe_ix ix_list (pv 2) pe_int (fun _ _ => rfl)) pa_nil)))) pss_nil)
      (pss_cons (ps_if (pt_cmpR op_eq (pv 1) (pe_glob (v := .int 8) rfl g8 ⟨_, rfl⟩) (nomark _)) (pss_one (ps_ret (pe_meth (pv 0) T.cl m8 F8 hr5 b8 .nil pass0 (pa_cons (pe_ix ix_list (pv 3) pe_int (fun _ _ => rfl)) pa_nil)))) pss_nil)
      (pss_cons (ps_if (pt_cmpR op_eq (pv 1) (pe_glob (v := .int 9) rfl g9 ⟨_, rfl⟩) (nomark _)) (pss_one (ps_ret (pe_meth (pv 0) T.cl m9 F9 hr8 b9 .nil pass0 (pa_cons (pe_ix ix_list (pv 2) pe_int (fun _ _ => rfl)) pa_nil)))) pss_nil)
      (pss_cons (ps_if (pt_cmpR op_eq (pv 1) (pe_glob (v := .int 10) rfl g10 ⟨_, rfl⟩) (nomark _)) (pss_one (ps_ret (pe_meth (pv 0) T.cl m10 F10 hr4 b10 .nil pass0 (pa_cons (pe_ix ix_list (pv 3) pe_int (fun _ _ => rfl)) pa_nil)))) pss_nil)
      (pss_cons (ps_if (pt_cmpR op_eq (pv 1) (pe_glob (v := .int 11) rfl g11 ⟨_, rfl⟩) (nomark _)) (pss_one (ps_ret (pe_meth (pv 0) T.cl m11 F11 hr5 b11 .nil pass0 (pa_cons (pe_ix ix_list (pv 3) pe_int (fun _ _ => rfl)) (pa_cons (pe_ix ix_list (pv 3) pe_int (fun _ _ => rfl)) pa_nil))))) pss_nil)
      (pss_one (ps_ret (pe_meth0 (pv 0) T.cl m12 F12 hr1 b12 .nil pass0)))))))))))))), ?_⟩
    obtain ⟨dx, lg, wi, ex, e1, e2, e3, e4⟩ := hL.ex
    have no : ∀ {a b : Int}, a ≠ b → decide (V.int a = V.int b) = false := fun h => decide_eq_false fun z => h (V.int.inj z)
    cases hraw with
    | start x y hx hy =>
      obtain ⟨n, rfl⟩ := Int.eq_ofNat_of_zero_le hx
      obtain ⟨k, rfl⟩ := Int.eq_ofNat_of_zero_le hy
      refine ⟨_, rfl, rfl, _, rfl, ?_⟩
      refine ifT (decide_eq_true rfl) ?_
      exact ⟨_, rfl, L, dx, _, rfl, e1, noA (by decide +kernel) (by decide +kernel) (by decide +kernel), _, rfl, pa, _, 0, .int (n : Int), rfl, rfl, SqL.new hpa, rfl, _, rfl, pa, _, 1, .int (k : Int), rfl, rfl, SqL.new hpa, rfl, L, st, n, k, rfl, hL, hS, q⟩
    | lang r t os hr' ht' htw =>
      obtain ⟨a1, a2, h1, h2, h3⟩ := lists2 hrw
      rw [iv_nat hr'] at h2
      rw [iv_nat ht'] at h3
      have hlen : t.length ≤ 1000 := by
        simp only [PyInside.call, PySm08.bound, PyInside.each, PyInside.lists, Bool.and_eq_true, decide_eq_true_eq] at hin
        simp [PyInside.lists] at hin
        omega
      refine ⟨_, rfl, rfl, _, rfl, ?_⟩
      refine ifF (no (by decide)) ?_
      refine ⟨_, rfl, rfl, _, rfl, ?_⟩
      refine ifT (decide_eq_true rfl) ?_
      exact ⟨_, rfl, L, dx, _, rfl, e1, noA (by decide +kernel) (by decide +kernel) (by decide +kernel), _, rfl, rw, _, 0, .ref a1, rfl, rfl, SqL.new h1, rfl, _, rfl, rw, _, 1, .ref a2, rfl, rfl, SqL.new h1, rfl, L, a1, a2, st, r.map Int.toNat, t.map Int.toNat, os, ⟨rfl, hL, hS, q⟩, h2, h3, htw, by rw [List.length_map]; exact hlen⟩
    | ex x r hx hr' =>
      obtain ⟨n, rfl⟩ := Int.eq_ofNat_of_zero_le hx
      obtain ⟨a1, h1, h2⟩ := lists1 hrw
      rw [iv_nat hr'] at h2
      iterate 2
        refine ⟨_, rfl, rfl, _, rfl, ?_⟩
        refine ifF (no (by decide)) ?_
      refine ⟨_, rfl, rfl, _, rfl, ?_⟩
      refine ifT (decide_eq_true rfl) ?_
      exact ⟨_, rfl, L, dx, _, rfl, e1, noA (by decide +kernel) (by decide +kernel) (by decide +kernel), _, rfl, rw, _, 0, .ref a1, rfl, rfl, SqL.new h1, rfl, _, rfl, pa, _, 0, .int (n : Int), rfl, rfl, SqL.new hpa, rfl, L, a1, st, r.map Int.toNat, n, ⟨rfl, hL, hS, q⟩, h2⟩
    | clear =>
      iterate 3
        refine ⟨_, rfl, rfl, _, rfl, ?_⟩
        refine ifF (no (by decide)) ?_
      refine ⟨_, rfl, rfl, _, rfl, ?_⟩
      refine ifT (decide_eq_true rfl) ?_
      exact ⟨_, rfl, L, dx, _, rfl, e1, noA (by decide +kernel) (by decide +kernel) (by decide +kernel), L, st, rfl, hL, hS, q⟩
    | wish r hr' =>
      obtain ⟨a1, h1, h2⟩ := lists1 hrw
      rw [iv_nat hr'] at h2
      have hlen : r.length < 1000000 := by
        simp [PyInside.call, PySm08.bound, PyInside.each, PyInside.lists] at hin
        omega
      iterate 4
        refine ⟨_, rfl, rfl, _, rfl, ?_⟩
        refine ifF (no (by decide)) ?_
      refine ⟨_, rfl, rfl, _, rfl, ?_⟩
      refine ifT (decide_eq_true rfl) ?_
      exact ⟨_, rfl, L, dx, _, rfl, e1, noA (by decide +kernel) (by decide +kernel) (by decide +kernel), _, rfl, rw, _, 0, .ref a1, rfl, rfl, SqL.new h1, rfl, L, a1, st, r.map Int.toNat, ⟨rfl, hL, hS, q⟩, h2, by rw [List.length_map]; exact hlen⟩
    | find x hx =>
      obtain ⟨n, rfl⟩ := Int.eq_ofNat_of_zero_le hx
      iterate 5
        refine ⟨_, rfl, rfl, _, rfl, ?_⟩
        refine ifF (no (by decide)) ?_
      refine ⟨_, rfl, rfl, _, rfl, ?_⟩
      refine ifT (decide_eq_true rfl) ?_
      exact ⟨_, rfl, L, dx, _, rfl, e1, noA (by decide +kernel) (by decide +kernel) (by decide +kernel), _, rfl, pa, _, 0, .int (n : Int), rfl, rfl, SqL.new hpa, rfl, L, st, n, rfl, hL, hS, q⟩
    | learn x hx =>
      obtain ⟨n, rfl⟩ := Int.eq_ofNat_of_zero_le hx
      iterate 6
        refine ⟨_, rfl, rfl, _, rfl, ?_⟩
        refine ifF (no (by decide)) ?_
      refine ⟨_, rfl, rfl, _, rfl, ?_⟩
      refine ifT (decide_eq_true rfl) ?_
      exact ⟨_, rfl, L, dx, _, rfl, e1, noA (by decide +kernel) (by decide +kernel) (by decide +kernel), _, rfl, pa, _, 0, .int (n : Int), rfl, rfl, SqL.new hpa, rfl, L, st, n, rfl, hL, hS, q⟩
    | best x hx =>
      obtain ⟨n, rfl⟩ := Int.eq_ofNat_of_zero_le hx
      iterate 7
        refine ⟨_, rfl, rfl, _, rfl, ?_⟩
        refine ifF (no (by decide)) ?_
      refine ⟨_, rfl, rfl, _, rfl, ?_⟩
      refine ifT (decide_eq_true rfl) ?_
      exact ⟨_, rfl, L, dx, _, rfl, e1, noA (by decide +kernel) (by decide +kernel) (by decide +kernel), _, rfl, pa, _, 0, .int (n : Int), rfl, rfl, SqL.new hpa, rfl, L, st, n, rfl, hL, hS, q⟩
    | check r hr' =>
      obtain ⟨a1, h1, h2⟩ := lists1 hrw
      rw [iv_nat hr'] at h2
      iterate 8
        refine ⟨_, rfl, rfl, _, rfl, ?_⟩
        refine ifF (no (by decide)) ?_
      refine ⟨_, rfl, rfl, _, rfl, ?_⟩
      refine ifT (decide_eq_true rfl) ?_
      exact ⟨_, rfl, L, dx, _, rfl, e1, noA (by decide +kernel) (by decide +kernel) (by decide +kernel), _, rfl, rw, _, 0, .ref a1, rfl, rfl, SqL.new h1, rfl, L, a1, st, r.map Int.toNat, ⟨rfl, hL, hS, q⟩, h2⟩
    | classes x hx =>
      obtain ⟨n, rfl⟩ := Int.eq_ofNat_of_zero_le hx
      iterate 9
        refine ⟨_, rfl, rfl, _, rfl, ?_⟩
        refine ifF (no (by decide)) ?_
      refine ⟨_, rfl, rfl, _, rfl, ?_⟩
      refine ifT (decide_eq_true rfl) ?_
      exact ⟨_, rfl, L, dx, _, rfl, e1, noA (by decide +kernel) (by decide +kernel) (by decide +kernel), _, rfl, pa, _, 0, .int (n : Int), rfl, rfl, SqL.new hpa, rfl, L, st, n, rfl, hL, hS, q⟩
    | cost r hr' =>
      obtain ⟨a1, h1, h2⟩ := lists1 hrw
      rw [iv_nat hr'] at h2
      iterate 10
        refine ⟨_, rfl, rfl, _, rfl, ?_⟩
        refine ifF (no (by decide)) ?_
      refine ⟨_, rfl, rfl, _, rfl, ?_⟩
      refine ifT (decide_eq_true rfl) ?_
      exact ⟨_, rfl, L, dx, _, rfl, e1, noA (by decide +kernel) (by decide +kernel) (by decide +kernel), _, rfl, rw, _, 0, .ref a1, rfl, rfl, SqL.new h1, rfl, L, a1, st, r.map Int.toNat, ⟨rfl, hL, hS, q⟩, h2⟩
    | value r t hr' ht' =>
      obtain ⟨a1, a2, h1, h2, h3⟩ := lists2 hrw
      rw [iv_nat hr'] at h2
      rw [iv_nat ht'] at h3
      iterate 11
        refine ⟨_, rfl, rfl, _, rfl, ?_⟩
        refine ifF (no (by decide)) ?_
      refine ⟨_, rfl, rfl, _, rfl, ?_⟩
      refine ifT (decide_eq_true rfl) ?_
      exact ⟨_, rfl, L, dx, _, rfl, e1, noA (by decide +kernel) (by decide +kernel) (by decide +kernel), _, rfl, rw, _, 0, .ref a1, rfl, rfl, SqL.new h1, rfl, _, rfl, rw, _, 1, .ref a2, rfl, rfl, SqL.new h1, rfl, L, a1, a2, st, r.map Int.toNat, t.map Int.toNat, ⟨rfl, hL, hS, q⟩, h2, h3⟩
    | shows =>
      iterate 12
        refine ⟨_, rfl, rfl, _, rfl, ?_⟩
        refine ifF (no (by decide)) ?_
      exact ⟨_, rfl, L, dx, _, rfl, e1, noA (by decide +kernel) (by decide +kernel) (by decide +kernel), L, st, rfl, hL, hS, q⟩
end
end LT
set_option Elab.async false
set_option maxRecDepth 100000
set_option maxHeartbeats 2000000
set_option linter.unusedSimpArgs false
set_option linter.unusedVariables false
namespace LT
open PySem PySem.Spec PyProof.Rows L2
/-! ### answers, against answer_call's promise -/
def afterAll (s : Sm08.St) (cs : List (List (List Int))) : Sm08.St := cs.foldl (fun s c => (rawStep s c).1) s
theorem played_more : ∀ (cs : List (List (List Int))) (s : Sm08.St) (c : List (List Int)), PyFlat.played rawStep s (cs ++ [c]) = PyFlat.played rawStep s cs ++ [(rawStep (afterAll s cs) c).2]
  | [], s, c => rfl
  | d :: cs, s, c => by
    show (rawStep s d).2 :: PyFlat.played rawStep (rawStep s d).1 (cs ++ [c]) = _
    rw [played_more cs]
    rfl
theorem told_more (l : List (List Int)) (a : List Int) : PyFlat.told (l ++ [a]) = PyFlat.told l ++ ((a.length : Int) :: a) := by simp [PyFlat.told]
theorem put_app : ∀ (cs ds : List (List (List Int))), PyFlat.put (cs ++ ds) = PyFlat.put cs ++ PyFlat.put ds
  | [], _ => rfl
  | c :: cs, ds => by
    show PyFlat.put1 c ++ PyFlat.put (cs ++ ds) = (PyFlat.put1 c ++ PyFlat.put cs) ++ PyFlat.put ds
    rw [put_app cs ds, List.append_assoc]
theorem played_pre : ∀ (cs ds : List (List (List Int))) (s : Sm08.St), (PyFlat.told (PyFlat.played rawStep s cs)).length ≤ (PyFlat.told (PyFlat.played rawStep s (cs ++ ds))).length
  | [], ds, s => by simp [PyFlat.played, PyFlat.told]
  | c :: cs, ds, s => by
    have := played_pre cs ds (rawStep s c).1
    simp only [List.cons_append, PyFlat.played, PyFlat.told, List.flatMap_cons, List.length_append, List.length_cons] at this ⊢
    omega
theorem after_ok {cs : List (List (List Int))} (h : ∀ c ∈ cs, Asked1 c) : ∀ {s : Sm08.St}, StOk s → StOk (afterAll s cs) := by
  induction cs with
  | nil => exact fun h => h
  | cons c cs ih =>
    intro s hs
    obtain ⟨x, hx, hc⟩ := (h c (by simp)).raw
    refine ih (fun d hd => h d (by simp [hd])) ?_
    show StOk (rawStep s c).1
    rw [rawStep_of hc]
    exact step_ok hs x
theorem shape_le {p : Int} {n k : Nat} (h : PySm08.shape p = some (n, k)) : k ≤ 2 := by
  unfold PySm08.shape at h
  by_cases h0 : p = 0
  · rw [if_pos h0] at h; cases h; decide
  rw [if_neg h0] at h
  by_cases h1 : p = 1
  · rw [if_pos h1] at h; cases h; decide
  rw [if_neg h1] at h
  by_cases h2 : p = 2
  · rw [if_pos h2] at h; cases h; decide
  rw [if_neg h2] at h
  by_cases h3 : p = 3
  · rw [if_pos h3] at h; cases h; decide
  rw [if_neg h3] at h
  by_cases h4 : p = 4
  · rw [if_pos h4] at h; cases h; decide
  rw [if_neg h4] at h
  by_cases h5 : p = 5
  · rw [if_pos h5] at h; cases h; decide
  rw [if_neg h5] at h
  by_cases h6 : p = 6
  · rw [if_pos h6] at h; cases h; decide
  rw [if_neg h6] at h
  by_cases h7 : p = 7
  · rw [if_pos h7] at h; cases h; decide
  rw [if_neg h7] at h
  by_cases h8 : p = 8
  · rw [if_pos h8] at h; cases h; decide
  rw [if_neg h8] at h
  by_cases h9 : p = 9
  · rw [if_pos h9] at h; cases h; decide
  rw [if_neg h9] at h
  by_cases h10 : p = 10
  · rw [if_pos h10] at h; cases h; decide
  rw [if_neg h10] at h
  by_cases h11 : p = 11
  · rw [if_pos h11] at h; cases h; decide
  rw [if_neg h11] at h
  by_cases h12 : p = 12
  · rw [if_pos h12] at h; cases h; decide
  rw [if_neg h12] at h
  cases h
theorem sqL_fr {K : PySem.W.Frag} {H H' : Hp} {a L : Addr} {C dx : Addr} {fs : List (Str × V)} {xs : List V} (h : SqL K H a xs) (hL : H L = some (.ins C dx fs)) (s : Fr L H H') : SqL K H' a xs := by
  rcases h with h | h
  · left
    rcases h with h | ⟨o, h⟩
    · exact .inl (s _ _ (fun z => by rw [z, hL] at h; cases h) (by intro kvs z; cases z) h)
    · exact .inr ⟨o, s _ _ (fun z => by rw [z, hL] at h; cases h) (by intro kvs z; cases z) h⟩
  · exact .inr h
theorem LineAt.hide {CN CL : Addr} {H : Hp} {L g : Addr} {s : Sm08.St} {od : Obj} {u : HO} (h : LineAt CN CL H L s) (hg : H g = some (.frz od u)) : LineAt CN CL (hide H g) L s := by
  obtain ⟨dx, lg, wi, ex, h1, h2, h3, h4⟩ := h.ex
  obtain ⟨dL, an, ap, l1, l2, l3⟩ := h2.ex
  have k1 : ∀ {b : Addr} {o : HO}, (∀ x v, o ≠ .frz x v) → H b = some o → LT.hide H g b = some o := fun ho e => hide_of hg ho e
  exact ⟨dx, lg, wi, ex, k1 (fun _ _ z => nomatch z) h1, ⟨dL, an, ap, k1 (fun _ _ z => nomatch z) l1, k1 (fun _ _ z => nomatch z) l2, k1 (fun _ _ z => nomatch z) l3⟩, k1 (fun _ _ z => nomatch z) h3, k1 (fun _ _ z => nomatch z) h4⟩
theorem ListsH.hide {H : Hp} {p g : Addr} {xs : List (List Int)} {od : Obj} {u : HO} (h : ListsH H p xs) (hg : H g = some (.frz od u)) : ListsH (hide H g) p xs := by
  obtain ⟨as, h1, h2⟩ := h.ex
  exact ⟨as, hide_of hg (fun _ _ z => nomatch z) h1, paired_imp h2 fun b y _ e => hide_of hg (fun _ _ z => nomatch z) e⟩
theorem ListsH.mono {H H' : Hp} {p : Addr} {xs : List (List Int)} (h : ListsH H p xs) (s : Same H H') : ListsH H' p xs := by
  obtain ⟨as, h1, h2⟩ := h.ex
  exact ⟨as, s _ _ h1, paired_imp h2 fun b y _ e => s _ _ e⟩
theorem ListsH.fr {H H' : Hp} {p L C dx : Addr} {fs : List (Str × V)} {xs : List (List Int)} (h : ListsH H p xs) (hL : H L = some (.ins C dx fs)) (s : Fr L H H') : ListsH H' p xs := by
  obtain ⟨as, h1, h2⟩ := h.ex
  have k1 : ∀ {b : Addr} {ys : List V}, H b = some (.lst ys) → H' b = some (.lst ys) := fun e => s _ _ (fun z => by rw [z, hL] at e; cases e) (by intro kvs z; cases z) e
  exact ⟨as, k1 h1, paired_imp h2 fun b y _ e => k1 e⟩
theorem sum_rows : ∀ xs : List (List Int), ((xs.map fun x => (1 : Int) + (x.length : Int)).sum) = ((PyFlat.putRows xs).length : Int)
  | [] => rfl
  | x :: xs => by
    have ih := sum_rows xs
    have e : (PyFlat.putRows (x :: xs)).length = x.length + 1 + (PyFlat.putRows xs).length := by simp [PyFlat.putRows, PyFlat.putRow]; omega
    rw [List.map_cons, List.sum_cons, ih, e]
    omega
theorem ten_line {n : Nat} (h : n ≤ 10000000) : n ≤ sizeLine := by
  have : (10000000 : Nat) ≤ sizeLine := by decide
  omega
theorem sqL_hide {K : PySem.W.Frag} {H3 H4 H5 : Hp} {a L g : Addr} {C dx : Addr} {fs : List (Str × V)} {xs : List V} (h : SqL K (hide H3 g) a xs) (s4 : Same (hide H3 g) H4) (hL : H4 L = some (.ins C dx fs)) (fr : Fr L H4 H5) : SqL K (hide H5 g) a xs := by
  have k1 : ∀ {o : HO}, (∀ C dx fs, o ≠ .ins C dx fs) → (∀ kvs, o ≠ .dT kvs) → hide H3 g a = some o → hide H5 g a = some o := fun ho hd e => by
    rw [hide_ne (hide_some e).1]
    have e4 := s4 _ _ e
    exact fr _ _ (fun z => by rw [z, hL] at e4; exact ho _ _ _ (Option.some.inj e4).symm) hd e4
  rcases h with h | h
  · left
    rcases h with h | ⟨o, h⟩
    · exact .inl (k1 (fun _ _ _ z => nomatch z) (fun _ z => nomatch z) h)
    · exact .inr ⟨o, k1 (fun _ _ _ z => nomatch z) (fun _ z => nomatch z) h⟩
  · exact .inr h
/-- the table of shapes, as the top has written it -/
def GShape (K : PySem.W.Frag) (mg : Str → Option Value) : Prop := ∃ aS, mg "SHAPES" = some (.ref aS) ∧ ∀ (p : Int) (n k : Nat), PySm08.shape p = some (n, k) → ∃ tS, KDctI K aS p (.ref tS) ∧ ∀ H, SqT K H tS [.int (n : Int), .int (k : Int)]
def spAnswers (K : PySem.W.Frag) : Sp := fun vs H Q _ => ∃ (a : Addr) (l : List Int), vs = [.ref a] ∧ SqL K H a (l.map V.int) ∧ PySm08.answers_asked l = true ∧
  ∀ (H' : Hp) (p : Addr), H' p = some (.lst ((PySm08.answers l).map V.int)) → Q (.ref p) H'
abbrev sAnswers : Stmt := top 66
theorem scAnswers : FnScope ["calls", "line", "given", "place", "shape", "rows_from", "rows", "answer", "row"] ["calls"] (defScope sAnswers) := ⟨rfl, rfl, rfl, by decide +kernel, rfl, by decide +kernel, by decide +kernel⟩
section
variable {P : Program} {wd : World} {K : PySem.W.Frag} {mg : Str → Option Value} {base : Heap} {CN CL : Addr}
theorem ok_answers {f fI : Addr} {fd fdI : FuncData} (F : Fun K "answers" "answers" sAnswers f fd) (T : NCls K CN) (ml : mg "len" = none) (msm : mg "sum" = none) (hSh : GShape K mg) (gN : mg "Line" = some (.ref CN)) (M : Mk K CN fI)
    (FI : FnOk P wd K mg base CX0 4 fI fdI ["self"] (spNInit CN CL)) (bI : Binds K fdI ["self"] [])
    (GR : CalN P wd K mg base 1 "read_rows" ["calls", "place", "count"] (spRead K)) (GA : CalN P wd K mg base 10 "answer_call" ["line", "call", "plain", "rows"] (spAC CN CL)) : FnOk P wd K mg base CX0 11 f fd ["calls"] (spAnswers K) := by
  refine F.ok scAnswers (fun vs H Q E h => ?_) (fun cdv A outer s H vs Q E hr h => ?_)
  · obtain ⟨a, l, rfl, _⟩ := h
    rfl
  · obtain ⟨a, l, rfl, hL, hask, q⟩ := h
    obtain ⟨aS, gS, hS⟩ := hSh
    obtain ⟨fR, gR, ⟨fdR, FR, bR, kR⟩⟩ := GR.ex
    obtain ⟨fA, gA, ⟨fdA, FA, bA, kA⟩⟩ := GA.ex
    have hr1 : Room 1 _ := hr.mono (by decide)
    have hr5 : Room 5 _ := hr.mono (by decide)
    refine ⟨_, pss_cons (ps_set (i := 1) scAnswers.nd rfl (Or.inl rfl) (pe_make0 M FI hr5 rfl gN bI .nil pass0))
      (pss_cons (ps_set (i := 2) scAnswers.nd rfl (Or.inl rfl) (pe_lst pa_nil))
      (pss_cons (ps_set (i := 3) scAnswers.nd rfl (Or.inl rfl) pe_int)
      (pss_cons (ps_while PassesOwn.never (pt_cmpR op_lt (pv 3) (pe_callB call_len_seq (by rfl) ml PySem.boot_len (pa_cons (pv 0) pa_nil)) (nomark _))
        (pss_cons (ps_set (i := 4) scAnswers.nd rfl (Or.inl rfl) (pe_ix ix_kdictI (pe_glob (v := .ref aS) rfl gS rfl) (pe_ix ix_list (pv 0) (pv 3) (fun _ _ => rfl)) (fun _ _ => rfl)))
        (pss_cons (ps_set (i := 5) scAnswers.nd rfl (Or.inl rfl) (pe_op op_add (pe_op op_add (pv 3) pe_int) (pe_ix ix_tup (pv 4) pe_int (fun _ _ => rfl))))
        (pss_cons (ps_set (i := 6) scAnswers.nd rfl (Or.inl rfl) (pe_lock (pe_call FR hr1 rfl gR kR bR .nil pass0 (pa_cons (pv 0) (pa_cons (pv 5) (pa_cons (pe_ix ix_tup (pv 4) pe_int (fun _ _ => rfl)) pa_nil))))))
        (pss_cons (ps_set (i := 7) scAnswers.nd rfl (Or.inl rfl) (pe_lock (pe_call FA hr rfl gA kA bA .nil pass0 (pa_cons (pv 1) (pa_cons (pe_ix ix_list (pv 0) (pv 3) (fun _ _ => rfl)) (pa_cons (pe_slice sl_list (pv 0) (po_some (pe_op op_add (pv 3) pe_int)) (po_some (pv 5))) (pa_cons (pv 6) pa_nil)))))))
        (pss_cons (ps_expr (pe_bm PySem.F.plainAttrs_list PySem.F.slot_list_append PySem.F.type_list_append mt_append (pv 2) (pa_cons (pe_callB call_len_seq (by rfl) ml PySem.boot_len (pa_cons (pv 7) pa_nil)) pa_nil)))
        (pss_cons (ps_expr (pe_bm PySem.F.plainAttrs_list PySem.F.slot_list_extend PySem.F.type_list_extend mt_extend (pv 2) (pa_cons (pv 7) pa_nil)))
        (pss_one (ps_set (i := 3) scAnswers.nd rfl (Or.inl rfl) (pe_op op_add (pv 5) (pe_callB (cr_sum rfl) (by rfl) msm (by decide +kernel) (pa_cons
          (pe_lc (own := [("row", 8)]) (g := gName 8) (tt := tYes) (te := tOp (rI0 fun i j => .int (i + j)) (tC (.int 1)) (tCB (fun xs H Q => ∃ p ys, xs = [.ref p] ∧ (SqL K H p ys ∨ SqT K H p ys) ∧ Q (.int ys.length) H) (tCons (tVar 8) tNil))) rfl scAnswers.nd (pi_list (pv 6)) (blkOk_by (N := ["calls", "line", "given", "place", "shape", "rows_from", "rows", "answer", "row"]) (sc := defScope sAnswers) (by decide +kernel))
            (fun _ _ _ _ _ => pg_name (i := 8) scAnswers.nd rfl (Or.inl rfl)) (fun _ _ _ _ _ => pts_nil) (fun _ _ _ _ _ => pe_op op_add pe_int (pe_callB call_len_seq (by rfl) ml PySem.boot_len (pa_cons (pv 8) pa_nil)))) pa_nil))))))))))))
      (pss_one (ps_ret (pv 2)))))), ?_⟩
    obtain ⟨cs, rfl, hcn, hcs, hans, hlen⟩ := asked_inv hask
    intro L dx hLn hdx nd
    refine ⟨L, dx, rfl, upd_same, fun H1 sb hL1 => ⟨rfl, ?_⟩⟩
    have s1 : Same H H1 := fun b o e => sb b o (ne_of_none e hLn) (by rw [upd_ne (ne_of_none e hLn), upd_ne (ne_of_none e hdx)]; exact e)
    refine ⟨by show 0 ≤ sizeLine; decide, fun g hg => ?_⟩
    rw [hans] at hlen q
    refine ⟨fun fuel σ H' => ∃ (v4 v5 v6 v7 : Option V) (dn td : List (List (List Int))), σ = [some (.ref a), some (.ref L), some (.ref g), some (.int ((PyFlat.put dn).length : Int)), v4, v5, v6, v7, none] ∧ cs = dn ++ td ∧ fuel = td.length ∧ SqL K (hide H' g) a ((PyFlat.put cs).map V.int) ∧ LineAt CN CL (hide H' g) L (afterAll Sm08.init dn) ∧ H' g = some (.lst ((PyFlat.told (PyFlat.played rawStep Sm08.init dn)).map V.int)),
      ⟨cs.length, none, none, none, none, [], cs, rfl, rfl, rfl, by rw [hide_upd]; exact (s1.trans (free_hide hg)).seq hL, by rw [hide_upd]; exact hL1.mono (free_hide hg), upd_same⟩, ?_⟩
    rintro fuel σ H' ⟨v4, v5, v6, v7, dn, td, rfl, hdt, rfl, hLh, hLine, hgv⟩
    have hLl : SqL K H' a ((PyFlat.put cs).map V.int) := hide_same.seq hLh
    refine ⟨_, rfl, _, rfl, a, _, rfl, .inl hLl, _, _, rfl, rfl, _, rfl, ?_⟩
    rw [List.length_map]
    cases td with
    | nil =>
      rw [List.append_nil] at hdt
      refine ifF (decide_eq_false (by rw [hdt]; omega)) ?_
      exact ⟨_, rfl, q _ g (by rw [hgv, hdt])⟩
    | cons c td =>
      have hc := hcs c (by rw [hdt]; simp)
      obtain ⟨p, ar, xs, rfl, hsh⟩ := hc.ok
      obtain ⟨x, hraw, hcall⟩ := hc.raw
      have hput : PyFlat.put cs = PyFlat.put dn ++ ((p :: ar) ++ (PyFlat.putRows xs ++ PyFlat.put td)) := by
        rw [hdt, put_app]
        show _ ++ (((p :: ar) ++ PyFlat.putRows xs) ++ PyFlat.put td) = _
        rw [List.append_assoc]
      have hlt : (PyFlat.put dn).length < (PyFlat.put cs).length := by
        rw [hput]
        simp
      refine ifT (decide_eq_true (by omega)) ?_
      refine ⟨_, fun _ _ h => h, ?_⟩
      have d0 : (PyFlat.put cs).drop (PyFlat.put dn).length = (p :: ar) ++ (PyFlat.putRows xs ++ PyFlat.put td) := by
        rw [hput, PyFlat.drop_len]
      have g0 : (PyFlat.put cs)[(PyFlat.put dn).length]? = some p := by
        have := congrArg (fun z : List Int => z[0]?) d0
        simpa using this
      have d1 : (PyFlat.put cs).drop ((PyFlat.put dn).length + 1) = ar ++ (PyFlat.putRows xs ++ PyFlat.put td) := by
        have := congrArg (List.drop 1) d0
        rw [List.drop_drop] at this
        rw [this]
        simp
      have d2 : (PyFlat.put cs).drop ((PyFlat.put dn).length + 1 + ar.length) = PyFlat.putRows xs ++ PyFlat.put td := by
        have := congrArg (List.drop ar.length) d1
        rw [List.drop_drop] at this
        rw [this, PyFlat.drop_len]
      have hlen2 : (PyFlat.put dn).length + 1 + ar.length ≤ (PyFlat.put cs).length := by
        rw [hput]
        simp
        omega
      obtain ⟨tS, hK, hT⟩ := hS p ar.length xs.length hsh
      have eix : (((PyFlat.put cs).map V.int))[(PyFlat.put dn).length]? = some (.int p) := by rw [List.getElem?_map, g0]; rfl
      refine ⟨_, rfl, _, rfl, a, _, ((PyFlat.put dn).length : Int), .int p, rfl, rfl, hLl, atI_nat eix, aS, p, .ref tS, rfl, rfl, hK, ?_⟩
      refine ⟨_, rfl, _, _, rfl, rfl, _, rfl, tS, _, 0, .int (ar.length : Int), rfl, rfl, hT _, rfl, _, _, rfl, rfl, ?_⟩
      have ef : ((PyFlat.put dn).length : Int) + 1 + (ar.length : Int) = (((PyFlat.put dn).length + 1 + ar.length : Nat) : Int) := by omega
      have kle : xs.length ≤ 2 := shape_le hsh
      have hLk : ∀ o, SqL K (upd H' g o) a ((PyFlat.put cs).map V.int) := fun o => same_hide.seq hLh
      -- rows, given locked
      refine ⟨g, _, hgv, trivial, fun od => ⟨_, rfl, _, rfl, _, rfl, tS, _, 1, .int (xs.length : Int), rfl, rfl, hT _, rfl, ?_⟩⟩
      refine ⟨a, PyFlat.put cs, (PyFlat.put dn).length + 1 + ar.length, xs, PyFlat.put td, by rw [← ef]; rfl, hLk _, d2, by omega, fun H3 rw s3 hR3 => ?_⟩
      have hg3 : H3 g = some (.frz od (.lst ((PyFlat.told (PyFlat.played rawStep Sm08.init dn)).map V.int))) := s3 _ _ upd_same
      refine ⟨hg3, ?_⟩
      have sh3 : Same (hide H' g) (hide H3 g) := by
        have := hide_mono (g := g) s3
        rw [hide_upd] at this
        exact this
      have hR3h := hR3.hide hg3
      have hLh3 : SqL K (hide H3 g) a ((PyFlat.put cs).map V.int) := sh3.seq hLh
      have hLine3 := hLine.mono sh3
      -- answer, given locked
      refine ⟨g, _, upd_same, trivial, fun od2 => ?_⟩
      rw [upd_upd]
      have sk3 : Same (hide H3 g) (upd H3 g (.frz od2 (.lst ((PyFlat.told (PyFlat.played rawStep Sm08.init dn)).map V.int)))) := same_hide
      have hLl3 : SqL K (upd H3 g (.frz od2 (.lst ((PyFlat.told (PyFlat.played rawStep Sm08.init dn)).map V.int)))) a ((PyFlat.put cs).map V.int) := sk3.seq hLh3
      refine ⟨_, rfl, _, rfl, _, rfl, a, _, ((PyFlat.put dn).length : Int), .int p, rfl, rfl, hLl3, atI_nat eix, _, rfl, _, rfl, _, _, rfl, rfl, _, rfl, _, rfl, _, rfl, a, _, rfl, hLl3, fun pn hpn => ?_⟩
      have ecut : cutV ((PyFlat.put cs).map V.int) (some (((PyFlat.put dn).length : Int) + 1)) (some (((PyFlat.put dn).length : Int) + 1 + (ar.length : Int))) = ar.map V.int := by
        have e1 : ((PyFlat.put dn).length : Int) + 1 = (((PyFlat.put dn).length + 1 : Nat) : Int) := by omega
        unfold cutV
        rw [ef, e1, HT.sIx_nat, HT.sIx_nat, List.length_map, Nat.min_eq_left hlen2, Nat.min_eq_left (show (PyFlat.put dn).length + 1 ≤ (PyFlat.put cs).length by omega), ← List.map_drop, d1, ← List.map_take]
        have e3 : (PyFlat.put dn).length + 1 + ar.length - ((PyFlat.put dn).length + 1) = ar.length := by omega
        rw [e3, PyFlat.take_len]
      rw [ecut]
      have s4 := sk3.trans (same_upd (o := .lst (ar.map V.int)) hpn)
      have hg4 : upd (upd H3 g (.frz od2 (.lst ((PyFlat.told (PyFlat.played rawStep Sm08.init dn)).map V.int)))) pn (.lst (ar.map V.int)) g = some (.frz od2 (.lst ((PyFlat.told (PyFlat.played rawStep Sm08.init dn)).map V.int))) := same_upd hpn _ _ upd_same
      have hLine4 := hLine3.mono s4
      obtain ⟨dx4, lg4, wi4, ex4, hL4, _⟩ := hLine4.ex
      have hR4 := hR3h.mono s4
      have hLh4 := s4.seq hLh3
      have hpn4 : upd (upd H3 g (.frz od2 (.lst ((PyFlat.told (PyFlat.played rawStep Sm08.init dn)).map V.int)))) pn (.lst (ar.map V.int)) pn = some (.lst (ar.map V.int)) := upd_same
      generalize upd (upd H3 g (.frz od2 (.lst ((PyFlat.told (PyFlat.played rawStep Sm08.init dn)).map V.int)))) pn (.lst (ar.map V.int)) = H4 at *
      refine ⟨_, rfl, L, pn, rw, afterAll Sm08.init dn, p, ar, xs, x, rfl, hraw, hc.ins, hLine4, after_ok (fun d hd => hcs d (by rw [hdt]; simp [hd])) init_ok, hpn4, hR4, fun H5 r fr hL5 hr5 hfr => ?_⟩
      have nLg : g ≠ L := fun z => by rw [z, hL4] at hg4; cases hg4
      have hg5 : H5 g = some (.frz od2 (.lst ((PyFlat.told (PyFlat.played rawStep Sm08.init dn)).map V.int))) := fr _ _ nLg (by intro kvs z; cases z) hg4
      refine ⟨hg5, ?_⟩
      have hR5 := (hR4.fr hL4 fr).hide hg5
      have hL5h := hL5.hide hg5
      have nrg : r ≠ g := fun z => by rw [z, hg5] at hr5; cases hr5
      have hLh5 : SqL K (hide H5 g) a ((PyFlat.put cs).map V.int) := sqL_hide hLh3 s4 hL4 fr
      have hstep : rawStep (afterAll Sm08.init dn) ((p :: ar) :: xs) = Sm08.step (afterAll Sm08.init dn) x := rawStep_of hcall
      rw [← hstep] at hr5 hL5h
      have hmore : PyFlat.told (PyFlat.played rawStep Sm08.init (dn ++ [(p :: ar) :: xs])) = PyFlat.told (PyFlat.played rawStep Sm08.init dn) ++ (((rawStep (afterAll Sm08.init dn) ((p :: ar) :: xs)).2.length : Int) :: (rawStep (afterAll Sm08.init dn) ((p :: ar) :: xs)).2) := by
        rw [played_more, told_more]
      have hbig : (PyFlat.told (PyFlat.played rawStep Sm08.init dn)).length + (1 + (rawStep (afterAll Sm08.init dn) ((p :: ar) :: xs)).2.length) ≤ 10000000 := by
        have h1 := played_pre (dn ++ [(p :: ar) :: xs]) td Sm08.init
        rw [List.append_assoc, List.singleton_append, ← hdt, hmore] at h1
        rw [List.length_append, List.length_cons] at h1
        omega
      have hafter : (rawStep (afterAll Sm08.init dn) ((p :: ar) :: xs)).1 = afterAll Sm08.init (dn ++ [(p :: ar) :: xs]) := by
        unfold afterAll
        rw [List.foldl_append]
        rfl
      rw [hafter] at hL5h
      generalize (rawStep (afterAll Sm08.init dn) ((p :: ar) :: xs)).2 = an at *
      generalize PyFlat.told (PyFlat.played rawStep Sm08.init dn) = tl at *
      -- given.append(len(answer))
      have hr6 : ∀ o, upd H5 g o r = some (.lst (ansV an)) := fun o => by rw [upd_ne nrg]; exact hr5
      refine ⟨_, rfl, .inl ⟨rfl, _, SqL.new upd_same⟩, _, rfl, r, _, rfl, .inl (SqL.new (hr6 _)), g, _, _, rfl, rfl, upd_same, ?_, ?_⟩
      · rw [List.length_map]
        exact Nat.lt_of_lt_of_le (by omega) (ten_line (Nat.le_refl 10000000))
      rw [upd_upd]
      -- given.extend(answer)
      refine ⟨_, rfl, .inl ⟨rfl, _, SqL.new upd_same⟩, _, rfl, g, r, _, _, rfl, rfl, upd_same, hr6 _, ?_, ?_⟩
      · rw [List.length_append, List.length_map, ansV, List.length_map, List.length_singleton]
        exact ten_line (by omega)
      rw [upd_upd]
      have lan : (ansV an).length = an.length := by rw [ansV, List.length_map]
      have egv : (tl.map V.int ++ [V.int (((ansV an).length : Nat) : Int)]) ++ ansV an = (PyFlat.told (PyFlat.played rawStep Sm08.init (dn ++ [(p :: ar) :: xs]))).map V.int := by
        rw [hmore, lan, ansV, List.map_append, List.map_cons, List.append_assoc]
        rfl
      rw [egv]
      have hR6 := hR5.mono (same_hide (o := .lst ((PyFlat.told (PyFlat.played rawStep Sm08.init (dn ++ [(p :: ar) :: xs]))).map V.int)))
      have hg6 : upd H5 g (.lst ((PyFlat.told (PyFlat.played rawStep Sm08.init (dn ++ [(p :: ar) :: xs]))).map V.int)) g = some (.lst ((PyFlat.told (PyFlat.played rawStep Sm08.init (dn ++ [(p :: ar) :: xs]))).map V.int)) := upd_same
      have hh6 : hide (upd H5 g (.lst ((PyFlat.told (PyFlat.played rawStep Sm08.init (dn ++ [(p :: ar) :: xs]))).map V.int))) g = hide H5 g := hide_upd
      generalize upd H5 g (.lst ((PyFlat.told (PyFlat.played rawStep Sm08.init (dn ++ [(p :: ar) :: xs]))).map V.int)) = H6 at *
      -- place = rows_from + sum(..)
      obtain ⟨as, hrw6, has6⟩ := hR6.ex
      have las : as.length = xs.length := has6.length
      refine ⟨_, rfl, _, rfl, rw, rfl, ⟨_, SqL.new hrw6⟩, fun D hD => ?_⟩
      refine lc_list (K := K) (a := rw) (xs := as.map V.ref) (fun i H7 => Same H6 H7 ∧ H7 D = some (.lst (((xs.take i).map fun y => (1 : Int) + (y.length : Int)).map V.int))) ⟨same_upd hD, upd_same⟩ (fun i H7 _ p => SqL.new (p.1 _ _ hrw6)) ?_ ?_
      · intro i v H7 hv p7
        obtain ⟨ai, hai, rfl⟩ := refs_get hv
        obtain ⟨y, hy, hya⟩ := paired_get has6 hai
        have hya' : H6 ai = some (.lst (y.map V.int)) := hya
        refine ⟨rfl, ?_⟩
        unfold tYes; dsimp only
        rw [if_pos rfl]
        refine ⟨_, rfl, ai, _, rfl, .inl (SqL.new (p7.1 _ _ hya')), _, _, rfl, rfl, _, p7.2, ?_, ?_, ?_⟩
        · rw [List.length_map, List.length_map, List.length_take]
          exact small_lt (by omega)
        · intro b o e
          rw [upd_ne (ne_of_none e hD)]
          exact p7.1 b o e
        · rw [upd_same, List.take_add_one, hy, List.map_append, List.map_append, List.length_map]
          rfl
      · rintro H7 ⟨s7, hD7⟩
        rw [List.length_map, las, List.take_length] at hD7
        refine ⟨D, _, rfl, SqL.new hD7, _, _, rfl, rfl, ?_⟩
        rw [sum_rows]
        have sh7 : Same (hide H5 g) (hide H7 g) := by
          rw [← hh6]
          exact hide_mono s7
        refine ⟨td.length, by simp, some (.ref tS), some (.int (((PyFlat.put dn).length : Int) + 1 + (ar.length : Int))), some (.ref rw), some (.ref r), dn ++ [(p :: ar) :: xs], td, ?_, by rw [hdt]; simp, rfl, sh7.seq hLh5, hL5h.mono sh7, s7 _ _ hg6⟩
        have elen : ((PyFlat.put dn).length : Int) + 1 + (ar.length : Int) + ((PyFlat.putRows xs).length : Int) = ((PyFlat.put (dn ++ [(p :: ar) :: xs])).length : Int) := by
          rw [put_app]
          have : PyFlat.put [(p :: ar) :: xs] = (p :: ar) ++ PyFlat.putRows xs := by
            show ((p :: ar) ++ PyFlat.putRows xs) ++ [] = _
            rw [List.append_nil]
          rw [this, List.length_append, List.length_append, List.length_cons]
          omega
        rw [← elen]
        rfl
end
end LT
set_option Elab.async false
set_option maxRecDepth 100000
set_option maxHeartbeats 4000000
set_option linter.unusedSimpArgs false
set_option linter.unusedVariables false
namespace LT
open PySem PySem.Spec PyProof.Rows L2
/-! ### the end: what the top has written -/
structure FnAt (K : PySem.W.Frag) (x q : Str) (st : Stmt) (f : Addr) : Prop where
  ex : ∃ fd, Fun K x q st f fd
structure FnT (K : PySem.W.Frag) (mg : Str → Option Value) (x : Str) (st : Stmt) : Prop where
  ex : ∃ f fd, mg x = some (.ref f) ∧ Fun K x x st f fd
structure FnM (K : PySem.W.Frag) (C : Addr) (m q : Str) (st : Stmt) : Prop where
  ex : ∃ f fd, Meth K C m f ∧ Fun K m q st f fd
structure FnI (K : PySem.W.Frag) (C : Addr) (q : Str) (st : Stmt) : Prop where
  ex : ∃ f fd, Mk K C f ∧ Fun K "__init__" q st f fd
section
variable {K : PySem.W.Frag} {h : Heap} {mg : Str → Option Value}
theorem fnAt_mk {x q : Str} {st : Stmt} {f : Addr} {oc : Value} {od an : Option Addr} {osl : Array (Option Value)} {kV doc pm cdv ct : Value} (l : K.lookup f = some ⟨oc, od, .func (PySem.W.fnOf x q (defArgs st) (defBody st) (defScope st) .none kV doc pm an cdv ct), osl⟩) (c : PySem.W.codeIn K cdv q = true) (k : PySem.W.keepIn K (.ref f) = true) : FnAt K x q st f := ⟨_, fun_mk l c k⟩
theorem fnT_mk {x : Str} {st : Stmt} {f : Addr} {oc : Value} {od an : Option Addr} {osl : Array (Option Value)} {kV doc pm cdv ct : Value} (X : K.In h) (G : h.Ns mainGlobals mg) (a : PySem.W.nsIn K mainGlobals x = some (some (.ref f))) (l : K.lookup f = some ⟨oc, od, .func (PySem.W.fnOf x x (defArgs st) (defBody st) (defScope st) .none kV doc pm an cdv ct), osl⟩) (c : PySem.W.codeIn K cdv x = true) (k : PySem.W.keepIn K (.ref f) = true) : FnT K mg x st := ⟨f, _, PySem.W.mg_of X G a, fun_mk l c k⟩
theorem fnM_mk {C : Addr} {m q : Str} {st : Stmt} {f : Addr} {oc : Value} {od an : Option Addr} {osl : Array (Option Value)} {kV doc pm cdv ct : Value} (a : PySem.W.findIn K (.ref C) m = some (some (.ref f))) (i : PySem.W.isFn K (.ref f) = true) (l : K.lookup f = some ⟨oc, od, .func (PySem.W.fnOf m q (defArgs st) (defBody st) (defScope st) .none kV doc pm an cdv ct), osl⟩) (c : PySem.W.codeIn K cdv q = true) (k : PySem.W.keepIn K (.ref f) = true) : FnM K C m q st := ⟨f, _, ⟨a, i, k⟩, fun_mk l c k⟩
theorem fnI_mk {C : Addr} {q : Str} {st : Stmt} {f : Addr} {oc : Value} {od an : Option Addr} {osl : Array (Option Value)} {kV doc pm cdv ct : Value} (a : PySem.W.findIn K (.ref C) "__init__" = some (some (.ref f))) (i : PySem.W.isFn K (.ref f) = true) (l : K.lookup f = some ⟨oc, od, .func (PySem.W.fnOf "__init__" q (defArgs st) (defBody st) (defScope st) .none kV doc pm an cdv ct), osl⟩) (c : PySem.W.codeIn K cdv q = true) (k : PySem.W.keepIn K (.ref f) = true) (mk : PySem.W.makesIn K C = true) (kc : PySem.W.keepIn K (.ref C) = true) : FnI K C q st := ⟨f, _, ⟨mk, a, i, kc⟩, fun_mk l c k⟩
theorem cls_mk {C : Addr} (pg : PySem.W.plainGet K C Str.empty = true) (hd : PySem.W.hasDictIn K C = true) (po : PySem.W.plainOver K C = true) (sa : PySem.W.findIn K (.ref C) "__setattr__" = some (some (.builtin "object.__setattr__"))) : Cls K C := ⟨pg, hd, po, sa⟩
theorem gint_mk {x : Str} {n : Int} {t : Tok} (X : K.In h) (G : h.Ns mainGlobals mg) (a : PySem.W.nsIn K mainGlobals x = some (some (.int n t))) : GInt mg x n := ⟨t, PySem.W.mg_of X G a⟩
theorem sqT_written {a : Addr} {od : Option Addr} {its : Array Value} {n : Nat} {sl : Array (Option Value)} {xs : List V} (l : K.lookup a = some ⟨.type "tuple", od, .seq its n, sl⟩) (z : its.size ≤ sizeLine) (v : Vals xs its.toList) : ∀ H, SqT K H a xs := fun H => .inr ⟨_, its, n, l, rfl, rfl, z, v⟩

theorem arities_mk {a : Addr} {od : Option Addr} {n : Nat} {sl : Array (Option Value)} {t0 t1 t2 t3 t4 t5 t6 t7 t8 t9 t10 t11 : Tok} (X : K.In h) (G : h.Ns mainGlobals mg) (e : PySem.W.nsIn K mainGlobals "ARITIES" = some (some (.ref a))) (l : K.lookup a = some ⟨.type "tuple", od, .seq #[.int 1 t0, .int 1 t1, .int 1 t2, .int 1 t3, .int 2 t4, .int 2 t5, .int 2 t6, .int 2 t7, .int 2 t8, .int 2 t9, .int 2 t10, .int 3 t11] n, sl⟩) : GTup K mg "ARITIES" (iv arities) :=
  ⟨a, PySem.W.mg_of X G e, sqT_written l (by show 12 ≤ sizeLine; decide) (.cons ⟨_, rfl⟩ (.cons ⟨_, rfl⟩ (.cons ⟨_, rfl⟩ (.cons ⟨_, rfl⟩ (.cons ⟨_, rfl⟩ (.cons ⟨_, rfl⟩ (.cons ⟨_, rfl⟩ (.cons ⟨_, rfl⟩ (.cons ⟨_, rfl⟩ (.cons ⟨_, rfl⟩ (.cons ⟨_, rfl⟩ (.cons ⟨_, rfl⟩ .nil))))))))))))⟩
theorem prices_mk {a : Addr} {od : Option Addr} {n : Nat} {sl : Array (Option Value)} {t0 t1 t2 : Tok} (X : K.In h) (G : h.Ns mainGlobals mg) (e : PySem.W.nsIn K mainGlobals "PRICES" = some (some (.ref a))) (l : K.lookup a = some ⟨.type "tuple", od, .seq #[.int 1 t0, .int 2 t1, .int 3 t2] n, sl⟩) : GTup K mg "PRICES" (iv [1, 2, 3]) :=
  ⟨a, PySem.W.mg_of X G e, sqT_written l (by show 3 ≤ sizeLine; decide) (.cons ⟨_, rfl⟩ (.cons ⟨_, rfl⟩ (.cons ⟨_, rfl⟩ .nil)))⟩
theorem makers_tup {a : Addr} {od : Option Addr} {n : Nat} {sl : Array (Option Value)} {f0 f1 f2 f3 f4 f5 f6 f7 f8 f9 f10 f11 : Addr} (X : K.In h) (G : h.Ns mainGlobals mg) (e : PySem.W.nsIn K mainGlobals "MAKERS" = some (some (.ref a))) (l : K.lookup a = some ⟨.type "tuple", od, .seq #[.ref f0, .ref f1, .ref f2, .ref f3, .ref f4, .ref f5, .ref f6, .ref f7, .ref f8, .ref f9, .ref f10, .ref f11] n, sl⟩) : GTup K mg "MAKERS" ([f0, f1, f2, f3, f4, f5, f6, f7, f8, f9, f10, f11].map V.ref) :=
  ⟨a, PySem.W.mg_of X G e, sqT_written l (by show 12 ≤ sizeLine; decide) (.cons rfl (.cons rfl (.cons rfl (.cons rfl (.cons rfl (.cons rfl (.cons rfl (.cons rfl (.cons rfl (.cons rfl (.cons rfl (.cons rfl .nil))))))))))))⟩
structure Makers (K : PySem.W.Frag) (mg : Str → Option Value) : Prop where
  ex : ∃ f0 f1 f2 f3 f4 f5 f6 f7 f8 f9 f10 f11 : Addr, GTup K mg "MAKERS" ([f0, f1, f2, f3, f4, f5, f6, f7, f8, f9, f10, f11].map V.ref) ∧ FnAt K "invert" "invert" sInvert f0 ∧ FnAt K "negate" "negate" sNegate f1 ∧ FnAt K "double" "double" sDouble f2 ∧ FnAt K "halve" "halve" sHalve f3 ∧ FnAt K "conjoin" "conjoin" sConjoin f4 ∧ FnAt K "disjoin" "disjoin" sDisjoin f5 ∧ FnAt K "differ" "differ" sDiffer f6 ∧ FnAt K "add" "add" sAdd f7 ∧ FnAt K "subtract" "subtract" sSubtract f8 ∧ FnAt K "multiply" "multiply" sMultiply f9 ∧ FnAt K "less" "less" sLess f10 ∧ FnAt K "pick" "pick" sPick f11
theorem makers_mk {f0 f1 f2 f3 f4 f5 f6 f7 f8 f9 f10 f11 : Addr} (g : GTup K mg "MAKERS" ([f0, f1, f2, f3, f4, f5, f6, f7, f8, f9, f10, f11].map V.ref)) (p0 : FnAt K "invert" "invert" sInvert f0) (p1 : FnAt K "negate" "negate" sNegate f1) (p2 : FnAt K "double" "double" sDouble f2) (p3 : FnAt K "halve" "halve" sHalve f3) (p4 : FnAt K "conjoin" "conjoin" sConjoin f4) (p5 : FnAt K "disjoin" "disjoin" sDisjoin f5) (p6 : FnAt K "differ" "differ" sDiffer f6) (p7 : FnAt K "add" "add" sAdd f7) (p8 : FnAt K "subtract" "subtract" sSubtract f8) (p9 : FnAt K "multiply" "multiply" sMultiply f9) (p10 : FnAt K "less" "less" sLess f10) (p11 : FnAt K "pick" "pick" sPick f11) : Makers K mg := ⟨f0, f1, f2, f3, f4, f5, f6, f7, f8, f9, f10, f11, g, p0, p1, p2, p3, p4, p5, p6, p7, p8, p9, p10, p11⟩
theorem shapes_mk {a : Addr} {n : Nat} {t0 t1 t2 t3 t4 t5 t6 t7 t8 t9 t10 t11 t12 : Tok} {s0 s1 s2 s3 s4 s5 s6 s7 s8 s9 s10 s11 s12 : Addr} (X : K.In h) (G : h.Ns mainGlobals mg) (e : PySem.W.nsIn K mainGlobals "SHAPES" = some (some (.ref a))) (l : K.lookup a = some ⟨.type "dict", none, .dict #[⟨0, .int 0 t0, .ref s0⟩, ⟨1, .int 1 t1, .ref s1⟩, ⟨2, .int 2 t2, .ref s2⟩, ⟨3, .int 3 t3, .ref s3⟩, ⟨4, .int 4 t4, .ref s4⟩, ⟨5, .int 5 t5, .ref s5⟩, ⟨6, .int 6 t6, .ref s6⟩, ⟨7, .int 7 t7, .ref s7⟩, ⟨8, .int 8 t8, .ref s8⟩, ⟨9, .int 9 t9, .ref s9⟩, ⟨10, .int 10 t10, .ref s10⟩, ⟨11, .int 11 t11, .ref s11⟩, ⟨12, .int 12 t12, .ref s12⟩] n, #[]⟩)
    (h0 : ∀ H, SqT K H s0 [.int 2, .int 0]) (h1 : ∀ H, SqT K H s1 [.int 0, .int 2]) (h2 : ∀ H, SqT K H s2 [.int 1, .int 1]) (h3 : ∀ H, SqT K H s3 [.int 0, .int 0]) (h4 : ∀ H, SqT K H s4 [.int 0, .int 1]) (h5 : ∀ H, SqT K H s5 [.int 1, .int 0]) (h6 : ∀ H, SqT K H s6 [.int 1, .int 0]) (h7 : ∀ H, SqT K H s7 [.int 1, .int 0]) (h8 : ∀ H, SqT K H s8 [.int 0, .int 1]) (h9 : ∀ H, SqT K H s9 [.int 1, .int 0]) (h10 : ∀ H, SqT K H s10 [.int 0, .int 1]) (h11 : ∀ H, SqT K H s11 [.int 0, .int 2]) (h12 : ∀ H, SqT K H s12 [.int 0, .int 0]) : GShape K mg := by
  have kk : KeysInt (#[⟨0, .int 0 t0, .ref s0⟩, ⟨1, .int 1 t1, .ref s1⟩, ⟨2, .int 2 t2, .ref s2⟩, ⟨3, .int 3 t3, .ref s3⟩, ⟨4, .int 4 t4, .ref s4⟩, ⟨5, .int 5 t5, .ref s5⟩, ⟨6, .int 6 t6, .ref s6⟩, ⟨7, .int 7 t7, .ref s7⟩, ⟨8, .int 8 t8, .ref s8⟩, ⟨9, .int 9 t9, .ref s9⟩, ⟨10, .int 10 t10, .ref s10⟩, ⟨11, .int 11 t11, .ref s11⟩, ⟨12, .int 12 t12, .ref s12⟩] : Array DictEntry).toList := by
    intro e he
    simp only [List.mem_cons, List.not_mem_nil, or_false] at he
    rcases he with rfl | rfl | rfl | rfl | rfl | rfl | rfl | rfl | rfl | rfl | rfl | rfl | rfl
    all_goals exact ⟨_, _, rfl, by first | rfl | (dsimp only; decide +kernel)⟩
  refine ⟨a, PySem.W.mg_of X G e, fun p m k hs => ?_⟩
  unfold PySm08.shape at hs
  by_cases c0 : p = 0
  · rw [if_pos c0] at hs
    obtain ⟨rfl, rfl⟩ := Prod.mk.inj (Option.some.inj hs)
    subst c0
    exact ⟨s0, ⟨_, n, .ref s0, l, kk, rfl, rfl⟩, h0⟩
  rw [if_neg c0] at hs
  by_cases c1 : p = 1
  · rw [if_pos c1] at hs
    obtain ⟨rfl, rfl⟩ := Prod.mk.inj (Option.some.inj hs)
    subst c1
    exact ⟨s1, ⟨_, n, .ref s1, l, kk, rfl, rfl⟩, h1⟩
  rw [if_neg c1] at hs
  by_cases c2 : p = 2
  · rw [if_pos c2] at hs
    obtain ⟨rfl, rfl⟩ := Prod.mk.inj (Option.some.inj hs)
    subst c2
    exact ⟨s2, ⟨_, n, .ref s2, l, kk, rfl, rfl⟩, h2⟩
  rw [if_neg c2] at hs
  by_cases c3 : p = 3
  · rw [if_pos c3] at hs
    obtain ⟨rfl, rfl⟩ := Prod.mk.inj (Option.some.inj hs)
    subst c3
    exact ⟨s3, ⟨_, n, .ref s3, l, kk, rfl, rfl⟩, h3⟩
  rw [if_neg c3] at hs
  by_cases c4 : p = 4
  · rw [if_pos c4] at hs
    obtain ⟨rfl, rfl⟩ := Prod.mk.inj (Option.some.inj hs)
    subst c4
    exact ⟨s4, ⟨_, n, .ref s4, l, kk, rfl, rfl⟩, h4⟩
  rw [if_neg c4] at hs
  by_cases c5 : p = 5
  · rw [if_pos c5] at hs
    obtain ⟨rfl, rfl⟩ := Prod.mk.inj (Option.some.inj hs)
    subst c5
    exact ⟨s5, ⟨_, n, .ref s5, l, kk, rfl, rfl⟩, h5⟩
  rw [if_neg c5] at hs
  by_cases c6 : p = 6
  · rw [if_pos c6] at hs
    obtain ⟨rfl, rfl⟩ := Prod.mk.inj (Option.some.inj hs)
    subst c6
    exact ⟨s6, ⟨_, n, .ref s6, l, kk, rfl, rfl⟩, h6⟩
  rw [if_neg c6] at hs
  by_cases c7 : p = 7
  · rw [if_pos c7] at hs
    obtain ⟨rfl, rfl⟩ := Prod.mk.inj (Option.some.inj hs)
    subst c7
    exact ⟨s7, ⟨_, n, .ref s7, l, kk, rfl, rfl⟩, h7⟩
  rw [if_neg c7] at hs
  by_cases c8 : p = 8
  · rw [if_pos c8] at hs
    obtain ⟨rfl, rfl⟩ := Prod.mk.inj (Option.some.inj hs)
    subst c8
    exact ⟨s8, ⟨_, n, .ref s8, l, kk, rfl, rfl⟩, h8⟩
  rw [if_neg c8] at hs
  by_cases c9 : p = 9
  · rw [if_pos c9] at hs
    obtain ⟨rfl, rfl⟩ := Prod.mk.inj (Option.some.inj hs)
    subst c9
    exact ⟨s9, ⟨_, n, .ref s9, l, kk, rfl, rfl⟩, h9⟩
  rw [if_neg c9] at hs
  by_cases c10 : p = 10
  · rw [if_pos c10] at hs
    obtain ⟨rfl, rfl⟩ := Prod.mk.inj (Option.some.inj hs)
    subst c10
    exact ⟨s10, ⟨_, n, .ref s10, l, kk, rfl, rfl⟩, h10⟩
  rw [if_neg c10] at hs
  by_cases c11 : p = 11
  · rw [if_pos c11] at hs
    obtain ⟨rfl, rfl⟩ := Prod.mk.inj (Option.some.inj hs)
    subst c11
    exact ⟨s11, ⟨_, n, .ref s11, l, kk, rfl, rfl⟩, h11⟩
  rw [if_neg c11] at hs
  by_cases c12 : p = 12
  · rw [if_pos c12] at hs
    obtain ⟨rfl, rfl⟩ := Prod.mk.inj (Option.some.inj hs)
    subst c12
    exact ⟨s12, ⟨_, n, .ref s12, l, kk, rfl, rfl⟩, h12⟩
  rw [if_neg c12] at hs
  cases hs
theorem shape_tup2 {a : Addr} {od : Option Addr} {n : Nat} {sl : Array (Option Value)} {x y : Int} {t u : Tok} (l : K.lookup a = some ⟨.type "tuple", od, .seq #[.int x t, .int y u] n, sl⟩) : ∀ H, SqT K H a [.int x, .int y] := sqT_written l (by show 2 ≤ sizeLine; decide) (.cons ⟨_, rfl⟩ (.cons ⟨_, rfl⟩ .nil))
end
end LT
set_option Elab.async false
set_option maxRecDepth 100000
set_option maxHeartbeats 4000000
set_option linter.unusedSimpArgs false
set_option linter.unusedVariables false
namespace LT
open PySem PySem.Spec PyProof.Rows L2
/-! ### the end: every def keeps its promise -/
section
variable {P : Program} {wd : World} {K : PySem.W.Frag} {mg : Str → Option Value} {base : Heap}
theorem calN_of {x : Str} {ps : List Str} {sp : Sp} {k : Nat} {st : Stmt} {f : Addr} {fd : FuncData} (g : mg x = some (.ref f)) (F : Fun K x x st f fd) (ok : FnOk P wd K mg base CX0 k f fd ps sp) (b : Binds K fd ps []) : CalN P wd K mg base k x ps sp := ⟨f, g, ⟨fd, ok, b, F.kp⟩⟩
end
theorem all_ok {P : Program} {wd : World} {K : PySem.W.Frag} {mg : Str → Option Value} {fa CL CS CN : Addr} (hfa : mg "answers" = some (.ref fa))
    (gCL : mg "Language" = some (.ref CL))
    (gCS : mg "Search" = some (.ref CS))
    (gCN : mg "Line" = some (.ref CN))
    (TL : LCls K CL) (TS : SCls K CS) (TN : NCls K CN)
    (ILi : FnI K CL "Language.__init__" sLInit)
    (ISi : FnI K CS "Search.__init__" sSInit)
    (INi : FnI K CN "Line.__init__" sNInit)
    (MK : Makers K mg) (GA : GTup K mg "ARITIES" (iv arities)) (GP : GTup K mg "PRICES" (iv [1, 2, 3])) (GS : GShape K mg)
    (i_FIRST_NUMBER : GInt mg "FIRST_NUMBER" 2)
    (i_FIRST_OPERATION : GInt mg "FIRST_OPERATION" 20)
    (i_LONGEST_TERM : GInt mg "LONGEST_TERM" 24)
    (i_MOST_NUMBERS : GInt mg "MOST_NUMBERS" 2)
    (i_MOST_OPERATIONS : GInt mg "MOST_OPERATIONS" 5)
    (i_LEAF_COST : GInt mg "LEAF_COST" 1)
    (i_NOT_GRANTED : GInt mg "NOT_GRANTED" (-1))
    (i_AT_ODDS : GInt mg "AT_ODDS" (-3))
    (i_FULL : GInt mg "FULL" (-5))
    (i_SUM : GInt mg "SUM" 7)
    (i_MOST_EXAMPLES : GInt mg "MOST_EXAMPLES" 8)
    (i_MOST_COST : GInt mg "MOST_COST" 5)
    (i_START : GInt mg "START" 0)
    (i_LANG : GInt mg "LANG" 1)
    (i_EXAMPLE : GInt mg "EXAMPLE" 2)
    (i_CLEAR : GInt mg "CLEAR" 3)
    (i_WISH : GInt mg "WISH" 4)
    (i_FIND : GInt mg "FIND" 5)
    (i_LEARN : GInt mg "LEARN" 6)
    (i_BEST : GInt mg "BEST" 7)
    (i_CHECK : GInt mg "CHECK" 8)
    (i_CLASSES : GInt mg "CLASSES" 9)
    (i_COST : GInt mg "COST" 10)
    (i_VALUE : GInt mg "VALUE" 11)
    (m_len : mg "len" = none)
    (m_set : mg "set" = none)
    (m_any : mg "any" = none)
    (m_all : mg "all" = none)
    (m_zip : mg "zip" = none)
    (m_tuple : mg "tuple" = none)
    (m_list : mg "list" = none)
    (m_dict : mg "dict" = none)
    (m_range : mg "range" = none)
    (m_reversed : mg "reversed" = none)
    (m_enumerate : mg "enumerate" = none)
    (m_max : mg "max" = none)
    (m_sum : mg "sum" = none)
    (tAn : FnT K mg "answers" sAnswers)
    (tOp : FnT K mg "operate" sOperate)
    (tRo : FnT K mg "all_rows" sRows)
    (tTh : FnT K mg "is_there" sThere)
    (tAr : FnT K mg "arity" sArity)
    (tIt : FnT K mg "is_term" sIsTerm)
    (tLe : FnT K mg "leaf_outcomes" sLeaf)
    (tTo : FnT K mg "term_outcomes" sTermOut)
    (tTw : FnT K mg "has_twice" sTwice)
    (tMa : FnT K mg "may_be_let" sMay)
    (tSc : FnT K mg "sign_cost" sSign)
    (tTc : FnT K mg "term_cost" sCost)
    (tPr : FnT K mg "part_rows" sParts)
    (tFt : FnT K mg "first_term" sFirst)
    (tCt : FnT K mg "count_things" sThings)
    (tTd : FnT K mg "told" sTold)
    (tFo : FnT K mg "found_or_none" sFound)
    (tDi : FnT K mg "first_difference" sDiff)
    (tRd : FnT K mg "read_rows" sRead)
    (tAc : FnT K mg "answer_call" sAC)
    (qGr : FnM K CS "grow" "Search.grow" sGrow)
    (qOl : FnM K CS "offer_leaves" "Search.offer_leaves" sLeaves)
    (qOo : FnM K CS "offer_operation" "Search.offer_operation" sOp)
    (qOf : FnM K CS "offer" "Search.offer" sOffer)
    (qBe : FnM K CN "begin" "Line.begin" sBegin)
    (qN0 : FnM K CN "start" "Line.start" sStart)
    (qN1 : FnM K CN "tell_language" "Line.tell_language" sLang)
    (qN2 : FnM K CN "tell_example" "Line.tell_example" sEx)
    (qN3 : FnM K CN "forget_examples" "Line.forget_examples" sForget)
    (qN4 : FnM K CN "tell_wish" "Line.tell_wish" sWish)
    (qN5 : FnM K CN "find_first" "Line.find_first" sFind)
    (qN6 : FnM K CN "learn" "Line.learn" sLearn)
    (qN7 : FnM K CN "find_best" "Line.find_best" sBest)
    (qN8 : FnM K CN "check" "Line.check" sCheck)
    (qN9 : FnM K CN "count_classes" "Line.count_classes" sClasses)
    (qN10 : FnM K CN "tell_cost" "Line.tell_cost" sTellCost)
    (qN11 : FnM K CN "tell_value" "Line.tell_value" sValue)
    (qN12 : FnM K CN "show_examples" "Line.show_examples" sShow)
    (qIg : FnM K CN "is_granted" "Line.is_granted" sGrant)
    (qAi : FnM K CN "are_inputs" "Line.are_inputs" sIns)
    (qEv : FnM K CN "every_row" "Line.every_row" sEvery)
    (qOu : FnM K CN "outcomes" "Line.outcomes" sOuts)
    (qBy : FnM K CN "first_by_examples" "Line.first_by_examples" sByEx) :
    ∃ fd : FuncData, (∀ (s : Shared) (us : List Value), us.length = (["calls"] : List Str).length → BindsTo s fd ⟨us, []⟩ ((["calls"] : List Str).zip us)) ∧ ∀ base : Heap, FnOk P wd K mg base CX0 11 fa fd ["calls"] (spAnswers K) := by
  obtain ⟨fOp, dOp, gOp, FOp⟩ := tOp.ex
  have bOp : Binds K dOp ["operation", "size", "rows"] [] := FOp.binds fun _ _ _ _ _ _ us hl => match us, hl with | [_, _, _], _ => rfl
  obtain ⟨fRo, dRo, gRo, FRo⟩ := tRo.ex
  have bRo : Binds K dRo ["size", "inputs"] [] := FRo.binds fun _ _ _ _ _ _ us hl => match us, hl with | [_, _], _ => rfl
  obtain ⟨fTh, dTh, gTh, FTh⟩ := tTh.ex
  have bTh : Binds K dTh ["sign", "size", "inputs"] [] := FTh.binds fun _ _ _ _ _ _ us hl => match us, hl with | [_, _, _], _ => rfl
  obtain ⟨fAr, dAr, gAr, FAr⟩ := tAr.ex
  have bAr : Binds K dAr ["sign"] [] := FAr.binds fun _ _ _ _ _ _ us hl => match us, hl with | [_], _ => rfl
  obtain ⟨fIt, dIt, gIt, FIt⟩ := tIt.ex
  have bIt : Binds K dIt ["signs", "size", "inputs"] [] := FIt.binds fun _ _ _ _ _ _ us hl => match us, hl with | [_, _, _], _ => rfl
  obtain ⟨fLe, dLe, gLe, FLe⟩ := tLe.ex
  have bLe : Binds K dLe ["sign", "rows"] [] := FLe.binds fun _ _ _ _ _ _ us hl => match us, hl with | [_, _], _ => rfl
  obtain ⟨fTo, dTo, gTo, FTo⟩ := tTo.ex
  have bTo : Binds K dTo ["term", "size", "rows"] [] := FTo.binds fun _ _ _ _ _ _ us hl => match us, hl with | [_, _, _], _ => rfl
  obtain ⟨fTw, dTw, gTw, FTw⟩ := tTw.ex
  have bTw : Binds K dTw ["told"] [] := FTw.binds fun _ _ _ _ _ _ us hl => match us, hl with | [_], _ => rfl
  obtain ⟨fMa, dMa, gMa, FMa⟩ := tMa.ex
  have bMa : Binds K dMa ["size", "numbers", "operations", "costs"] [] := FMa.binds fun _ _ _ _ _ _ us hl => match us, hl with | [_, _, _, _], _ => rfl
  obtain ⟨fSc, dSc, gSc, FSc⟩ := tSc.ex
  have bSc : Binds K dSc ["language", "sign"] [] := FSc.binds fun _ _ _ _ _ _ us hl => match us, hl with | [_, _], _ => rfl
  obtain ⟨fTc, dTc, gTc, FTc⟩ := tTc.ex
  have bTc : Binds K dTc ["language", "term"] [] := FTc.binds fun _ _ _ _ _ _ us hl => match us, hl with | [_, _], _ => rfl
  obtain ⟨fPr, dPr, gPr, FPr⟩ := tPr.ex
  have bPr : Binds K dPr ["levels", "count", "cost"] [] := FPr.binds fun _ _ _ _ _ _ us hl => match us, hl with | [_, _, _], _ => rfl
  obtain ⟨fFt, dFt, gFt, FFt⟩ := tFt.ex
  have bFt : Binds K dFt ["language", "rows", "wanted", "most"] [] := FFt.binds fun _ _ _ _ _ _ us hl => match us, hl with | [_, _, _, _], _ => rfl
  obtain ⟨fCt, dCt, gCt, FCt⟩ := tCt.ex
  have bCt : Binds K dCt ["language", "rows", "most"] [] := FCt.binds fun _ _ _ _ _ _ us hl => match us, hl with | [_, _, _], _ => rfl
  obtain ⟨fTd, dTd, gTd, FTd⟩ := tTd.ex
  have bTd : Binds K dTd ["found"] [] := FTd.binds fun _ _ _ _ _ _ us hl => match us, hl with | [_], _ => rfl
  obtain ⟨fFo, dFo, gFo, FFo⟩ := tFo.ex
  have bFo : Binds K dFo ["found"] [] := FFo.binds fun _ _ _ _ _ _ us hl => match us, hl with | [_], _ => rfl
  obtain ⟨fDi, dDi, gDi, FDi⟩ := tDi.ex
  have bDi : Binds K dDi ["ones", "others"] [] := FDi.binds fun _ _ _ _ _ _ us hl => match us, hl with | [_, _], _ => rfl
  obtain ⟨fRd, dRd, gRd, FRd⟩ := tRd.ex
  have bRd : Binds K dRd ["calls", "place", "count"] [] := FRd.binds fun _ _ _ _ _ _ us hl => match us, hl with | [_, _, _], _ => rfl
  obtain ⟨fAc, dAc, gAc, FAc⟩ := tAc.ex
  have bAc : Binds K dAc ["line", "call", "plain", "rows"] [] := FAc.binds fun _ _ _ _ _ _ us hl => match us, hl with | [_, _, _, _], _ => rfl
  obtain ⟨fGr, dGr, MGr, FGr⟩ := qGr.ex
  have bGr : Binds K dGr ["self"] [] := FGr.binds fun _ _ _ _ _ _ us hl => match us, hl with | [_], _ => rfl
  obtain ⟨fOl, dOl, MOl, FOl⟩ := qOl.ex
  have bOl : Binds K dOl ["self", "level"] [] := FOl.binds fun _ _ _ _ _ _ us hl => match us, hl with | [_, _], _ => rfl
  obtain ⟨fOo, dOo, MOo, FOo⟩ := qOo.ex
  have bOo : Binds K dOo ["self", "level", "operation", "cost"] [] := FOo.binds fun _ _ _ _ _ _ us hl => match us, hl with | [_, _, _, _], _ => rfl
  obtain ⟨fOf, dOf, MOf, FOf⟩ := qOf.ex
  have bOf : Binds K dOf ["self", "level", "thing", "signs"] [] := FOf.binds fun _ _ _ _ _ _ us hl => match us, hl with | [_, _, _, _], _ => rfl
  obtain ⟨fBe, dBe, MBe, FBe⟩ := qBe.ex
  have bBe : Binds K dBe ["self", "width", "inputs"] [] := FBe.binds fun _ _ _ _ _ _ us hl => match us, hl with | [_, _, _], _ => rfl
  obtain ⟨fN0, dN0, MN0, FN0⟩ := qN0.ex
  have bN0 : Binds K dN0 ["self", "width", "inputs"] [] := FN0.binds fun _ _ _ _ _ _ us hl => match us, hl with | [_, _, _], _ => rfl
  obtain ⟨fN1, dN1, MN1, FN1⟩ := qN1.ex
  have bN1 : Binds K dN1 ["self", "numbers", "priced"] [] := FN1.binds fun _ _ _ _ _ _ us hl => match us, hl with | [_, _, _], _ => rfl
  obtain ⟨fN2, dN2, MN2, FN2⟩ := qN2.ex
  have bN2 : Binds K dN2 ["self", "inputs", "out"] [] := FN2.binds fun _ _ _ _ _ _ us hl => match us, hl with | [_, _, _], _ => rfl
  obtain ⟨fN3, dN3, MN3, FN3⟩ := qN3.ex
  have bN3 : Binds K dN3 ["self"] [] := FN3.binds fun _ _ _ _ _ _ us hl => match us, hl with | [_], _ => rfl
  obtain ⟨fN4, dN4, MN4, FN4⟩ := qN4.ex
  have bN4 : Binds K dN4 ["self", "term"] [] := FN4.binds fun _ _ _ _ _ _ us hl => match us, hl with | [_, _], _ => rfl
  obtain ⟨fN5, dN5, MN5, FN5⟩ := qN5.ex
  have bN5 : Binds K dN5 ["self", "most"] [] := FN5.binds fun _ _ _ _ _ _ us hl => match us, hl with | [_, _], _ => rfl
  obtain ⟨fN6, dN6, MN6, FN6⟩ := qN6.ex
  have bN6 : Binds K dN6 ["self", "most"] [] := FN6.binds fun _ _ _ _ _ _ us hl => match us, hl with | [_, _], _ => rfl
  obtain ⟨fN7, dN7, MN7, FN7⟩ := qN7.ex
  have bN7 : Binds K dN7 ["self", "most"] [] := FN7.binds fun _ _ _ _ _ _ us hl => match us, hl with | [_, _], _ => rfl
  obtain ⟨fN8, dN8, MN8, FN8⟩ := qN8.ex
  have bN8 : Binds K dN8 ["self", "term"] [] := FN8.binds fun _ _ _ _ _ _ us hl => match us, hl with | [_, _], _ => rfl
  obtain ⟨fN9, dN9, MN9, FN9⟩ := qN9.ex
  have bN9 : Binds K dN9 ["self", "most"] [] := FN9.binds fun _ _ _ _ _ _ us hl => match us, hl with | [_, _], _ => rfl
  obtain ⟨fN10, dN10, MN10, FN10⟩ := qN10.ex
  have bN10 : Binds K dN10 ["self", "term"] [] := FN10.binds fun _ _ _ _ _ _ us hl => match us, hl with | [_, _], _ => rfl
  obtain ⟨fN11, dN11, MN11, FN11⟩ := qN11.ex
  have bN11 : Binds K dN11 ["self", "inputs", "term"] [] := FN11.binds fun _ _ _ _ _ _ us hl => match us, hl with | [_, _, _], _ => rfl
  obtain ⟨fN12, dN12, MN12, FN12⟩ := qN12.ex
  have bN12 : Binds K dN12 ["self"] [] := FN12.binds fun _ _ _ _ _ _ us hl => match us, hl with | [_], _ => rfl
  obtain ⟨fIg, dIg, MIg, FIg⟩ := qIg.ex
  have bIg : Binds K dIg ["self", "term"] [] := FIg.binds fun _ _ _ _ _ _ us hl => match us, hl with | [_, _], _ => rfl
  obtain ⟨fAi, dAi, MAi, FAi⟩ := qAi.ex
  have bAi : Binds K dAi ["self", "row"] [] := FAi.binds fun _ _ _ _ _ _ us hl => match us, hl with | [_, _], _ => rfl
  obtain ⟨fEv, dEv, MEv, FEv⟩ := qEv.ex
  have bEv : Binds K dEv ["self"] [] := FEv.binds fun _ _ _ _ _ _ us hl => match us, hl with | [_], _ => rfl
  obtain ⟨fOu, dOu, MOu, FOu⟩ := qOu.ex
  have bOu : Binds K dOu ["self", "term", "rows"] [] := FOu.binds fun _ _ _ _ _ _ us hl => match us, hl with | [_, _, _], _ => rfl
  obtain ⟨fBy, dBy, MBy, FBy⟩ := qBy.ex
  have bBy : Binds K dBy ["self", "most"] [] := FBy.binds fun _ _ _ _ _ _ us hl => match us, hl with | [_, _], _ => rfl
  obtain ⟨fLi, dLi, KLi, FLi⟩ := ILi.ex
  have bLi : Binds K dLi ["self", "size", "inputs", "numbers", "prices"] [] := FLi.binds fun _ _ _ _ _ _ us hl => match us, hl with | [_, _, _, _, _], _ => rfl
  obtain ⟨fSi, dSi, KSi, FSi⟩ := ISi.ex
  have bSi : Binds K dSi ["self", "language", "rows"] [] := FSi.binds fun _ _ _ _ _ _ us hl => match us, hl with | [_, _, _], _ => rfl
  obtain ⟨fNi, dNi, KNi, FNi⟩ := INi.ex
  have bNi : Binds K dNi ["self"] [] := FNi.binds fun _ _ _ _ _ _ us hl => match us, hl with | [_], _ => rfl
  obtain ⟨m0, m1, m2, m3, m4, m5, m6, m7, m8, m9, m10, m11, gM, k0, k1, k2, k3, k4, k5, k6, k7, k8, k9, k10, k11⟩ := MK.ex
  obtain ⟨e0, E0⟩ := k0.ex
  have c0 : Binds K e0 ["size", "rows"] [] := E0.binds fun _ _ _ _ _ _ us hl => match us, hl with | [_, _], _ => rfl
  obtain ⟨e1, E1⟩ := k1.ex
  have c1 : Binds K e1 ["size", "rows"] [] := E1.binds fun _ _ _ _ _ _ us hl => match us, hl with | [_, _], _ => rfl
  obtain ⟨e2, E2⟩ := k2.ex
  have c2 : Binds K e2 ["size", "rows"] [] := E2.binds fun _ _ _ _ _ _ us hl => match us, hl with | [_, _], _ => rfl
  obtain ⟨e3, E3⟩ := k3.ex
  have c3 : Binds K e3 ["size", "rows"] [] := E3.binds fun _ _ _ _ _ _ us hl => match us, hl with | [_, _], _ => rfl
  obtain ⟨e4, E4⟩ := k4.ex
  have c4 : Binds K e4 ["size", "rows"] [] := E4.binds fun _ _ _ _ _ _ us hl => match us, hl with | [_, _], _ => rfl
  obtain ⟨e5, E5⟩ := k5.ex
  have c5 : Binds K e5 ["size", "rows"] [] := E5.binds fun _ _ _ _ _ _ us hl => match us, hl with | [_, _], _ => rfl
  obtain ⟨e6, E6⟩ := k6.ex
  have c6 : Binds K e6 ["size", "rows"] [] := E6.binds fun _ _ _ _ _ _ us hl => match us, hl with | [_, _], _ => rfl
  obtain ⟨e7, E7⟩ := k7.ex
  have c7 : Binds K e7 ["size", "rows"] [] := E7.binds fun _ _ _ _ _ _ us hl => match us, hl with | [_, _], _ => rfl
  obtain ⟨e8, E8⟩ := k8.ex
  have c8 : Binds K e8 ["size", "rows"] [] := E8.binds fun _ _ _ _ _ _ us hl => match us, hl with | [_, _], _ => rfl
  obtain ⟨e9, E9⟩ := k9.ex
  have c9 : Binds K e9 ["size", "rows"] [] := E9.binds fun _ _ _ _ _ _ us hl => match us, hl with | [_, _], _ => rfl
  obtain ⟨e10, E10⟩ := k10.ex
  have c10 : Binds K e10 ["size", "rows"] [] := E10.binds fun _ _ _ _ _ _ us hl => match us, hl with | [_, _], _ => rfl
  obtain ⟨e11, E11⟩ := k11.ex
  have c11 : Binds K e11 ["size", "rows"] [] := E11.binds fun _ _ _ _ _ _ us hl => match us, hl with | [_, _], _ => rfl
  obtain ⟨fAn, dAn, gAn, FAn⟩ := tAn.ex
  have efa : fa = fAn := Value.ref.inj (Option.some.inj (hfa.symm.trans gAn))
  subst efa
  refine ⟨dAn, ?_, fun base => ?_⟩
  · obtain ⟨oc, od, kV, doc, pm, an, cdv, ct, osl, rfl, lk, hcd⟩ := FAn.ex
    exact fun s us hu => match us, hu with | [_], _ => .of_eq rfl
  have CTh : CalN P wd K mg base 1 "is_there" ["sign", "size", "inputs"] spThere := calN_of gTh FTh (ok_there FTh m_len i_FIRST_OPERATION i_FIRST_NUMBER GA) bTh
  have CAr : CalN P wd K mg base 1 "arity" ["sign"] spArity := calN_of gAr FAr (ok_arity FAr i_FIRST_OPERATION GA) bAr
  have CIt : CalN P wd K mg base 2 "is_term" ["signs", "size", "inputs"] (spIsTerm K) := calN_of gIt FIt (ok_isTerm FIt m_len i_LONGEST_TERM CTh CAr) bIt
  have COp : CalN P wd K mg base 2 "operate" ["operation", "size", "rows"] (spOperate K) := by
    refine calN_of gOp FOp (ok_operate FOp m_tuple gM rfl ?_) bOp
    intro o f ho
    by_cases z0 : o = 0
    · subst z0
      obtain rfl : m0 = f := Option.some.inj ho
      exact ⟨e0, ok_invert E0, c0, E0.kp⟩
    by_cases z1 : o = 1
    · subst z1
      obtain rfl : m1 = f := Option.some.inj ho
      exact ⟨e1, ok_negate E1, c1, E1.kp⟩
    by_cases z2 : o = 2
    · subst z2
      obtain rfl : m2 = f := Option.some.inj ho
      exact ⟨e2, ok_double E2, c2, E2.kp⟩
    by_cases z3 : o = 3
    · subst z3
      obtain rfl : m3 = f := Option.some.inj ho
      exact ⟨e3, ok_halve E3, c3, E3.kp⟩
    by_cases z4 : o = 4
    · subst z4
      obtain rfl : m4 = f := Option.some.inj ho
      exact ⟨e4, ok_conjoin E4 m_zip, c4, E4.kp⟩
    by_cases z5 : o = 5
    · subst z5
      obtain rfl : m5 = f := Option.some.inj ho
      exact ⟨e5, ok_disjoin E5 m_zip, c5, E5.kp⟩
    by_cases z6 : o = 6
    · subst z6
      obtain rfl : m6 = f := Option.some.inj ho
      exact ⟨e6, ok_differ E6 m_zip, c6, E6.kp⟩
    by_cases z7 : o = 7
    · subst z7
      obtain rfl : m7 = f := Option.some.inj ho
      exact ⟨e7, ok_add E7 m_zip, c7, E7.kp⟩
    by_cases z8 : o = 8
    · subst z8
      obtain rfl : m8 = f := Option.some.inj ho
      exact ⟨e8, ok_subtract E8 m_zip, c8, E8.kp⟩
    by_cases z9 : o = 9
    · subst z9
      obtain rfl : m9 = f := Option.some.inj ho
      exact ⟨e9, ok_multiply E9 m_zip, c9, E9.kp⟩
    by_cases z10 : o = 10
    · subst z10
      obtain rfl : m10 = f := Option.some.inj ho
      exact ⟨e10, ok_less E10 m_zip, c10, E10.kp⟩
    by_cases z11 : o = 11
    · subst z11
      obtain rfl : m11 = f := Option.some.inj ho
      exact ⟨e11, ok_pick E11 m_zip, c11, E11.kp⟩
    exact absurd ho (by rw [List.getElem?_eq_none (by simp; omega)]; exact fun z => nomatch z)
  have CRo : CalN P wd K mg base 1 "all_rows" ["size", "inputs"] spRows := calN_of gRo FRo (ok_rows FRo m_range) bRo
  have CLe : CalN P wd K mg base 1 "leaf_outcomes" ["sign", "rows"] (spLeaf K) := calN_of gLe FLe (ok_leaf FLe m_tuple i_FIRST_NUMBER) bLe
  have CTo : CalN P wd K mg base 3 "term_outcomes" ["term", "size", "rows"] (spTermOut K) := calN_of gTo FTo (ok_termOut FTo m_reversed m_range i_FIRST_OPERATION CLe CAr COp) bTo
  have CTw : CalN P wd K mg base 1 "has_twice" ["told"] (spTwice K) := calN_of gTw FTw (ok_twice FTw m_len m_set) bTw
  have CMa : CalN P wd K mg base 2 "may_be_let" ["size", "numbers", "operations", "costs"] (spMay K) := calN_of gMa FMa (ok_may FMa m_len m_any m_all i_MOST_NUMBERS i_MOST_OPERATIONS GA GP CTw) bMa
  have CSc : CalN P wd K mg base 1 "sign_cost" ["language", "sign"] (spSign CL) := calN_of gSc FSc (ok_sign FSc TL i_FIRST_OPERATION i_FIRST_NUMBER i_LEAF_COST) bSc
  have CTc : CalN P wd K mg base 2 "term_cost" ["language", "term"] (spCost K CL) := calN_of gTc FTc (ok_cost FTc m_sum CSc) bTc
  have OPr : ∀ c, FnOk P wd K mg base CX0 (c + 1) fPr dPr ["levels", "count", "cost"] (spParts c) := ok_parts0 FPr m_range gPr FPr.kp bPr
  have OOf : FnOk P wd K mg base CX0 1 fOf dOf ["self", "level", "thing", "signs"] (spOffer CS) := ok_offer FOf TS
  have OOl : FnOk P wd K mg base CX0 2 fOl dOl ["self", "level"] (spLeaves K CS CL) := ok_leaves FOl TS TL m_list m_range i_FIRST_NUMBER CLe OOf bOf MOf
  have OOo : FnOk P wd K mg base CX0 5 fOo dOo ["self", "level", "operation", "cost"] (spOp K CS CL) := ok_op FOo TS TL i_FIRST_OPERATION GA gPr FPr.kp bPr OPr COp OOf bOf MOf
  have OGr : FnOk P wd K mg base CX0 6 fGr dGr ["self"] (spGrow K CS CL) := ok_grow FGr TS TL m_len OOl bOl MOl OOo bOo MOo
  have OSi : FnOk P wd K mg base CX0 1 fSi dSi ["self", "language", "rows"] (spSInit CS) := ok_sinit FSi TS
  have CFt : CalN P wd K mg base 7 "first_term" ["language", "rows", "wanted", "most"] (spFirst K CL) := calN_of gFt FFt (ok_first FFt TS TL m_range gCS KSi OSi bSi OGr bGr MGr) bFt
  have CCt : CalN P wd K mg base 7 "count_things" ["language", "rows", "most"] (spThings K CL) := calN_of gCt FCt (ok_things FCt TS TL m_len gCS KSi OSi bSi OGr bGr MGr) bCt
  have CTd : CalN P wd K mg base 1 "told" ["found"] (spTold K) := calN_of gTd FTd (ok_told FTd m_len) bTd
  have CFo : CalN P wd K mg base 2 "found_or_none" ["found"] (spFound K) := calN_of gFo FFo (ok_found FFo CTd) bFo
  have CDi : CalN P wd K mg base 1 "first_difference" ["ones", "others"] spDiff := calN_of gDi FDi (ok_diff FDi m_enumerate) bDi
  have CRd : CalN P wd K mg base 1 "read_rows" ["calls", "place", "count"] (spRead K) := calN_of gRd FRd (ok_read FRd m_len) bRd
  have OLi : FnOk P wd K mg base CX0 1 fLi dLi ["self", "size", "inputs", "numbers", "prices"] (spLInit CL) := ok_linit FLi TL
  have OBe : FnOk P wd K mg base CX0 3 fBe dBe ["self", "width", "inputs"] (spBegin CN CL) := ok_begin FBe TN TL i_SUM gCL KLi OLi bLi
  have ONi : FnOk P wd K mg base CX0 4 fNi dNi ["self"] (spNInit CN CL) := ok_ninit FNi TN OBe bBe MBe
  have OIg : FnOk P wd K mg base CX0 3 fIg dIg ["self", "term"] (spGrant K CN CL) := ok_grant FIg TN TL CIt
  have OAi : FnOk P wd K mg base CX0 1 fAi dAi ["self", "row"] (spIns K CN CL) := ok_ins FAi TN TL m_len m_max
  have OEv : FnOk P wd K mg base CX0 2 fEv dEv ["self"] (spEvery CN CL) := ok_every FEv TN TL CRo
  have OOu : FnOk P wd K mg base CX0 4 fOu dOu ["self", "term", "rows"] (spOuts K CN CL) := ok_outs FOu TN TL CTo
  have OBy : FnOk P wd K mg base CX0 8 fBy dBy ["self", "most"] (spByEx K CN CL) := ok_byex FBy TN m_list m_tuple CFt
  have O0 : MethOk P wd K mg base CN 4 "start" ["self", "width", "inputs"] (spStart CN CL) := ⟨fN0, dN0, ok_start FN0 TN TL m_len i_NOT_GRANTED OBe bBe MBe OEv bEv MEv, bN0, MN0⟩
  have O1 : MethOk P wd K mg base CN 3 "tell_language" ["self", "numbers", "priced"] (spLang CN CL) := ⟨fN1, dN1, ok_lang FN1 TN TL m_len m_list m_dict m_zip i_NOT_GRANTED gCL KLi OLi bLi CMa, bN1, MN1⟩
  have O2 : MethOk P wd K mg base CN 2 "tell_example" ["self", "inputs", "out"] (spEx CN CL) := ⟨fN2, dN2, ok_ex FN2 TN TL m_len m_tuple i_NOT_GRANTED i_AT_ODDS i_FULL i_MOST_EXAMPLES OAi bAi MAi, bN2, MN2⟩
  have O3 : MethOk P wd K mg base CN 1 "forget_examples" ["self"] (spForget CN CL) := ⟨fN3, dN3, ok_forget FN3 TN m_len, bN3, MN3⟩
  have O4 : MethOk P wd K mg base CN 4 "tell_wish" ["self", "term"] (spWish K CN CL) := ⟨fN4, dN4, ok_wish FN4 TN TL m_list i_NOT_GRANTED OIg bIg MIg, bN4, MN4⟩
  have O5 : MethOk P wd K mg base CN 9 "find_first" ["self", "most"] (spFind CN CL) := ⟨fN5, dN5, ok_find FN5 TN i_MOST_COST i_NOT_GRANTED OBy bBy MBy CFo, bN5, MN5⟩
  have O6 : MethOk P wd K mg base CN 9 "learn" ["self", "most"] (spLearn CN CL) := ⟨fN6, dN6, ok_learn FN6 TN TL m_len m_list m_tuple i_MOST_COST i_MOST_EXAMPLES i_NOT_GRANTED i_AT_ODDS OBy bBy MBy OEv bEv MEv OOu bOu MOu CDi CTd, bN6, MN6⟩
  have O7 : MethOk P wd K mg base CN 8 "find_best" ["self", "most"] (spBest CN CL) := ⟨fN7, dN7, ok_best FN7 TN i_MOST_COST i_NOT_GRANTED OEv bEv MEv OOu bOu MOu CFt CFo, bN7, MN7⟩
  have O8 : MethOk P wd K mg base CN 5 "check" ["self", "term"] (spCheck CN CL) := ⟨fN8, dN8, ok_check FN8 TN m_list i_NOT_GRANTED OIg bIg MIg OEv bEv MEv OOu bOu MOu CDi, bN8, MN8⟩
  have O9 : MethOk P wd K mg base CN 8 "count_classes" ["self", "most"] (spClasses CN CL) := ⟨fN9, dN9, ok_classes FN9 TN m_list i_MOST_COST i_NOT_GRANTED CCt, bN9, MN9⟩
  have O10 : MethOk P wd K mg base CN 4 "tell_cost" ["self", "term"] (spTellCost CN CL) := ⟨fN10, dN10, ok_tellCost FN10 TN i_NOT_GRANTED OIg bIg MIg CTc, bN10, MN10⟩
  have O11 : MethOk P wd K mg base CN 5 "tell_value" ["self", "inputs", "term"] (spValue CN CL) := ⟨fN11, dN11, ok_value FN11 TN m_list i_NOT_GRANTED OIg bIg MIg OAi bAi MAi OOu bOu MOu, bN11, MN11⟩
  have O12 : MethOk P wd K mg base CN 1 "show_examples" ["self"] (spShow CN CL) := ⟨fN12, dN12, ok_show FN12 TN m_len m_list, bN12, MN12⟩
  have CAc : CalN P wd K mg base 10 "answer_call" ["line", "call", "plain", "rows"] (spAC CN CL) := calN_of gAc FAc (ok_ac FAc TN i_START i_LANG i_EXAMPLE i_CLEAR i_WISH i_FIND i_LEARN i_BEST i_CHECK i_CLASSES i_COST i_VALUE O0 O1 O2 O3 O4 O5 O6 O7 O8 O9 O10 O11 O12) bAc
  exact ok_answers FAn TN m_len m_sum GS gCN KNi ONi bNi CRd CAc
end LT
set_option Elab.async false
set_option maxRecDepth 100000
set_option maxHeartbeats 4000000
set_option linter.unusedSimpArgs false
set_option linter.unusedVariables false
namespace LT
open PySem PySem.Spec PyProof.Rows L2
/-! ### the end: from the facts of the written part -/
theorem all_end {P : Program} {wd : World} {K : PySem.W.Frag} {h : Heap} {mg : Str → Option Value} {fa CL CS CN : Addr} {t_FIRST_NUMBER t_FIRST_OPERATION t_LONGEST_TERM t_MOST_NUMBERS t_MOST_OPERATIONS t_LEAF_COST t_NOT_GRANTED t_AT_ODDS t_FULL t_SUM t_MOST_EXAMPLES t_MOST_COST t_START t_LANG t_EXAMPLE t_CLEAR t_WISH t_FIND t_LEARN t_BEST t_CHECK t_CLASSES t_COST t_VALUE : Tok} (X : K.In h) (G : h.Ns mainGlobals mg) (hfa : mg "answers" = some (.ref fa))
    (gCL : PySem.W.nsIn K mainGlobals "Language" = some (some (.ref CL)))
    (gCS : PySem.W.nsIn K mainGlobals "Search" = some (some (.ref CS)))
    (gCN : PySem.W.nsIn K mainGlobals "Line" = some (some (.ref CN)))
    (TL : LCls K CL) (TS : SCls K CS) (TN : NCls K CN)
    (ILi : FnI K CL "Language.__init__" sLInit)
    (ISi : FnI K CS "Search.__init__" sSInit)
    (INi : FnI K CN "Line.__init__" sNInit)
    (MK : Makers K mg) (GA : GTup K mg "ARITIES" (iv arities)) (GP : GTup K mg "PRICES" (iv [1, 2, 3])) (GS : GShape K mg)
    (i_FIRST_NUMBER : PySem.W.nsIn K mainGlobals "FIRST_NUMBER" = some (some (.int 2 t_FIRST_NUMBER)))
    (i_FIRST_OPERATION : PySem.W.nsIn K mainGlobals "FIRST_OPERATION" = some (some (.int 20 t_FIRST_OPERATION)))
    (i_LONGEST_TERM : PySem.W.nsIn K mainGlobals "LONGEST_TERM" = some (some (.int 24 t_LONGEST_TERM)))
    (i_MOST_NUMBERS : PySem.W.nsIn K mainGlobals "MOST_NUMBERS" = some (some (.int 2 t_MOST_NUMBERS)))
    (i_MOST_OPERATIONS : PySem.W.nsIn K mainGlobals "MOST_OPERATIONS" = some (some (.int 5 t_MOST_OPERATIONS)))
    (i_LEAF_COST : PySem.W.nsIn K mainGlobals "LEAF_COST" = some (some (.int 1 t_LEAF_COST)))
    (i_NOT_GRANTED : PySem.W.nsIn K mainGlobals "NOT_GRANTED" = some (some (.int (-1) t_NOT_GRANTED)))
    (i_AT_ODDS : PySem.W.nsIn K mainGlobals "AT_ODDS" = some (some (.int (-3) t_AT_ODDS)))
    (i_FULL : PySem.W.nsIn K mainGlobals "FULL" = some (some (.int (-5) t_FULL)))
    (i_SUM : PySem.W.nsIn K mainGlobals "SUM" = some (some (.int 7 t_SUM)))
    (i_MOST_EXAMPLES : PySem.W.nsIn K mainGlobals "MOST_EXAMPLES" = some (some (.int 8 t_MOST_EXAMPLES)))
    (i_MOST_COST : PySem.W.nsIn K mainGlobals "MOST_COST" = some (some (.int 5 t_MOST_COST)))
    (i_START : PySem.W.nsIn K mainGlobals "START" = some (some (.int 0 t_START)))
    (i_LANG : PySem.W.nsIn K mainGlobals "LANG" = some (some (.int 1 t_LANG)))
    (i_EXAMPLE : PySem.W.nsIn K mainGlobals "EXAMPLE" = some (some (.int 2 t_EXAMPLE)))
    (i_CLEAR : PySem.W.nsIn K mainGlobals "CLEAR" = some (some (.int 3 t_CLEAR)))
    (i_WISH : PySem.W.nsIn K mainGlobals "WISH" = some (some (.int 4 t_WISH)))
    (i_FIND : PySem.W.nsIn K mainGlobals "FIND" = some (some (.int 5 t_FIND)))
    (i_LEARN : PySem.W.nsIn K mainGlobals "LEARN" = some (some (.int 6 t_LEARN)))
    (i_BEST : PySem.W.nsIn K mainGlobals "BEST" = some (some (.int 7 t_BEST)))
    (i_CHECK : PySem.W.nsIn K mainGlobals "CHECK" = some (some (.int 8 t_CHECK)))
    (i_CLASSES : PySem.W.nsIn K mainGlobals "CLASSES" = some (some (.int 9 t_CLASSES)))
    (i_COST : PySem.W.nsIn K mainGlobals "COST" = some (some (.int 10 t_COST)))
    (i_VALUE : PySem.W.nsIn K mainGlobals "VALUE" = some (some (.int 11 t_VALUE)))
    (m_len : PySem.W.nsIn K mainGlobals "len" = some none)
    (m_set : PySem.W.nsIn K mainGlobals "set" = some none)
    (m_any : PySem.W.nsIn K mainGlobals "any" = some none)
    (m_all : PySem.W.nsIn K mainGlobals "all" = some none)
    (m_zip : PySem.W.nsIn K mainGlobals "zip" = some none)
    (m_tuple : PySem.W.nsIn K mainGlobals "tuple" = some none)
    (m_list : PySem.W.nsIn K mainGlobals "list" = some none)
    (m_dict : PySem.W.nsIn K mainGlobals "dict" = some none)
    (m_range : PySem.W.nsIn K mainGlobals "range" = some none)
    (m_reversed : PySem.W.nsIn K mainGlobals "reversed" = some none)
    (m_enumerate : PySem.W.nsIn K mainGlobals "enumerate" = some none)
    (m_max : PySem.W.nsIn K mainGlobals "max" = some none)
    (m_sum : PySem.W.nsIn K mainGlobals "sum" = some none)
    (tAn : FnT K mg "answers" sAnswers)
    (tOp : FnT K mg "operate" sOperate)
    (tRo : FnT K mg "all_rows" sRows)
    (tTh : FnT K mg "is_there" sThere)
    (tAr : FnT K mg "arity" sArity)
    (tIt : FnT K mg "is_term" sIsTerm)
    (tLe : FnT K mg "leaf_outcomes" sLeaf)
    (tTo : FnT K mg "term_outcomes" sTermOut)
    (tTw : FnT K mg "has_twice" sTwice)
    (tMa : FnT K mg "may_be_let" sMay)
    (tSc : FnT K mg "sign_cost" sSign)
    (tTc : FnT K mg "term_cost" sCost)
    (tPr : FnT K mg "part_rows" sParts)
    (tFt : FnT K mg "first_term" sFirst)
    (tCt : FnT K mg "count_things" sThings)
    (tTd : FnT K mg "told" sTold)
    (tFo : FnT K mg "found_or_none" sFound)
    (tDi : FnT K mg "first_difference" sDiff)
    (tRd : FnT K mg "read_rows" sRead)
    (tAc : FnT K mg "answer_call" sAC)
    (qGr : FnM K CS "grow" "Search.grow" sGrow)
    (qOl : FnM K CS "offer_leaves" "Search.offer_leaves" sLeaves)
    (qOo : FnM K CS "offer_operation" "Search.offer_operation" sOp)
    (qOf : FnM K CS "offer" "Search.offer" sOffer)
    (qBe : FnM K CN "begin" "Line.begin" sBegin)
    (qN0 : FnM K CN "start" "Line.start" sStart)
    (qN1 : FnM K CN "tell_language" "Line.tell_language" sLang)
    (qN2 : FnM K CN "tell_example" "Line.tell_example" sEx)
    (qN3 : FnM K CN "forget_examples" "Line.forget_examples" sForget)
    (qN4 : FnM K CN "tell_wish" "Line.tell_wish" sWish)
    (qN5 : FnM K CN "find_first" "Line.find_first" sFind)
    (qN6 : FnM K CN "learn" "Line.learn" sLearn)
    (qN7 : FnM K CN "find_best" "Line.find_best" sBest)
    (qN8 : FnM K CN "check" "Line.check" sCheck)
    (qN9 : FnM K CN "count_classes" "Line.count_classes" sClasses)
    (qN10 : FnM K CN "tell_cost" "Line.tell_cost" sTellCost)
    (qN11 : FnM K CN "tell_value" "Line.tell_value" sValue)
    (qN12 : FnM K CN "show_examples" "Line.show_examples" sShow)
    (qIg : FnM K CN "is_granted" "Line.is_granted" sGrant)
    (qAi : FnM K CN "are_inputs" "Line.are_inputs" sIns)
    (qEv : FnM K CN "every_row" "Line.every_row" sEvery)
    (qOu : FnM K CN "outcomes" "Line.outcomes" sOuts)
    (qBy : FnM K CN "first_by_examples" "Line.first_by_examples" sByEx) :
    ∃ fd : FuncData, (∀ (s : Shared) (us : List Value), us.length = (["calls"] : List Str).length → BindsTo s fd ⟨us, []⟩ ((["calls"] : List Str).zip us)) ∧ ∀ base : Heap, K.In base → base.Ns mainGlobals mg → FnOk P wd K mg base CX0 11 fa fd ["calls"] (spAnswers K) := by
  obtain ⟨fd, h1, h2⟩ := all_ok (P := P) (wd := wd) hfa (PySem.W.mg_of X G gCL) (PySem.W.mg_of X G gCS) (PySem.W.mg_of X G gCN) TL TS TN ILi ISi INi MK GA GP GS (gint_mk X G i_FIRST_NUMBER) (gint_mk X G i_FIRST_OPERATION) (gint_mk X G i_LONGEST_TERM) (gint_mk X G i_MOST_NUMBERS) (gint_mk X G i_MOST_OPERATIONS) (gint_mk X G i_LEAF_COST) (gint_mk X G i_NOT_GRANTED) (gint_mk X G i_AT_ODDS) (gint_mk X G i_FULL) (gint_mk X G i_SUM) (gint_mk X G i_MOST_EXAMPLES) (gint_mk X G i_MOST_COST) (gint_mk X G i_START) (gint_mk X G i_LANG) (gint_mk X G i_EXAMPLE) (gint_mk X G i_CLEAR) (gint_mk X G i_WISH) (gint_mk X G i_FIND) (gint_mk X G i_LEARN) (gint_mk X G i_BEST) (gint_mk X G i_CHECK) (gint_mk X G i_CLASSES) (gint_mk X G i_COST) (gint_mk X G i_VALUE) (PySem.W.mg_none_of X G m_len) (PySem.W.mg_none_of X G m_set) (PySem.W.mg_none_of X G m_any) (PySem.W.mg_none_of X G m_all) (PySem.W.mg_none_of X G m_zip) (PySem.W.mg_none_of X G m_tuple) (PySem.W.mg_none_of X G m_list) (PySem.W.mg_none_of X G m_dict) (PySem.W.mg_none_of X G m_range) (PySem.W.mg_none_of X G m_reversed) (PySem.W.mg_none_of X G m_enumerate) (PySem.W.mg_none_of X G m_max) (PySem.W.mg_none_of X G m_sum) tAn tOp tRo tTh tAr tIt tLe tTo tTw tMa tSc tTc tPr tFt tCt tTd tFo tDi tRd tAc qGr qOl qOo qOf qBe qN0 qN1 qN2 qN3 qN4 qN5 qN6 qN7 qN8 qN9 qN10 qN11 qN12 qIg qAi qEv qOu qBy
  exact ⟨fd, h1, fun base _ _ => h2 base⟩
end LT
set_option Elab.async false
open PySem PySem.W PyProof.Rows
set_option maxRecDepth 100000 in
set_option maxHeartbeats 0 in
theorem PySem.Challenge.cw_leastterm_s01_answers_holds : PySem.Challenge.rw_leastterm_s01_answers.Holds := by
  w_on; k_headS; (case hw => exact ⟨[.list [.int 3]], by decide +kernel, by decide +kernel⟩)
  k_fillS
  refine L2.walk_specK (r := PySem.Challenge.rw_leastterm_s01_answers) (k := 11) (CX := L2.CX0) (ps := ["calls"]) (sp := LT.spAnswers) (by decide +kernel) rfl rfl ⟨rfl, by decide, by decide⟩ (fun w h Y => PySem.W.kIn_of Y) ?F ?S (fun _ _ _ _ z => z)
  case F =>
    intro w mg fa h Y KX G hmg
    refine' LT.all_end KX G hmg ?gCL ?gCS ?gCN ?TL ?TS ?TN ?ILi ?ISi ?INi ?MK ?GA ?GP ?GS ?i_FIRST_NUMBER ?i_FIRST_OPERATION ?i_LONGEST_TERM ?i_MOST_NUMBERS ?i_MOST_OPERATIONS ?i_LEAF_COST ?i_NOT_GRANTED ?i_AT_ODDS ?i_FULL ?i_SUM ?i_MOST_EXAMPLES ?i_MOST_COST ?i_START ?i_LANG ?i_EXAMPLE ?i_CLEAR ?i_WISH ?i_FIND ?i_LEARN ?i_BEST ?i_CHECK ?i_CLASSES ?i_COST ?i_VALUE ?m_len ?m_set ?m_any ?m_all ?m_zip ?m_tuple ?m_list ?m_dict ?m_range ?m_reversed ?m_enumerate ?m_max ?m_sum ?tAn ?tOp ?tRo ?tTh ?tAr ?tIt ?tLe ?tTo ?tTw ?tMa ?tSc ?tTc ?tPr ?tFt ?tCt ?tTd ?tFo ?tDi ?tRd ?tAc ?qGr ?qOl ?qOo ?qOf ?qBe ?qN0 ?qN1 ?qN2 ?qN3 ?qN4 ?qN5 ?qN6 ?qN7 ?qN8 ?qN9 ?qN10 ?qN11 ?qN12 ?qIg ?qAi ?qEv ?qOu ?qBy
    (case gCL => k_is)
    (case gCS => k_is)
    (case gCN => k_is)
    (case TL => refine' ⟨LT.cls_mk ?pg ?hd ?po ?sa, ?n1, ?n2, ?n3, ?n4⟩; (case pg => k_is); (case hd => k_is); (case po => k_is); (case sa => k_is); (case n1 => show PySem.W.findIn _ _ _ = _; k_is); (case n2 => show PySem.W.findIn _ _ _ = _; k_is); (case n3 => show PySem.W.findIn _ _ _ = _; k_is); (case n4 => show PySem.W.findIn _ _ _ = _; k_is))
    (case TS => refine' ⟨LT.cls_mk ?pg ?hd ?po ?sa, ?n1, ?n2, ?n3, ?n4⟩; (case pg => k_is); (case hd => k_is); (case po => k_is); (case sa => k_is); (case n1 => show PySem.W.findIn _ _ _ = _; k_is); (case n2 => show PySem.W.findIn _ _ _ = _; k_is); (case n3 => show PySem.W.findIn _ _ _ = _; k_is); (case n4 => show PySem.W.findIn _ _ _ = _; k_is))
    (case TN => refine' ⟨LT.cls_mk ?pg ?hd ?po ?sa, ?n1, ?n2, ?n3⟩; (case pg => k_is); (case hd => k_is); (case po => k_is); (case sa => k_is); (case n1 => show PySem.W.findIn _ _ _ = _; k_is); (case n2 => show PySem.W.findIn _ _ _ = _; k_is); (case n3 => show PySem.W.findIn _ _ _ = _; k_is))
    (case ILi => refine' LT.fnI_mk ?a ?i ?l ?c ?k ?mk ?kc; (case a => k_is); (case i => k_is); (case l => k_is); (case c => k_is); (case k => k_is); (case mk => k_is); (case kc => k_is))
    (case ISi => refine' LT.fnI_mk ?a ?i ?l ?c ?k ?mk ?kc; (case a => k_is); (case i => k_is); (case l => k_is); (case c => k_is); (case k => k_is); (case mk => k_is); (case kc => k_is))
    (case INi => refine' LT.fnI_mk ?a ?i ?l ?c ?k ?mk ?kc; (case a => k_is); (case i => k_is); (case l => k_is); (case c => k_is); (case k => k_is); (case mk => k_is); (case kc => k_is))
    (case MK => refine' LT.makers_mk (LT.makers_tup KX G ?e ?l) ?p0 ?p1 ?p2 ?p3 ?p4 ?p5 ?p6 ?p7 ?p8 ?p9 ?p10 ?p11; (case e => k_is); (case l => k_is); (case p0 => refine' LT.fnAt_mk ?l ?c ?k; (case l => k_is); (case c => k_is); (case k => k_is)); (case p1 => refine' LT.fnAt_mk ?l ?c ?k; (case l => k_is); (case c => k_is); (case k => k_is)); (case p2 => refine' LT.fnAt_mk ?l ?c ?k; (case l => k_is); (case c => k_is); (case k => k_is)); (case p3 => refine' LT.fnAt_mk ?l ?c ?k; (case l => k_is); (case c => k_is); (case k => k_is)); (case p4 => refine' LT.fnAt_mk ?l ?c ?k; (case l => k_is); (case c => k_is); (case k => k_is)); (case p5 => refine' LT.fnAt_mk ?l ?c ?k; (case l => k_is); (case c => k_is); (case k => k_is)); (case p6 => refine' LT.fnAt_mk ?l ?c ?k; (case l => k_is); (case c => k_is); (case k => k_is)); (case p7 => refine' LT.fnAt_mk ?l ?c ?k; (case l => k_is); (case c => k_is); (case k => k_is)); (case p8 => refine' LT.fnAt_mk ?l ?c ?k; (case l => k_is); (case c => k_is); (case k => k_is)); (case p9 => refine' LT.fnAt_mk ?l ?c ?k; (case l => k_is); (case c => k_is); (case k => k_is)); (case p10 => refine' LT.fnAt_mk ?l ?c ?k; (case l => k_is); (case c => k_is); (case k => k_is)); (case p11 => refine' LT.fnAt_mk ?l ?c ?k; (case l => k_is); (case c => k_is); (case k => k_is)))
    (case GA => refine' LT.arities_mk KX G ?e ?l; (case e => k_is); (case l => k_is))
    (case GP => refine' LT.prices_mk KX G ?e ?l; (case e => k_is); (case l => k_is))
    (case GS => refine' LT.shapes_mk KX G ?e ?l ?h0 ?h1 ?h2 ?h3 ?h4 ?h5 ?h6 ?h7 ?h8 ?h9 ?h10 ?h11 ?h12; (case e => k_is); (case l => k_is); (case h0 => refine' LT.shape_tup2 ?l; (case l => k_is)); (case h1 => refine' LT.shape_tup2 ?l; (case l => k_is)); (case h2 => refine' LT.shape_tup2 ?l; (case l => k_is)); (case h3 => refine' LT.shape_tup2 ?l; (case l => k_is)); (case h4 => refine' LT.shape_tup2 ?l; (case l => k_is)); (case h5 => refine' LT.shape_tup2 ?l; (case l => k_is)); (case h6 => refine' LT.shape_tup2 ?l; (case l => k_is)); (case h7 => refine' LT.shape_tup2 ?l; (case l => k_is)); (case h8 => refine' LT.shape_tup2 ?l; (case l => k_is)); (case h9 => refine' LT.shape_tup2 ?l; (case l => k_is)); (case h10 => refine' LT.shape_tup2 ?l; (case l => k_is)); (case h11 => refine' LT.shape_tup2 ?l; (case l => k_is)); (case h12 => refine' LT.shape_tup2 ?l; (case l => k_is)))
    (case i_FIRST_NUMBER => k_is)
    (case i_FIRST_OPERATION => k_is)
    (case i_LONGEST_TERM => k_is)
    (case i_MOST_NUMBERS => k_is)
    (case i_MOST_OPERATIONS => k_is)
    (case i_LEAF_COST => k_is)
    (case i_NOT_GRANTED => k_is)
    (case i_AT_ODDS => k_is)
    (case i_FULL => k_is)
    (case i_SUM => k_is)
    (case i_MOST_EXAMPLES => k_is)
    (case i_MOST_COST => k_is)
    (case i_START => k_is)
    (case i_LANG => k_is)
    (case i_EXAMPLE => k_is)
    (case i_CLEAR => k_is)
    (case i_WISH => k_is)
    (case i_FIND => k_is)
    (case i_LEARN => k_is)
    (case i_BEST => k_is)
    (case i_CHECK => k_is)
    (case i_CLASSES => k_is)
    (case i_COST => k_is)
    (case i_VALUE => k_is)
    (case m_len => k_is)
    (case m_set => k_is)
    (case m_any => k_is)
    (case m_all => k_is)
    (case m_zip => k_is)
    (case m_tuple => k_is)
    (case m_list => k_is)
    (case m_dict => k_is)
    (case m_range => k_is)
    (case m_reversed => k_is)
    (case m_enumerate => k_is)
    (case m_max => k_is)
    (case m_sum => k_is)
    (case tAn => refine' LT.fnT_mk KX G ?a ?l ?c ?k; (case a => k_is); (case l => k_is); (case c => k_is); (case k => k_is))
    (case tOp => refine' LT.fnT_mk KX G ?a ?l ?c ?k; (case a => k_is); (case l => k_is); (case c => k_is); (case k => k_is))
    (case tRo => refine' LT.fnT_mk KX G ?a ?l ?c ?k; (case a => k_is); (case l => k_is); (case c => k_is); (case k => k_is))
    (case tTh => refine' LT.fnT_mk KX G ?a ?l ?c ?k; (case a => k_is); (case l => k_is); (case c => k_is); (case k => k_is))
    (case tAr => refine' LT.fnT_mk KX G ?a ?l ?c ?k; (case a => k_is); (case l => k_is); (case c => k_is); (case k => k_is))
    (case tIt => refine' LT.fnT_mk KX G ?a ?l ?c ?k; (case a => k_is); (case l => k_is); (case c => k_is); (case k => k_is))
    (case tLe => refine' LT.fnT_mk KX G ?a ?l ?c ?k; (case a => k_is); (case l => k_is); (case c => k_is); (case k => k_is))
    (case tTo => refine' LT.fnT_mk KX G ?a ?l ?c ?k; (case a => k_is); (case l => k_is); (case c => k_is); (case k => k_is))
    (case tTw => refine' LT.fnT_mk KX G ?a ?l ?c ?k; (case a => k_is); (case l => k_is); (case c => k_is); (case k => k_is))
    (case tMa => refine' LT.fnT_mk KX G ?a ?l ?c ?k; (case a => k_is); (case l => k_is); (case c => k_is); (case k => k_is))
    (case tSc => refine' LT.fnT_mk KX G ?a ?l ?c ?k; (case a => k_is); (case l => k_is); (case c => k_is); (case k => k_is))
    (case tTc => refine' LT.fnT_mk KX G ?a ?l ?c ?k; (case a => k_is); (case l => k_is); (case c => k_is); (case k => k_is))
    (case tPr => refine' LT.fnT_mk KX G ?a ?l ?c ?k; (case a => k_is); (case l => k_is); (case c => k_is); (case k => k_is))
    (case tFt => refine' LT.fnT_mk KX G ?a ?l ?c ?k; (case a => k_is); (case l => k_is); (case c => k_is); (case k => k_is))
    (case tCt => refine' LT.fnT_mk KX G ?a ?l ?c ?k; (case a => k_is); (case l => k_is); (case c => k_is); (case k => k_is))
    (case tTd => refine' LT.fnT_mk KX G ?a ?l ?c ?k; (case a => k_is); (case l => k_is); (case c => k_is); (case k => k_is))
    (case tFo => refine' LT.fnT_mk KX G ?a ?l ?c ?k; (case a => k_is); (case l => k_is); (case c => k_is); (case k => k_is))
    (case tDi => refine' LT.fnT_mk KX G ?a ?l ?c ?k; (case a => k_is); (case l => k_is); (case c => k_is); (case k => k_is))
    (case tRd => refine' LT.fnT_mk KX G ?a ?l ?c ?k; (case a => k_is); (case l => k_is); (case c => k_is); (case k => k_is))
    (case tAc => refine' LT.fnT_mk KX G ?a ?l ?c ?k; (case a => k_is); (case l => k_is); (case c => k_is); (case k => k_is))
    (case qGr => refine' LT.fnM_mk ?a ?i ?l ?c ?k; (case a => k_is); (case i => k_is); (case l => k_is); (case c => k_is); (case k => k_is))
    (case qOl => refine' LT.fnM_mk ?a ?i ?l ?c ?k; (case a => k_is); (case i => k_is); (case l => k_is); (case c => k_is); (case k => k_is))
    (case qOo => refine' LT.fnM_mk ?a ?i ?l ?c ?k; (case a => k_is); (case i => k_is); (case l => k_is); (case c => k_is); (case k => k_is))
    (case qOf => refine' LT.fnM_mk ?a ?i ?l ?c ?k; (case a => k_is); (case i => k_is); (case l => k_is); (case c => k_is); (case k => k_is))
    (case qBe => refine' LT.fnM_mk ?a ?i ?l ?c ?k; (case a => k_is); (case i => k_is); (case l => k_is); (case c => k_is); (case k => k_is))
    (case qN0 => refine' LT.fnM_mk ?a ?i ?l ?c ?k; (case a => k_is); (case i => k_is); (case l => k_is); (case c => k_is); (case k => k_is))
    (case qN1 => refine' LT.fnM_mk ?a ?i ?l ?c ?k; (case a => k_is); (case i => k_is); (case l => k_is); (case c => k_is); (case k => k_is))
    (case qN2 => refine' LT.fnM_mk ?a ?i ?l ?c ?k; (case a => k_is); (case i => k_is); (case l => k_is); (case c => k_is); (case k => k_is))
    (case qN3 => refine' LT.fnM_mk ?a ?i ?l ?c ?k; (case a => k_is); (case i => k_is); (case l => k_is); (case c => k_is); (case k => k_is))
    (case qN4 => refine' LT.fnM_mk ?a ?i ?l ?c ?k; (case a => k_is); (case i => k_is); (case l => k_is); (case c => k_is); (case k => k_is))
    (case qN5 => refine' LT.fnM_mk ?a ?i ?l ?c ?k; (case a => k_is); (case i => k_is); (case l => k_is); (case c => k_is); (case k => k_is))
    (case qN6 => refine' LT.fnM_mk ?a ?i ?l ?c ?k; (case a => k_is); (case i => k_is); (case l => k_is); (case c => k_is); (case k => k_is))
    (case qN7 => refine' LT.fnM_mk ?a ?i ?l ?c ?k; (case a => k_is); (case i => k_is); (case l => k_is); (case c => k_is); (case k => k_is))
    (case qN8 => refine' LT.fnM_mk ?a ?i ?l ?c ?k; (case a => k_is); (case i => k_is); (case l => k_is); (case c => k_is); (case k => k_is))
    (case qN9 => refine' LT.fnM_mk ?a ?i ?l ?c ?k; (case a => k_is); (case i => k_is); (case l => k_is); (case c => k_is); (case k => k_is))
    (case qN10 => refine' LT.fnM_mk ?a ?i ?l ?c ?k; (case a => k_is); (case i => k_is); (case l => k_is); (case c => k_is); (case k => k_is))
    (case qN11 => refine' LT.fnM_mk ?a ?i ?l ?c ?k; (case a => k_is); (case i => k_is); (case l => k_is); (case c => k_is); (case k => k_is))
    (case qN12 => refine' LT.fnM_mk ?a ?i ?l ?c ?k; (case a => k_is); (case i => k_is); (case l => k_is); (case c => k_is); (case k => k_is))
    (case qIg => refine' LT.fnM_mk ?a ?i ?l ?c ?k; (case a => k_is); (case i => k_is); (case l => k_is); (case c => k_is); (case k => k_is))
    (case qAi => refine' LT.fnM_mk ?a ?i ?l ?c ?k; (case a => k_is); (case i => k_is); (case l => k_is); (case c => k_is); (case k => k_is))
    (case qEv => refine' LT.fnM_mk ?a ?i ?l ?c ?k; (case a => k_is); (case i => k_is); (case l => k_is); (case c => k_is); (case k => k_is))
    (case qOu => refine' LT.fnM_mk ?a ?i ?l ?c ?k; (case a => k_is); (case i => k_is); (case l => k_is); (case c => k_is); (case k => k_is))
    (case qBy => refine' LT.fnM_mk ?a ?i ?l ?c ?k; (case a => k_is); (case i => k_is); (case l => k_is); (case c => k_is); (case k => k_is))
  case S =>
    intro K H xs a hO hwi hask hx
    cases hx with
    | cons h1 h2 =>
      cases h2
      cases h1 with
      | lst hs ha =>
        have e := L2.ints_dw a.1 _ ha
        subst e
        exact ⟨_, a.1, rfl, hs, hask, fun H' p hp => .lst (L2.SqL.of hp) (L2.dw_ints _)⟩
#print axioms PySem.Challenge.cw_leastterm_s01_answers_holds
