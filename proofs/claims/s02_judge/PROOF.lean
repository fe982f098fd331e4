import PyProof.Rows.All
import Wide.All
import OpenK.AllK
import Wide.FinOn
import PyProof.EqAt
import PyProof.EqKinds
import PyProof.TupleCall
import Open.SpecLaws
import KE.OsGo
import HandS.ForSpec
import HandS.ForMost
import HandS.TryMany
import HandS.Walk
import HandS.Rev
import HandS.RevTup
import HandS.ExcInit
import KE.KExcInit
import KE.KDictList
import PyProof.ListNew
import PyProof.ListRange
import PyProof.Rows.StrSplitCount
import PySem.Challenge.RW_threeviews_s02_judge
set_option Elab.async false
set_option linter.all false
set_option maxRecDepth 100000
set_option maxHeartbeats 4000000
/-! The mathematics of reading a drawing, over lists of codes: plain Lean. -/
namespace JM
open JoPart JoView JoViewRead

def signs : List Nat := [10, 32, 35, 46, 48, 49, 50, 51, 52, 53, 54, 55, 56, 57, 97, 98, 99, 100, 101, 102, 103, 104, 105, 106, 107, 108, 109, 110, 111, 112, 113, 114, 115, 116, 117, 118, 119, 120, 121, 122]
def sgn (c : Nat) : Nat := if c ∈ signs then c else 63
theorem sgn_eq {c d : Nat} (hd : d ∈ signs) : sgn c = d ↔ c = d := by
  unfold sgn
  constructor
  · intro h
    by_cases hc : c ∈ signs
    · rw [if_pos hc] at h; exact h
    · rw [if_neg hc] at h
      subst h
      exact absurd hd (by decide)
  · rintro rfl
    rw [if_pos hd]

/-- pieces between line feeds -/
def cut10 : List Nat → List (List Nat)
  | [] => [[]]
  | c :: r => if c = 10 then [] :: cut10 r else match cut10 r with
    | [] => [[c]]
    | l :: m => (c :: l) :: m
/-- the program's lines -/
def plines (xs : List Nat) : List (List Nat) := if (cut10 xs).getLast? = some [] then (cut10 xs).dropLast else (cut10 xs).dropLast ++ [[63]]
def conv (b : Bytes) : List Nat := b.map fun c => sgn c.toNat
def bare (t : Bytes) : Bool := !t.isEmpty && t.getLast? != some 10

theorem cut10_ne (xs : List Nat) : cut10 xs ≠ [] := by
  cases xs with
  | nil => simp [cut10]
  | cons c r =>
    unfold cut10
    split
    · simp
    · split <;> simp
theorem splitLines_ne {t : Bytes} (h : t ≠ []) : splitLines t ≠ [] := by
  cases t with
  | nil => exact absurd rfl h
  | cons c r =>
    unfold splitLines
    split
    · simp
    · split <;> simp
theorem bare_cons {c : UInt8} {r : Bytes} (h : r ≠ []) : bare (c :: r) = bare r := by
  cases r with
  | nil => exact absurd rfl h
  | cons d s => simp [bare, List.getLast?_cons_cons]
theorem conv_cons (c : UInt8) (r : Bytes) : conv (c :: r) = sgn c.toNat :: conv r := rfl
theorem u8_ten {c : UInt8} : c.toNat = 10 ↔ c = 10 := by
  constructor
  · intro h
    exact UInt8.toNat_inj.mp h
  · rintro rfl
    rfl
theorem cut10_is : ∀ t : Bytes, cut10 (conv t) = if bare t = true then (splitLines t).map conv else (splitLines t).map conv ++ [[]]
  | [] => by simp [conv, cut10, bare, splitLines]
  | c :: r => by
    rw [conv_cons]
    by_cases hc : c = 10
    · subst hc
      have e : sgn (10 : UInt8).toNat = 10 := by decide
      rw [e]
      by_cases hr : r = []
      · subst hr
        simp [cut10, conv, bare, splitLines]
      · rw [bare_cons hr]
        have ih := cut10_is r
        simp only [cut10, splitLines, if_true]
        rw [ih]
        split <;> simp [conv]
    · have e : ¬ sgn c.toNat = 10 := by
        rw [sgn_eq (by decide)]
        exact fun h => hc (u8_ten.mp h)
      have ih := cut10_is r
      by_cases hr : r = []
      · subst hr
        have hb : bare [c] = true := by simp [bare, hc]
        rw [if_pos hb]
        simp [cut10, conv, splitLines, hc, e]
      · rw [bare_cons hr]
        have hs := splitLines_ne hr
        simp only [cut10, splitLines, if_neg e, if_neg hc]
        rw [ih]
        cases hsr : splitLines r with
        | nil => exact absurd hsr hs
        | cons l m =>
          by_cases hb : bare r = true
          · simp [hb, conv]
          · simp [hb, conv]
theorem bare_last : ∀ {t : Bytes}, bare t = true → ∃ l, (splitLines t).getLast? = some l ∧ l ≠ []
  | [], h => by simp [bare] at h
  | c :: r, h => by
    by_cases hr : r = []
    · subst hr
      have hc : ¬ c = 10 := by
        intro e
        subst e
        simp [bare] at h
      refine ⟨[c], ?_, by simp⟩
      simp [splitLines, hc]
    · rw [bare_cons hr] at h
      obtain ⟨l, h1, h2⟩ := bare_last h
      by_cases hc : c = 10
      · refine ⟨l, ?_, h2⟩
        simp only [splitLines, hc, if_true]
        cases hsr : splitLines r with
        | nil => exact absurd hsr (splitLines_ne hr)
        | cons a m =>
          rw [List.getLast?_cons_cons, ← hsr]
          exact h1
      · cases hsr : splitLines r with
        | nil => exact absurd hsr (splitLines_ne hr)
        | cons a m =>
          simp only [splitLines, hc, if_false, hsr]
          cases m with
          | nil =>
            refine ⟨c :: a, rfl, by simp⟩
          | cons b m =>
            refine ⟨l, ?_, h2⟩
            rw [hsr] at h1
            rw [List.getLast?_cons_cons] at h1 ⊢
            exact h1
/-- lines as the program has them -/
def fin (b : Bool) (ls : List Bytes) : List (List Nat) := if b = true then ls.dropLast.map conv ++ [[63]] else ls.map conv
theorem plines_is (t : Bytes) : plines (conv t) = fin (bare t) (splitLines t) := by
  unfold plines fin
  rw [cut10_is]
  by_cases hb : bare t = true
  · simp only [if_pos hb]
    obtain ⟨l, h1, h2⟩ := bare_last hb
    have e : ((splitLines t).map conv).getLast? = some (conv l) := by
      rw [List.getLast?_map, h1]
      rfl
    rw [e]
    have n : ¬ (some (conv l) = some ([] : List Nat)) := by
      intro z
      have z := Option.some.inj z
      unfold conv at z
      exact h2 (List.map_eq_nil_iff.mp z)
    rw [if_neg n, List.map_dropLast]
  · simp only [if_neg hb]
    rw [if_pos (by simp), List.dropLast_concat]

/-! ### reading lines of codes -/
def cFront : List Nat := [102, 114, 111, 110, 116]
def cRight : List Nat := [114, 105, 103, 104, 116]
def cTop : List Nat := [116, 111, 112]
def dot (c : Nat) : Bool := c == 35 || c == 46
def isRowN (b : List Nat) : Bool := !b.isEmpty && (decide (b.length ≤ 16) && b.all dot)
def darksN (b : List Nat) : List Bool := b.map fun c => c == 35
def goesN (l : List (List Bool)) (b : List Nat) : Bool := isRowN b && match l with
  | [] => true
  | r :: _ => b.length == r.length
def drawN : Nat → Nat → List (List Bool) → List (List Bool) → List (List Bool) → List (List Nat) → Except Nat Drawing
  | k, stage, f, r, t, [] => if stage = 5 then .ok ⟨(f.headD []).length, (r.headD []).length, f.length, f, r, t⟩ else .error k
  | k, stage, f, r, t, b :: l =>
    if stage = 0 then (if b = cFront then drawN (k + 1) 1 f r t l else .error k)
    else if stage = 1 then (if b = cRight ∧ f ≠ [] then drawN (k + 1) 2 f r t l else if goesN f b = true ∧ f.length < 16 then drawN (k + 1) 1 (darksN b :: f) r t l else .error k)
    else if stage = 2 then (if goesN r b = true then drawN (k + 1) (if r.length + 1 = f.length then 3 else 2) f (darksN b :: r) t l else .error k)
    else if stage = 3 then (if b = cTop then drawN (k + 1) 4 f r t l else .error k)
    else if stage = 4 then (if isRowN b = true ∧ b.length = (f.headD []).length then drawN (k + 1) (if t.length + 1 = (r.headD []).length then 5 else 4) f r (darksN b :: t) l else .error k)
    else .error k

theorem conv_word {w : List Nat} (hw : ∀ c ∈ w, c ∈ signs) : ∀ {b : Bytes}, conv b = w ↔ b = w.map UInt8.ofNat := by
  induction w with
  | nil =>
    intro b
    simp [conv]
  | cons c w ih =>
    intro b
    cases b with
    | nil => simp [conv]
    | cons d b =>
      rw [conv_cons, List.map_cons, List.cons.injEq, List.cons.injEq, ih (fun x hx => hw x (List.mem_cons_of_mem _ hx)), sgn_eq (hw c (List.mem_cons_self ..))]
      have hc : c < 256 := by
        have := hw c (List.mem_cons_self ..)
        revert this
        generalize c = c
        intro h
        simp [signs] at h
        omega
      constructor
      · rintro ⟨h1, h2⟩
        refine ⟨?_, h2⟩
        rw [← h1]
        simp
      · rintro ⟨h1, h2⟩
        refine ⟨?_, h2⟩
        rw [h1]
        simp [Nat.mod_eq_of_lt hc]
theorem conv_front {b : Bytes} : (b = ascii "front") ↔ conv b = cFront := by
  rw [conv_word (by decide)]
  exact Eq.to_iff (congrArg (b = ·) (by decide))
theorem conv_right {b : Bytes} : (b = ascii "right") ↔ conv b = cRight := by
  rw [conv_word (by decide)]
  exact Eq.to_iff (congrArg (b = ·) (by decide))
theorem conv_top {b : Bytes} : (b = ascii "top") ↔ conv b = cTop := by
  rw [conv_word (by decide)]
  exact Eq.to_iff (congrArg (b = ·) (by decide))
theorem beq_sgn {c : UInt8} {d : Nat} (hd : d ∈ signs) (h : d < 256) : (c == UInt8.ofNat d) = (sgn c.toNat == d) := by
  rw [Bool.eq_iff_iff, beq_iff_eq, beq_iff_eq, sgn_eq hd]
  constructor
  · rintro rfl
    simp [Nat.mod_eq_of_lt h]
  · rintro rfl
    simp
theorem conv_isRow (b : Bytes) : isSigns b = isRowN (conv b) := by
  unfold isSigns isRowN
  have h1 : (conv b).isEmpty = b.isEmpty := by
    cases b <;> rfl
  have h2 : (conv b).length = b.length := by simp [conv]
  rw [h1, h2]
  congr 2
  unfold conv
  rw [List.all_map]
  congr 1
  funext c
  show (c == 35 || c == 46) = dot (sgn c.toNat)
  unfold dot
  rw [← beq_sgn (by decide) (by decide), ← beq_sgn (by decide) (by decide)]
  rfl
theorem conv_darks (b : Bytes) : darks b = darksN (conv b) := by
  unfold darks darksN conv
  rw [List.map_map]
  congr 1
  funext c
  show (c == 35) = (sgn c.toNat == 35)
  rw [← beq_sgn (by decide) (by decide)]
  rfl
theorem conv_length (b : Bytes) : (conv b).length = b.length := by simp [conv]
theorem conv_goes (l : List (List Bool)) (b : Bytes) : goesOn l b = goesN l (conv b) := by
  unfold goesOn goesN
  rw [conv_isRow, conv_length]
  cases l <;> rfl

theorem drawN_bad (k st : Nat) (f r t : List (List Bool)) : drawN k st f r t [[63]] = .error k := by
  have h1 : isRowN [63] = false := by decide
  unfold drawN
  simp [cFront, cRight, cTop, goesN, h1]
theorem drawN_is (b : Bool) : ∀ (ls : List Bytes) (k st : Nat) (f r t : List (List Bool)), (b = true → ls ≠ []) → drawFrom b k st f r t ls = drawN k st f r t (fin b ls)
  | [], k, st, f, r, t, h => by
    cases b with
    | true => exact absurd rfl (h rfl)
    | false =>
      simp [fin, drawFrom, drawN]
  | x :: l, k, st, f, r, t, h => by
    by_cases hbl : (b && l.isEmpty) = true
    · rw [Bool.and_eq_true] at hbl
      obtain ⟨h1, h2⟩ := hbl
      subst h1
      have h2 : l = [] := by simpa using h2
      subst h2
      have e : fin true [x] = [[63]] := by simp [fin]
      rw [e, drawN_bad]
      simp [drawFrom]
    · have hl : b = true → l ≠ [] := by
        intro hb hl
        apply hbl
        rw [hb, hl]
        rfl
      have e : fin b (x :: l) = conv x :: fin b l := by
        unfold fin
        by_cases hb : b = true
        · have := hl hb
          cases l with
          | nil => exact absurd rfl this
          | cons y l => simp [hb]
        · simp [hb]
      rw [e]
      have ih := fun k st f r t => drawN_is b l k st f r t hl
      unfold drawFrom drawN
      rw [if_neg hbl]
      simp only [ih, conv_front, conv_right, conv_top, conv_isRow, conv_darks, conv_goes, conv_length, SIDE]
def readN (ns : List Nat) : Except Nat Drawing := drawN 0 0 [] [] [] (plines (ns.map sgn))
theorem read_is (t : Bytes) : readDrawing t = readN (t.map UInt8.toNat) := by
  have e : (t.map UInt8.toNat).map sgn = conv t := by
    unfold conv
    rw [List.map_map]
    rfl
  unfold readN
  rw [e, plines_is]
  unfold readDrawing
  rw [show (!t.isEmpty && t.getLast? != some 10) = bare t from rfl]
  refine drawN_is (bare t) (splitLines t) 0 0 [] [] [] fun h => splitLines_ne ?_
  rintro rfl
  simp [bare] at h
end JM

/-! One step of the reading at a time, the lines by their place. -/
namespace JM
open JoPart JoView JoViewRead
def S (ls : List (List Nat)) (k st : Nat) (f r t : List (List Bool)) : Except Nat Drawing := drawN k st f r t (ls.drop k)
/-- the row that stands at k, if it is one and so long -/
def rowAt (ls : List (List Nat)) (k lo hi : Nat) : Option (List Nat) := (ls[k]?).bind fun b => if b.all dot = true ∧ lo ≤ b.length ∧ b.length ≤ hi then some b else none
theorem drop_some {ls : List (List Nat)} {k : Nat} {b : List Nat} (h : ls[k]? = some b) : ls.drop k = b :: ls.drop (k + 1) := by
  obtain ⟨hk, e⟩ := List.getElem?_eq_some_iff.mp h
  rw [List.drop_eq_getElem_cons hk, e]
theorem drop_none {ls : List (List Nat)} {k : Nat} (h : ls[k]? = none) : ls.drop k = [] := List.drop_eq_nil_of_le (List.getElem?_eq_none_iff.mp h)
theorem isRowN_iff {b : List Nat} : isRowN b = true ↔ b.all dot = true ∧ 1 ≤ b.length ∧ b.length ≤ 16 := by
  unfold isRowN
  rw [Bool.and_eq_true, Bool.and_eq_true, decide_eq_true_iff]
  cases b with
  | nil => simp
  | cons c b =>
    simp only [List.isEmpty_cons, Bool.not_false, true_and, List.length_cons]
    constructor
    · rintro ⟨h1, h2⟩
      exact ⟨h2, by omega, h1⟩
    · rintro ⟨h1, h2, h3⟩
      exact ⟨h3, h1⟩
theorem rowAt_some {ls : List (List Nat)} {k lo hi : Nat} {b : List Nat} (h : rowAt ls k lo hi = some b) : ls[k]? = some b ∧ b.all dot = true ∧ lo ≤ b.length ∧ b.length ≤ hi := by
  unfold rowAt at h
  cases e : ls[k]? with
  | none => rw [e] at h; cases h
  | some c =>
    rw [e, Option.bind_some] at h
    split at h
    · rename_i hc
      cases h
      exact ⟨rfl, hc⟩
    · cases h
theorem rowAt_none {ls : List (List Nat)} {k lo hi : Nat} (h : rowAt ls k lo hi = none) : ls[k]? = none ∨ ∃ b, ls[k]? = some b ∧ ¬ (b.all dot = true ∧ lo ≤ b.length ∧ b.length ≤ hi) := by
  unfold rowAt at h
  cases e : ls[k]? with
  | none => exact .inl rfl
  | some c =>
    rw [e, Option.bind_some] at h
    refine .inr ⟨c, rfl, fun hc => ?_⟩
    rw [if_pos hc] at h
    cases h
variable {ls : List (List Nat)} {k : Nat} {f r t : List (List Bool)} {b : List Nat}
theorem s_front (h : ls[k]? = some cFront) : S ls k 0 f r t = S ls (k + 1) 1 f r t := by
  unfold S
  rw [drop_some h, drawN, if_pos rfl, if_pos rfl]
theorem s_nofront (h : ls[k]? ≠ some cFront) : S ls k 0 f r t = .error k := by
  unfold S
  cases e : ls[k]? with
  | none => rw [drop_none e, drawN, if_neg (by decide)]
  | some c =>
    rw [drop_some e, drawN, if_pos rfl, if_neg]
    rintro rfl
    exact h e
theorem row_first (h : rowAt ls k 1 16 = some b) : ls[k]? = some b ∧ isRowN b = true := by
  obtain ⟨h1, h2, h3, h4⟩ := rowAt_some h
  exact ⟨h1, isRowN_iff.mpr ⟨h2, h3, h4⟩⟩
theorem s_f1 (h : rowAt ls k 1 16 = some b) : S ls k 1 [] r t = S ls (k + 1) 1 [darksN b] r t := by
  obtain ⟨h1, h2⟩ := row_first h
  unfold S
  have g : goesN [] b = true := by simp [goesN, h2]
  rw [drop_some h1, drawN, if_neg (by decide), if_pos rfl, if_neg (by simp), if_pos ⟨g, by decide⟩]
theorem s_f1no (h : rowAt ls k 1 16 = none) : S ls k 1 [] r t = .error k := by
  unfold S
  rcases rowAt_none h with e | ⟨c, e, n⟩
  · rw [drop_none e, drawN, if_neg (by decide)]
  · rw [drop_some e, drawN, if_neg (by decide), if_pos rfl, if_neg (by simp), if_neg]
    rintro ⟨g, _⟩
    unfold goesN at g
    rw [Bool.and_eq_true] at g
    exact n (isRowN_iff.mp g.1)
/-- the rows so far are so long -/
def Long (w : Nat) : List (List Bool) → Prop
  | [] => False
  | x :: _ => x.length = w
theorem Long.ne {w : Nat} : ∀ {f : List (List Bool)}, Long w f → f ≠ []
  | [], h => absurd h id
  | _ :: _, _ => by simp
theorem goes_iff {w : Nat} (hw : 1 ≤ w ∧ w ≤ 16) : ∀ {f : List (List Bool)}, Long w f → (goesN f b = true ↔ b.all dot = true ∧ w ≤ b.length ∧ b.length ≤ w)
  | [], h => absurd h id
  | x :: f, h => by
    have h : x.length = w := h
    unfold goesN
    rw [Bool.and_eq_true, isRowN_iff, beq_iff_eq, h]
    constructor
    · rintro ⟨⟨a, _, _⟩, e⟩
      exact ⟨a, by omega, by omega⟩
    · rintro ⟨a, e1, e2⟩
      exact ⟨⟨a, by omega, by omega⟩, by omega⟩
theorem long_darks (w : Nat) (h : b.length = w) : Long w (darksN b :: f) := by
  show (darksN b).length = w
  simpa [darksN] using h
theorem s_fn {w : Nat} (hw : 1 ≤ w ∧ w ≤ 16) (hf : Long w f) (hn : f.length < 16) (hr : ls[k]? ≠ some cRight) (h : rowAt ls k w w = some b) : S ls k 1 f r t = S ls (k + 1) 1 (darksN b :: f) r t := by
  obtain ⟨h1, h2⟩ := rowAt_some h
  unfold S
  rw [drop_some h1, drawN, if_neg (by decide), if_pos rfl, if_neg, if_pos ⟨(goes_iff hw hf).mpr h2, hn⟩]
  rintro ⟨rfl, _⟩
  exact hr h1
theorem s_fnno {w : Nat} (hw : 1 ≤ w ∧ w ≤ 16) (hf : Long w f) (hr : ls[k]? ≠ some cRight) (h : rowAt ls k w w = none) : S ls k 1 f r t = .error k := by
  unfold S
  rcases rowAt_none h with e | ⟨c, e, n⟩
  · rw [drop_none e, drawN, if_neg (by decide)]
  · rw [drop_some e, drawN, if_neg (by decide), if_pos rfl, if_neg, if_neg]
    · rintro ⟨g, _⟩
      exact n ((goes_iff hw hf).mp g)
    · rintro ⟨rfl, _⟩
      exact hr e
theorem s_right (hf : f ≠ []) (h : ls[k]? = some cRight) : S ls k 1 f r t = S ls (k + 1) 2 f r t := by
  unfold S
  rw [drop_some h, drawN, if_neg (by decide), if_pos rfl, if_pos ⟨rfl, hf⟩]
theorem s_noright (hf : 16 ≤ f.length) (h : ls[k]? ≠ some cRight) : S ls k 1 f r t = .error k := by
  unfold S
  cases e : ls[k]? with
  | none => rw [drop_none e, drawN, if_neg (by decide)]
  | some c =>
    rw [drop_some e, drawN, if_neg (by decide), if_pos rfl, if_neg, if_neg]
    · rintro ⟨_, z⟩
      omega
    · rintro ⟨rfl, _⟩
      exact h e
theorem s_r1 (h : rowAt ls k 1 16 = some b) : S ls k 2 f [] t = S ls (k + 1) (if 0 + 1 = f.length then 3 else 2) f [darksN b] t := by
  obtain ⟨h1, h2⟩ := row_first h
  unfold S
  have g : goesN [] b = true := by simp [goesN, h2]
  rw [drop_some h1, drawN, if_neg (by decide), if_neg (by decide), if_pos rfl, if_pos g]
  rfl
theorem s_r1no (h : rowAt ls k 1 16 = none) : S ls k 2 f [] t = .error k := by
  unfold S
  rcases rowAt_none h with e | ⟨c, e, n⟩
  · rw [drop_none e, drawN, if_neg (by decide)]
  · rw [drop_some e, drawN, if_neg (by decide), if_neg (by decide), if_pos rfl, if_neg]
    intro g
    unfold goesN at g
    rw [Bool.and_eq_true] at g
    exact n (isRowN_iff.mp g.1)
theorem s_rn {w : Nat} (hw : 1 ≤ w ∧ w ≤ 16) (hf : Long w r) (h : rowAt ls k w w = some b) : S ls k 2 f r t = S ls (k + 1) (if r.length + 1 = f.length then 3 else 2) f (darksN b :: r) t := by
  obtain ⟨h1, h2⟩ := rowAt_some h
  unfold S
  rw [drop_some h1, drawN, if_neg (by decide), if_neg (by decide), if_pos rfl, if_pos ((goes_iff hw hf).mpr h2)]
theorem s_rnno {w : Nat} (hw : 1 ≤ w ∧ w ≤ 16) (hf : Long w r) (h : rowAt ls k w w = none) : S ls k 2 f r t = .error k := by
  unfold S
  rcases rowAt_none h with e | ⟨c, e, n⟩
  · rw [drop_none e, drawN, if_neg (by decide)]
  · rw [drop_some e, drawN, if_neg (by decide), if_neg (by decide), if_pos rfl, if_neg]
    intro g
    exact n ((goes_iff hw hf).mp g)
theorem s_top (h : ls[k]? = some cTop) : S ls k 3 f r t = S ls (k + 1) 4 f r t := by
  unfold S
  rw [drop_some h, drawN, if_neg (by decide), if_neg (by decide), if_neg (by decide), if_pos rfl, if_pos rfl]
theorem s_notop (h : ls[k]? ≠ some cTop) : S ls k 3 f r t = .error k := by
  unfold S
  cases e : ls[k]? with
  | none => rw [drop_none e, drawN, if_neg (by decide)]
  | some c =>
    rw [drop_some e, drawN, if_neg (by decide), if_neg (by decide), if_neg (by decide), if_pos rfl, if_neg]
    rintro rfl
    exact h e
theorem s_t {w : Nat} (hw : 1 ≤ w ∧ w ≤ 16) (hf : (f.headD []).length = w) (h : rowAt ls k w w = some b) : S ls k 4 f r t = S ls (k + 1) (if t.length + 1 = (r.headD []).length then 5 else 4) f r (darksN b :: t) := by
  obtain ⟨h1, h2, h3, h4⟩ := rowAt_some h
  unfold S
  rw [drop_some h1, drawN, if_neg (by decide), if_neg (by decide), if_neg (by decide), if_neg (by decide), if_pos rfl, if_pos ⟨isRowN_iff.mpr ⟨h2, by omega, by omega⟩, by omega⟩]
theorem s_tno {w : Nat} (hw : 1 ≤ w ∧ w ≤ 16) (hf : (f.headD []).length = w) (h : rowAt ls k w w = none) : S ls k 4 f r t = .error k := by
  unfold S
  rcases rowAt_none h with e | ⟨c, e, n⟩
  · rw [drop_none e, drawN, if_neg (by decide)]
  · rw [drop_some e, drawN, if_neg (by decide), if_neg (by decide), if_neg (by decide), if_neg (by decide), if_pos rfl, if_neg]
    rintro ⟨g, q⟩
    obtain ⟨g1, g2, g3⟩ := isRowN_iff.mp g
    exact n ⟨g1, by omega, by omega⟩
theorem s_end (h : ls[k]? = none) : S ls k 5 f r t = .ok ⟨(f.headD []).length, (r.headD []).length, f.length, f, r, t⟩ := by
  unfold S
  rw [drop_none h, drawN, if_pos rfl]
theorem s_noend (h : ls[k]? ≠ none) : S ls k 5 f r t = .error k := by
  unfold S
  cases e : ls[k]? with
  | none => exact absurd e h
  | some c => rw [drop_some e, drawN, if_neg (by decide), if_neg (by decide), if_neg (by decide), if_neg (by decide), if_neg (by decide)]
/-- a row of signs, from its darks -/
def rowN (l : List Bool) : List Nat := l.map fun b => if b = true then 35 else 46
theorem rowN_darks (h : b.all dot = true) : rowN (darksN b) = b := by
  unfold rowN darksN
  rw [List.map_map]
  have e : ∀ c ∈ b, ((fun b => if b = true then 35 else 46) ∘ fun c => c == 35) c = c := by
    intro c hc
    have q := List.all_eq_true.mp h c hc
    unfold dot at q
    rw [Bool.or_eq_true, beq_iff_eq, beq_iff_eq] at q
    rcases q with rfl | rfl <;> rfl
  rw [List.map_congr_left e]
  simp
end JM

/-! The library's split and join, as plain lists of codes. -/
namespace JM
open PySem
def ofN (l : List Nat) : Str := ⟨l.toArray⟩
theorem ofN_inj {a b : List Nat} : ofN a = ofN b ↔ a = b := by
  constructor
  · intro h
    have e : (ofN a).cps = (ofN b).cps := by rw [h]
    have e2 : (ofN a).cps.toList = (ofN b).cps.toList := by rw [e]
    simpa [ofN] using e2
  · rintro rfl
    rfl
theorem ofN_length (l : List Nat) : (ofN l).length = l.length := by simp [ofN, Str.length]
theorem ofN_list (s : Str) : ofN s.cps.toList = s := by
  cases s
  simp [ofN]
def glue : List (List Nat) → List Nat
  | [] => []
  | [p] => p
  | p :: r => p ++ 10 :: glue r
theorem cut10_free : ∀ {p : List Nat}, 10 ∉ p → cut10 p = [p]
  | [], _ => rfl
  | c :: p, h => by
    have h1 : ¬ c = 10 := fun e => h (by rw [e]; exact List.mem_cons_self ..)
    have h2 : 10 ∉ p := fun e => h (List.mem_cons_of_mem _ e)
    unfold cut10
    rw [if_neg h1, cut10_free h2]
theorem cut10_part {s : List Nat} : ∀ {p : List Nat}, 10 ∉ p → cut10 (p ++ 10 :: s) = p :: cut10 s
  | [], _ => by simp [cut10]
  | c :: p, h => by
    have h1 : ¬ c = 10 := fun e => h (by rw [e]; exact List.mem_cons_self ..)
    have h2 : 10 ∉ p := fun e => h (List.mem_cons_of_mem _ e)
    rw [List.cons_append, cut10, if_neg h1, cut10_part h2]
theorem cut10_glue : ∀ {ps : List (List Nat)}, ps ≠ [] → (∀ p ∈ ps, 10 ∉ p) → cut10 (glue ps) = ps
  | [], h, _ => absurd rfl h
  | [p], _, h => cut10_free (h p (List.mem_singleton.mpr rfl))
  | p :: q :: r, _, h => by
    show cut10 (p ++ 10 :: glue (q :: r)) = _
    rw [cut10_part (h p (List.mem_cons_self ..)), cut10_glue (by simp) fun x hx => h x (List.mem_cons_of_mem _ hx)]
theorem join_glue : ∀ ps : List Str, (Str.join ⟨#[10]⟩ ps).cps.toList = glue (ps.map fun s => s.cps.toList)
  | [] => rfl
  | [p] => rfl
  | p :: q :: r => by
    show (p ++ ⟨#[10]⟩ ++ Str.join ⟨#[10]⟩ (q :: r)).cps.toList = _
    rw [Str.cps_append, Str.cps_append, Array.toList_append, Array.toList_append, join_glue (q :: r)]
    show p.cps.toList ++ [10] ++ _ = p.cps.toList ++ 10 :: glue ((q :: r).map fun s => s.cps.toList)
    simp
theorem split10 (x : List Nat) : Txt.split (ofN x) ⟨#[10]⟩ = (cut10 x).map ofN := by
  have h1 := StrLaws.join_split (ofN x) ⟨#[10]⟩
  have h2 := StrLaws.split_free (ofN x) 10
  have h3 := PyProof.Rows.split_pos (ofN x) ⟨#[10]⟩
  revert h1 h2 h3
  generalize Txt.split (ofN x) ⟨#[10]⟩ = ps
  intro h1 h2 h3
  have e : x = glue (ps.map fun s => s.cps.toList) := by
    rw [← join_glue, h1]
    simp [ofN]
  have n : ps.map (fun s => s.cps.toList) ≠ [] := by
    intro z
    rw [List.map_eq_nil_iff] at z
    rw [z] at h3
    simp at h3
  rw [e, cut10_glue n, List.map_map]
  · have z : ofN ∘ (fun s : Str => s.cps.toList) = id := by
      funext s
      exact ofN_list s
    rw [z, List.map_id]
  · intro p hp
    obtain ⟨s, hs, rfl⟩ := List.mem_map.mp hp
    exact h2 s hs
theorem join_empty : ∀ ps : List Str, (Txt.join ⟨#[]⟩ ps) = ofN (ps.map fun s => s.cps.toList).flatten := by
  intro ps
  show Builtin.Str.glued ⟨#[]⟩ ps = _
  rw [StrLaws.glued_eq_join]
  refine Str.ext' (Array.toList_inj.mp ?_)
  show (Str.join ⟨#[]⟩ ps).cps.toList = _
  have q : ∀ ps : List Str, (Str.join ⟨#[]⟩ ps).cps.toList = (ps.map fun s => s.cps.toList).flatten := by
    intro ps
    induction ps with
    | nil => rfl
    | cons p r ih =>
      cases r with
      | nil => simp [Str.join]
      | cons q r =>
        show (p ++ ⟨#[]⟩ ++ Str.join ⟨#[]⟩ (q :: r)).cps.toList = _
        rw [Str.cps_append, Str.cps_append, Array.toList_append, Array.toList_append, ih]
        simp
  rw [q]
  simp [ofN]
theorem join_signs (xs : List Nat) : Txt.join ⟨#[]⟩ (xs.map fun c => (⟨#[c]⟩ : Str)) = ofN xs := by
  rw [join_empty, List.map_map]
  congr 1
  induction xs with
  | nil => rfl
  | cons c r ih => simpa using ih
end JM

namespace JM
open PySem PySem.Spec PyProof.Rows L2
def top (i : Nat) : Stmt := PySem.Challenge.pw_threeviews_s02_judge.main.body.getD i (.Pass ⟨0, 0, 0, 0⟩)
abbrev sRow : Stmt := top 9
abbrev sLines : Stmt := top 8
abbrev sTurned : Stmt := top 11
/-! ### a comprehension whose items stand for themselves -/
/-- behind i turns the list at D holds f 0 .. f (i - 1), all else stands -/
def Filled (H1 : Hp) (D : Addr) (f : Nat → V) (i : Nat) (H : Hp) : Prop := Same H1 H ∧ H D = some (.lst ((List.range i).map f))
theorem filled_start {H1 : Hp} {D : Addr} {f : Nat → V} (hD : H1 D = none) : Filled H1 D f 0 (upd H1 D (.lst [])) :=
  ⟨fun b o e => by rw [upd_ne (ne_of_none e hD)]; exact e, upd_same⟩
theorem filled_more {H1 H H4 : Hp} {D : Addr} {f : Nat → V} {i : Nat} {y : V} (hD : H1 D = none) (p : Filled H1 D f i H) (s : Same H H4) (hi : i < sizeLine) (hy : y = f i) :
    ∃ acc, H4 D = some (.lst acc) ∧ acc.length < sizeLine ∧ Filled H1 D f (i + 1) (upd H4 D (.lst (acc ++ [y]))) := by
  refine ⟨_, s _ _ p.2, by simpa using hi, fun b o e => ?_, ?_⟩
  · rw [upd_ne (ne_of_none e hD)]
    exact s _ _ (p.1 _ _ e)
  · rw [upd_same, hy, List.range_succ, List.map_append]
    rfl
/-- a comprehension without tests keeps each item -/
theorem yes_ {σ : L2.St} {H : Hp} {A : Hp → Prop} {B : Hp → Prop} (h : A H) : tYes σ H fun b H3 => if b = true then A H3 else B H3 := by
  show (if true = true then A H else B H)
  rw [if_pos rfl]
  exact h
theorem range_get {α β : Type} (l : List α) (g : α → β) (d : α) : (List.range l.length).map (fun i => g (l.getD i d)) = l.map g := by
  apply List.ext_getElem?
  intro i
  rw [List.getElem?_map, List.getElem?_map]
  by_cases h : i < l.length
  · rw [List.getElem?_range h]
    simp [List.getD, h]
  · have h1 : (List.range l.length)[i]? = none := by simp; omega
    have h2 : l[i]? = none := by simp; omega
    rw [h1, h2]
    rfl
/-! ### is_row -/
/-- is_row(line): all its signs are # or . -/
def spRow : Sp := fun vs H Q _ => ∃ z : List Nat, vs = [.str (ofN z)] ∧ z.length < sizeLine ∧ ∀ H', Same H H' → Q (.bl (z.all dot)) H'
section
variable {P : Program} {w : World} {K : PySem.W.Frag} {mg : Str → Option Value} {base : Heap}
theorem scRow : FnScope ["line", "sign"] ["line"] (defScope sRow) := ⟨rfl, rfl, rfl, by decide +kernel, rfl, by decide +kernel, by decide +kernel⟩
theorem ok_row {f : Addr} {fd : FuncData} (F : Fun K "is_row" "is_row" sRow f fd) (mall : mg "all" = none) : FnOk P w K mg base CX0 1 f fd ["line"] spRow := by
  refine F.ok scRow (fun vs H Q E h => ?_) (fun cdv A outer s H vs Q E hr h => ⟨_, pss_one (ps_ret (pe_callB (cr_all rfl) (by rfl) mall (by decide +kernel) (pa_cons
      (pe_lc (own := [("sign", 1)]) (g := gName 1) (tt := tYes) rfl scRow.nd (pi_str (pv 0)) (blkOk_by (N := ["line", "sign"]) (sc := defScope sRow) (by decide +kernel)) (fun _ _ _ _ _ => pg_name (i := 1) scRow.nd rfl (Or.inl rfl)) (fun _ _ _ _ _ => pts_nil)
        (fun _ _ _ _ _ => pe_cmpR op_in_sign (pv 1) pe_str (by rfl))) pa_nil))), ?_⟩)
  · obtain ⟨z, rfl, _⟩ := h
    rfl
  · obtain ⟨z, rfl, hz, k⟩ := h
    refine ⟨_, rfl, ofN z, rfl, fun D hD => ?_⟩
    refine lc_it walk_str (Filled H D fun i => .bl (dot (z.getD i 0))) (filled_start hD) (fun _ _ _ _ => trivial) ?_ ?_
    · rintro i x H1 H2 hi p ⟨rfl, c, hc, rfl⟩
      have hi : i < z.length := by simpa [ofN] using hi
      have e : z.getD i 0 = c := by
        have q : z[i]? = some c := by simpa [ofN] using hc
        simp [List.getD, q]
      refine ⟨rfl, yes_ ?_⟩
      refine ⟨_, rfl, c, ("#." : Str), rfl, rfl, ?_⟩
      refine filled_more hD p (Same.refl _) (by omega) ?_
      rw [e]
      unfold dot
      have q : ("#." : Str).cps.toList = [35, 46] := by decide +kernel
      rw [q]
      congr 1
      rw [Bool.eq_iff_iff, decide_eq_true_iff, Bool.or_eq_true, beq_iff_eq, beq_iff_eq]
      simp
    · intro H1 p
      have e : (List.range (ofN z).cps.size).map (fun i => V.bl (dot (z.getD i 0))) = (z.map dot).map V.bl := by
        rw [List.map_map]
        exact range_get z (fun c => V.bl (dot c)) 0
      have p2 := p.2
      rw [e] at p2
      refine ⟨D, z.map dot, rfl, SqL.of p2, ?_⟩
      rw [List.all_map]
      exact k H1 p.1
end
end JM

/-! list(reversed(a list)): at the library's level, then as a rule of the layer. -/
namespace JR
open PySem PySem.Spec PyProof.Rows RT PySem.Calls
section
variable {prog : Program} {w : World} {A : Around} {E : Value → Shared → Prop} {s : Shared} {it l : Addr} {items : Array Value}
/-- what the new list holds behind the walk -/
abbrev Turned (items acc : Array Value) : Prop := ItemsOf (fun i v => items[items.size - 1 - i]? = some v) acc items.size
theorem grow {R : Result → Shared → Prop} (hh : A.handled = none) (hit : s.heap.IsRevIter it l ((items.size : Int) - 1)) (hl : s.heap.IsList l items) (hne : l ≠ it) (hn : items.size ≤ sizeLine) (S : Addr) (nSi : S ≠ it) (nSl : S ≠ l) (cz : Nat)
    (hS : s.heap.get? S = some ({ cls := .type "list", data := .seq #[] cz } : Obj))
    (hR : ∀ h' tk acc c', (∀ b o, b ≠ S → b ≠ it → s.heap.get? b = some o → h'.get? b = some o) → h'.get? S = some { cls := .type "list", dict := none, data := .seq acc c', slots := #[] } → Turned items acc → R (.ok (.ret .none)) { s with heap := h', toks := tk }) :
    wpAny (model prog w) A.in1 (Builtin.List.listExtendWith (.ref S) (.ref it) .none)
      (fun fin sE => match fin with | .done f => R (.ok f) sE | .again ag => ag.quiet = true ∧ codeAny (model prog w) A ag R sE) (fun e sE => R (.error e) sE) s := by
  have wk := (Walks.listRev (prog := prog) (w := w) (A := A.in1) hh it l hne items).toS
  have far : S ∉ [it, l] := by
    intro z
    rcases (List.mem_cons.mp z) with z | z
    · exact nSi z
    · exact nSl (List.mem_singleton.mp z)
  have ty : s.TypeIs (.ref it) "list_reverseiterator" := Heap.IsRevIter.typeIs hit
  have from0 : (((items.size : Nat) : Int) - 1 - ((0 : Nat) : Int)) = (items.size : Int) - 1 := by omega
  have loop : ∀ (h : Heap) (c₁ tk : Nat), h.IsRevIter it l ((items.size : Int) - 1) → h.IsList l items → (∀ b o, b ≠ S → s.heap.get? b = some o → h.get? b = some o) →
      h.get? S = some { cls := .type "list", data := .seq #[] c₁ } → codeAny (model prog w) A (.builtin "list.extend.loop" ⟨[.ref S, .ref it, .none], []⟩) R { s with heap := h, toks := tk } := by
    intro h c₁ tk hi hl' hk hS₁
    refine codeAny_extend_loopS wk hn S far .none items.size 0 _ #[] c₁ rfl (Nat.zero_le _) ⟨Nat.zero_le _, by rw [from0]; exact hi, hl'⟩ hS₁ (ItemsOf.nil _) fun s' acc c' mv hS' got => ?_
    rw [Moved.eq_with mv]
    refine hR s'.heap s'.toks acc c' (fun b o hb hb2 e => mv.heap b o (fun z => ?_) (hk b o hb e)) hS' got
    rcases (List.mem_cons.mp z) with z | z
    · exact hb z
    · exact hb2 (List.mem_singleton.mp z)
  have apart : Builtin.List.listSameRef (.ref S) (.ref it) = false := by simp [Builtin.List.listSameRef, nSi]
  unfold Builtin.List.listExtendWith; refine wpAny_bind (wpAny_typeOf ty ?_)
  rw [if_neg (by rw [apart]; decide)]
  refine wpAny_bind (wpAny_pyIter_revIter hit (wpAny_bind (wpAny_holding ?_)))
  unfold Builtin.List.listLengthHint; refine wpAny_bind (wpAny_specialOf ty nolen_lri ?_)
  show wpAny _ _ (specialOf (.ref it) (Str.ofString "__length_hint__") >>= _) _ _ _
  refine wpAny_bind (wpAny_specialOf ty hint_lri ?_)
  generalize idx : ("list_reverseiterator.__length_hint__" : String) = idn
  wp_delta
  rw [show splitId idn = some ("list_reverseiterator", "__length_hint__") from by subst idx; decide +kernel]
  subst idx
  refine wpAny_bind (wpAny_isInstance (b := true) ty (by rw [isSubtype_type]; kernel_rfl) (wpAny_pure ?_))
  rw [if_neg (by decide)]
  exact wpAny_pure ⟨plainId_quiet PySem.F.plain_extend_loop _, loop _ cz _ hit hl (fun b o _ e => e) hS⟩
theorem call_list_rev {Q : Value → Shared → Prop} (hh : A.handled = none) (hit : s.heap.IsRevIter it l ((items.size : Int) - 1)) (hl : s.heap.IsList l items) (hne : l ≠ it) (hn : items.size ≤ sizeLine)
    (hQ : ∀ h' tk acc c', (∀ b o, b ≠ it → s.heap.get? b = some o → h'.get? b = some o) → h'.get? s.heap.objs.size = some { cls := .type "list", dict := none, data := .seq acc c', slots := #[] } → Turned items acc → Q (.ref s.heap.objs.size) { s with heap := h', toks := tk }) :
    wpAny (model prog w) A (call (.type "list") [Value.ref it]) Q E s := by
  obtain ⟨oi, hoi, _⟩ := id hit
  obtain ⟨ol, hol, _⟩ := id hl
  have nSi : s.heap.objs.size ≠ it := Nat.ne_of_gt (Heap.lt_size hoi)
  have nSl : s.heap.objs.size ≠ l := Nat.ne_of_gt (Heap.lt_size hol)
  refine callType_codes (Q₁ := fun v s₁ => v = .ref s.heap.objs.size ∧ s₁ = { s with heap := s.heap.push { cls := .type "list", data := .seq #[] } }) PySem.F.called_list (PySem.F.typeCall_list_1 _) PySem.F.entry_list_init (code_list_new _ ⟨rfl, rfl⟩) ?_
  rintro _ _ ⟨rfl, rfl⟩
  have here : (s.heap.push { cls := .type "list", data := .seq #[] }).get? s.heap.objs.size = some { cls := .type "list", data := .seq #[] } := Heap.get?_push_size _ rfl
  refine ⟨⟨_, here, rfl⟩, PySem.F.args_list_init_2 _ _, ?_⟩
  show wpAny _ _ (do
    let old ← Builtin.List.listItems (.ref s.heap.objs.size)
    Builtin.List.listUpdate (.ref s.heap.objs.size) (fun _ => #[])
    letGo old.toList.reverse
    Builtin.List.listExtendWith (.ref s.heap.objs.size) (.ref it) .none) _ _ _
  refine wpAny_bind ?_
  unfold Builtin.List.listItems
  refine wpAny_bind (wpAny_seqItems here rfl ?_)
  refine wpAny_pure ?_
  show wpAny _ _ (updateSeq s.heap.objs.size (fun _ => #[]) >>= fun _ =>
    letGo (#[] : Array Value).toList.reverse >>= fun _ => Builtin.List.listExtendWith (.ref s.heap.objs.size) (.ref it) .none) _ _ _
  refine wpAny_bind (wpAny_updateSeq here rfl ?_)
  have empty := Heap.get?_update_self (Obj.mapSeq (fun _ => (#[] : Array Value))) here rfl
  have oth : ∀ b o, b ≠ s.heap.objs.size → s.heap.get? b = some o → ((s.heap.push { cls := .type "list", data := .seq #[] }).update s.heap.objs.size (Obj.mapSeq (fun _ => (#[] : Array Value)))).get? b = some o :=
    fun b o hb e => (Heap.get?_update_other _ _ (Ne.symm hb)).trans (Heap.get?_push_of_some _ e)
  refine wpAny_bind (wpAny_letGo ?_); refine grow (A := A.in1) (s := { s with heap := (s.heap.push { cls := .type "list", data := .seq #[] }).update s.heap.objs.size (Obj.mapSeq (fun _ => (#[] : Array Value))) }) hh (hit.at fun o e => oth it o nSi.symm e) ?_ hne hn _ nSi nSl _ empty fun h' tk acc c' hk hS' got => ?_
  · obtain ⟨o, ho, r⟩ := hl
    exact ⟨o, oth l o nSl.symm ho, r⟩
  · exact ⟨rfl, hQ h' tk acc c' (fun b o hb e => hk b o (Nat.ne_of_lt (Heap.lt_size e)) hb (oth b o (Nat.ne_of_lt (Heap.lt_size e)) e)) hS' got⟩
end
end JR
namespace L2
open PySem PySem.Spec PyProof.Rows
def tLstRev (K : PySem.W.Frag) (te : TE) : TE := fun σ H Q => te σ H fun v H1 => ∃ (a : Addr) (xs : List V), v = .ref a ∧ SqL K H1 a xs ∧ ∀ q, H1 q = none → Q (.ref q) (upd H1 q (.lst xs.reverse))
theorem pe_lstRev {X : Cx} {e : Expr} {te : TE} {p p2 pos pos2 : Pos} (hc : X.calm = true) (hg : Gl X "list") (hm : X.mg "list" = none) (hg2 : Gl X "reversed") (hm2 : X.mg "reversed" = none) (he : PE X e te)
    (hs : starEach [e] X.env = (false, eval e X.env) :: starEach [] X.env := by rfl) (hs2 : starEach [.Call (.Name "reversed" p2) [e] [] pos2] X.env = (false, eval (.Call (.Name "reversed" p2) [e] [] pos2) X.env) :: starEach [] X.env := by rfl) :
    PE X (.Call (.Name "list" p) [.Call (.Name "reversed" p2) [e] [] pos2] [] pos) (tLstRev X.K te) := by
  refine ⟨fun pins s σ H Q I h => ?_⟩
  refine Call_ (ld_blt I hg hm PyProof.Rows.boot_list (PyProof.Rows.callWith_type1 (args_cons (Call_ (ld_blt I hg2 hm2 PyProof.Rows.boot_reversed
    (PyProof.Rows.callWith_type1 (args_cons (thn (he.run pins s σ H _ I h) fun u s1 ⟨v, H1, I1, r1, q1⟩ => args_nil ?_) hs) hs rfl))) hs2) hs2 rfl))
  obtain ⟨a, xs, hv, hq, q⟩ := q1
  subst hv
  obtain rfl : u = .ref a := r1
  obtain ⟨its, rv, pl, hz⟩ := I1.list hq
  refine call_reversed_list pl.isList (args_nil ?_)
  have hl := pl.isList
  obtain ⟨ol, hol, _⟩ := id hl
  have apart : a ≠ s1.heap.objs.size := Nat.ne_of_lt (Heap.lt_size hol)
  have few : its.toArray.size ≤ sizeLine := by
    rw [List.size_toArray, ← rv.length]
    exact hz
  refine JR.call_list_rev (s := { s1 with heap := s1.heap.push (revObj a ((its.toArray.size : Int) - 1)) }) (I1.ok.hd hc) ⟨_, Heap.get?_push_size _ rfl, rfl, rfl⟩ (hl.push _) apart few fun h' tk acc c' hk new got => ?_
  have late : s1.heap.objs.size ≤ (s1.heap.push (revObj a ((its.toArray.size : Int) - 1))).objs.size := by
    rw [Heap.size_push]
    omega
  have keep : ∀ b o, s1.heap.get? b = some o → h'.get? b = some o := fun b o e => hk b o (Nat.ne_of_lt (Heap.lt_size e)) (Heap.get?_push_of_some _ e)
  refine ⟨.ref (s1.heap.push (revObj a ((its.toArray.size : Int) - 1))).objs.size, upd H1 (s1.heap.push (revObj a ((its.toArray.size : Int) - 1))).objs.size (.lst xs.reverse), I1.laid (t' := tk) keep late (show ObjOk X.prog X.w _ _ _ (.lst xs.reverse) from ⟨by rw [List.length_reverse]; exact hz, acc.toList, c', RT.vals_rev rv got, ?_⟩), rfl, q _ (I1.hok.fresh late)⟩
  rw [Array.toArray_toList]
  exact new
end L2

namespace JM
open PySem PySem.Spec PyProof.Rows L2
theorem signs_str : ("\n #.0123456789abcdefghijklmnopqrstuvwxyz" : Str) = ofN signs := by decide +kernel
theorem strange_str : ("?" : Str) = ofN [63] := by decide +kernel
theorem putK_le {κ : Type} [DecidableEq κ] (kvs : List (κ × V)) (k : κ) (v : V) : (putK kvs k v).length ≤ kvs.length + 1 := by
  unfold putK
  split <;> simp
theorem relS {x : Str} {t : Tok} : RelV (.str x) (.str x t) := ⟨t, rfl⟩
theorem relI {i : Int} {t : Tok} : RelV (.int i) (.int i t) := ⟨t, rfl⟩
/-- the list of bytes, as the program has them -/
abbrev nV (ns : List Nat) : List V := ns.map fun n : Nat => V.int n
abbrev sV (ls : List (List Nat)) : List V := ls.map fun l => V.str (ofN l)
/-- turned(rows): a new list, the other way round -/
def spTurned (K : PySem.W.Frag) : Sp := fun vs H Q _ => ∃ (a : Addr) (xs : List V), vs = [.ref a] ∧ SqL K H a xs ∧ ∀ p, H p = none → Q (.ref p) (upd H p (.lst xs.reverse))
/-- lines_of(data): a new list of the text's lines -/
def spLines (K : PySem.W.Frag) : Sp := fun vs H Q _ => ∃ (a : Addr) (ns : List Nat), vs = [.ref a] ∧ SqL K H a (nV ns) ∧ ns.length ≤ 20000 ∧
  ∀ H' p, Same H H' → H p = none → H' p = some (.lst (sV (plines (ns.map sgn)))) → Q (.ref p) H'
def DictTo (d : Addr) (i : Nat) (H : Hp) : Prop := ∃ kvs, H d = some (.dK kvs) ∧ kvs.length ≤ i ∧ ∀ n : Nat, valV kvs (Sum.inl (n : Int) : Key) = if n ∈ signs.take i then some (.str (ofN [n])) else none
theorem cut10_length : ∀ xs : List Nat, (cut10 xs).length ≤ xs.length + 1
  | [] => by simp [cut10]
  | c :: r => by
    have ih := cut10_length r
    unfold cut10
    split
    · simp only [List.length_cons]; omega
    · split
      · simp
      · rename_i l m e
        rw [e] at ih
        simp only [List.length_cons] at ih ⊢
        omega
theorem plines_length (xs : List Nat) : (plines xs).length ≤ xs.length + 1 := by
  have h := cut10_length xs
  have h2 : (cut10 xs).length ≠ 0 := fun z => cut10_ne xs (List.length_eq_zero_iff.mp z)
  unfold plines
  split
  · rw [List.length_dropLast]; omega
  · rw [List.length_append, List.length_dropLast]
    simp only [List.length_cons, List.length_nil]
    omega
section
variable {P : Program} {w : World} {K : PySem.W.Frag} {mg : Str → Option Value} {base : Heap}
theorem scTurned : FnScope ["rows"] ["rows"] (defScope sTurned) := ⟨rfl, rfl, rfl, by decide +kernel, rfl, by decide +kernel, by decide +kernel⟩
theorem ok_turned {f : Addr} {fd : FuncData} (F : Fun K "turned" "turned" sTurned f fd) (ml : mg "list" = none) (mr : mg "reversed" = none) : FnOk P w K mg base CX0 1 f fd ["rows"] (spTurned K) := by
  refine F.ok scTurned (fun vs H Q E h => ?_) (fun cdv A outer s H vs Q E hr h => ⟨_, pss_one (ps_ret (pe_lstRev rfl (by rfl) ml (by rfl) mr (pv 0))), ?_⟩)
  · obtain ⟨a, xs, rfl, _⟩ := h
    rfl
  · obtain ⟨a, xs, rfl, hq, k⟩ := h
    exact ⟨_, rfl, a, xs, rfl, hq, k⟩
theorem scLines : FnScope ["data", "signs", "sign", "lines", "number"] ["data"] (defScope sLines) := ⟨rfl, rfl, rfl, by decide +kernel, rfl, by decide +kernel, by decide +kernel⟩
theorem ok_lines {f : Addr} {fd : FuncData} {tS tQ : Tok} (F : Fun K "lines_of" "lines_of" sLines f fd) (mS : mg "SIGNS" = some (.str (ofN signs) tS)) (mQ : mg "STRANGE" = some (.str (ofN [63]) tQ)) (mo : mg "ord" = none) :
    FnOk P w K mg base CX0 1 f fd ["data"] (spLines K) := by
  refine F.ok scLines (fun vs H Q E h => ?_) (fun cdv A outer s H vs Q E hr h => ⟨_,
    pss_cons (ps_set (i := 1) scLines.nd rfl (Or.inr rfl) pe_dnewK)
    (pss_cons (ps_for PassesOwn.never rfl (pi_str (pe_glob (by rfl) mS relS)) (pg_name (i := 2) scLines.nd rfl (Or.inl rfl))
      (pss_one (ps_dput (hu_of hr) (pv 1) (pe_callB call_ord (by rfl) mo (by decide +kernel) (pa_cons (pv 2) pa_nil)) (pv 2) rfl)))
    (pss_cons (ps_set (i := 3) scLines.nd rfl (Or.inl rfl) (pe_split (pe_join pe_str
      (pe_lc (own := [("number", 4)]) (g := gName 4) (tt := tYes) rfl scLines.nd (pi_list (pv 0)) (blkOk_by (N := ["data", "signs", "sign", "lines", "number"]) (sc := defScope sLines) (by decide +kernel)) (fun _ _ _ _ _ => pg_name (i := 4) scLines.nd rfl (Or.inl rfl)) (fun _ _ _ _ _ => pts_nil)
        (fun _ _ _ _ _ => pe_dget2 (hu_of hr) (pv 1) (pv 4) (pe_glob (by rfl) mQ relS) ⟨by rfl, by rfl, by rfl, by rfl⟩))) pe_str))
    (pss_cons (ps_if (pt_cmpR op_ne (pe_bm0 PySem.F.plainAttrs_list PySem.F.slot_list_pop PySem.F.type_list_pop mt_pop (pv 3)) pe_str (nomark _))
      (pss_one (ps_expr (pe_bm PySem.F.plainAttrs_list PySem.F.slot_list_append PySem.F.type_list_append mt_append (pv 3) (pa_cons (pe_glob (by rfl) mQ relS) pa_nil)))) pss_nil)
    (pss_one (ps_ret (pv 3)))))), ?_⟩)
  · obtain ⟨a, ns, rfl, _⟩ := h
    rfl
  · obtain ⟨a, ns, rfl, hq, hlen, k⟩ := h
    intro d hd
    have had : ∀ b o, H b = some o → b ≠ d := fun b o e => ne_of_none e hd
    refine ⟨_, rfl, for_it walk_str (fun i σ H' => ∃ v, σ = [some (.ref a), some (.ref d), v, none, none] ∧ Same H H' ∧ DictTo d i H')
      ⟨none, rfl, fun b o e => by rw [upd_ne (had b o e)]; exact e, ⟨[], upd_same, Nat.le_refl _, fun n => by rw [valV_nil]; simp⟩⟩ (fun _ _ _ _ _ => trivial) ?_ ?_⟩
    · rintro i x σ H1 H2 hi ⟨v, rfl, sm, kvs, hk, hkl, hv⟩ ⟨rfl, c, hc, rfl⟩
      have q : signs[i]? = some c := by simpa [ofN] using hc
      have hi : i < signs.length := by simpa [ofN] using hi
      have hi2 : i < 40 := hi
      refine ⟨_, rfl, _, rfl, _, rfl, ⟨#[c]⟩, rfl, rfl, d, _, rfl, DPut.k (k := Sum.inl (c : Int)) hk ?_, ?_⟩
      · exact Nat.lt_of_lt_of_le (by omega : kvs.length < 40) (by decide)
      · refine ⟨_, rfl, fun b o e => ?_, _, upd_same, ?_, fun n => ?_⟩
        · rw [upd_ne (had b o e)]
          exact sm b o e
        · have := putK_le kvs (Sum.inl (c : Int) : Key) (V.str ⟨#[c]⟩)
          omega
        · rw [valV_put, hv n]
          have e : signs.take (i + 1) = signs.take i ++ [c] := by
            rw [List.take_add_one, q]
            rfl
          rw [e]
          by_cases hn : n = c
          · subst hn
            simp [ofN]
          · have h1 : ¬ (Sum.inl (n : Int) : Key) = Sum.inl (c : Int) := by
              intro z
              have z := Sum.inl.inj z
              omega
            rw [if_neg h1]
            simp [hn]
    · rintro σ H1 ⟨v, rfl, sm, kvs, hk, hkl, hv⟩
      have hv : ∀ n : Nat, (valV kvs (Sum.inl (n : Int) : Key)).getD (V.str (ofN [63])) = V.str (ofN [sgn n]) := by
        intro n
        have e : signs.take (ofN signs).cps.size = signs := by decide +kernel
        rw [hv n, e]
        unfold sgn
        split <;> rfl
      refine ⟨⟨_, rfl⟩, _, rfl, a, rfl, ⟨_, sm.seq hq⟩, fun D hD => ?_⟩
      refine lc_it walk_list (Filled H1 D fun i => .str (ofN [sgn (ns.getD i 0)])) (filled_start hD) (fun i H2 _ p => p.1.seq (sm.seq hq)) ?_ ?_
      · rintro i x H2 H3 hi p ⟨rfl, hx⟩
        have hi : i < ns.length := by simpa using hi
        obtain ⟨n, hn, rfl⟩ : ∃ n, ns[i]? = some n ∧ x = V.int n := by
          rw [List.getElem?_map] at hx
          cases e : ns[i]? with
          | none => rw [e] at hx; cases hx
          | some z => rw [e] at hx; exact ⟨z, rfl, (Option.some.inj hx).symm⟩
        refine ⟨rfl, yes_ ?_⟩
        refine ⟨_, rfl, d, rfl, .inl ⟨kvs, .inl (p.1 _ _ hk)⟩, _, rfl, _, DGet.k (k := Sum.inl (n : Int)) (p.1 _ _ hk), ?_⟩
        have e : ns.getD i 0 = n := by simp [List.getD, hn]
        refine filled_more hD p (Same.refl _) (Nat.lt_of_lt_of_le (by omega : i < 20000) (by decide)) ?_
        rw [hv n, e]
      · intro H2 p
        have e : (List.range (nV ns).length).map (fun i => V.str (ofN [sgn (ns.getD i 0)])) = (ns.map fun n => ofN [sgn n]).map V.str := by
          rw [List.map_map, List.length_map]
          exact range_get ns (fun n => V.str (ofN [sgn n])) 0
        have p2 := p.2
        rw [e] at p2
        refine ⟨("" : Str), D, ns.map fun n => ofN [sgn n], rfl, rfl, .inl (SqL.of p2), ?_, ?_⟩
        · have e1 : (ns.map fun n => ofN [sgn n]).map (·.length) = ns.map fun _ => 1 := by
            rw [List.map_map]
            rfl
          rw [e1]
          have e2 : ∀ l : List Nat, (l.map fun _ => 1).sum = l.length := by
            intro l
            induction l with
            | nil => rfl
            | cons x l ih => simp [ih]; omega
          rw [e2]
          have e3 : ("" : Str).length = 0 := by decide
          rw [e3]
          omega
        · have e1 : Txt.join ("" : Str) (ns.map fun n => ofN [sgn n]) = ofN (ns.map sgn) := by
            have := join_signs (ns.map sgn)
            rw [List.map_map] at this
            exact this
          rw [e1]
          have sm2 : Same H H2 := sm.trans p.1
          refine ⟨⟨_, rfl⟩, ofN (ns.map sgn), ("\n" : Str), rfl, rfl, rfl, ?_, fun p hp => ?_⟩
          · rw [ofN_length, List.length_map]
            exact Nat.le_trans (by omega : ns.length + 2 ≤ 20002) (by decide)
          · generalize hxs : ns.map sgn = xs at k ⊢
            have cut : Txt.split (ofN xs) ("\n" : Str) = (cut10 xs).map ofN := split10 xs
            rw [cut, List.map_map]
            obtain ⟨l, hl⟩ : ∃ l, (cut10 xs).getLast? = some l := by
              cases e : (cut10 xs).getLast? with
              | none => exact absurd (List.getLast?_eq_none_iff.mp e) (cut10_ne xs)
              | some l => exact ⟨l, rfl⟩
            have hl2 : ((cut10 xs).map (V.str ∘ ofN))[((cut10 xs).map (V.str ∘ ofN)).length - 1]? = some (V.str (ofN l)) := by
              rw [← List.getLast?_eq_getElem?, List.getLast?_map, hl]
              rfl
            have hp0 : H p = none := sm2.free hp
            have big : (cut10 xs).length ≤ 20001 := by
              have h1 := cut10_length xs
              rw [← hxs, List.length_map] at h1
              rw [← hxs]
              omega
            refine ⟨_, rfl, .inl ⟨rfl, _, SqL.of upd_same⟩, p, _, _, rfl, rfl, upd_same, hl2, rfl, _, rfl, ?_⟩
            have em : (V.str (ofN l) = V.str ("" : Str)) ↔ l = [] := by
              constructor
              · intro z
                injection z with z
                exact ofN_inj.mp (show ofN l = ofN [] from z)
              · rintro rfl
                rfl
            rw [upd_upd]
            by_cases hz : l = []
            · have c : (!decide (V.str (ofN l) = V.str ("" : Str))) = false := by
                rw [decide_eq_true (em.mpr hz)]
                rfl
              rw [c]
              refine iteF ?_
              refine ⟨_, rfl, k _ p (fun b o e => ?_) hp0 ?_⟩
              · rw [upd_ne (ne_of_none e hp0)]
                exact sm2 b o e
              · rw [upd_same]
                unfold plines
                rw [if_pos (by rw [hl, hz])]
                show _ = some (HO.lst ((cut10 xs).dropLast.map (V.str ∘ ofN)))
                rw [List.map_dropLast]
            · have c : (!decide (V.str (ofN l) = V.str ("" : Str))) = true := by
                rw [decide_eq_false (fun z => hz (em.mp z))]
                rfl
              rw [c]
              refine iteT ?_
              refine ⟨_, rfl, .inl ⟨rfl, _, SqL.of upd_same⟩, p, _, _, rfl, rfl, upd_same, ?_, ?_⟩
              · rw [List.length_dropLast, List.length_map]
                exact Nat.lt_of_lt_of_le (by omega : _ < 20002) (by decide)
              · rw [upd_upd]
                refine ⟨_, rfl, k _ p (fun b o e => ?_) hp0 ?_⟩
                · rw [upd_ne (ne_of_none e hp0)]
                  exact sm2 b o e
                · rw [upd_same]
                  unfold plines
                  rw [if_neg (by rw [hl]; exact fun z => hz (Option.some.inj z))]
                  show _ = some (HO.lst (((cut10 xs).dropLast ++ [[63]]).map (V.str ∘ ofN)))
                  rw [List.map_append, List.map_dropLast]
                  rfl
end
end JM

/-! An own error straight under Exception, whose __init__ puts its arguments under their names: made, raised, read. -/
namespace PySem
namespace ErrX
open PySem.W PySem.Calls PyProof.Rows PySem.HandSPX Builtin Builtin.ObjectAttr
abbrev tailX : List Value := [.type "Exception", .type "BaseException", .type "object"]
theorem one_size (vs : List Value) (h : vs.length ≤ 100) : vs.length ≤ sizeLine := by
  rw [sizeLine_eq]
  exact Nat.le_trans h (by decide)
/-- what __init__ leaves of a fresh exception at x -/
structure InitEnd (h h' : Heap) (x C dx t1 : Addr) (fs : List (Str × Value)) : Prop where
  keep : ∀ b o, b ≠ x → h.get? b = some o → h'.get? b = some o
  obj : h'.get? x = some { cls := .ref C, dict := some dx, data := .fields #[.ref t1, .none, .none, .none, .bool false, .none] }
  dbig : h.objs.size ≤ dx
  dne : dx ≠ x
  ns : h'.Ns1 dx (fun y => fs.lookup y)
/-- a made error -/
structure OwnMade (h h' : Heap) (e C d : Addr) (fs : List (Str × Value)) : Prop where
  keep : ∀ b o, h.get? b = some o → h'.get? b = some o
  new : h.objs.size ≤ e
  obj : ∃ oe vs, h'.get? e = some oe ∧ oe.cls = .ref C ∧ oe.dict = some d ∧ oe.data = .fields vs ∧ vs[1]? = some .none
  dbig : h.objs.size ≤ d
  dne : d ≠ e
  ns : h'.Ns1 d (fun y => fs.lookup y)
/-- __init__, called of a fresh exception -/
def InitOk (prog : Program) (w : World) (K : Frag) (C fI : Addr) (names : List Str) : Prop :=
  ∀ (A : Around) (R : Result → Shared → Prop) (s : Shared) (x t0 : Addr) (us : List Value), us.length = names.length → K.In s.heap → s.heap.NoLimit → s.heap.get? x = some (excO C t0) → K.lookup x = none → A.depth < recursionLimit →
    (∀ h' tk dx, InitEnd s.heap h' x C dx t0 (names.zip us) → R (.ok (.ret .none)) { s with heap := h', toks := tk }) →
    codeAny (model prog w) A (.call (.ref fI) ⟨.ref x :: us, []⟩) R s
/-- the class in the written part -/
structure ErrCls (K : Frag) (C : Addr) (names : List Str) : Prop where
  cls : ∃ nm q N bs sn sub ab col dd k0 k1 k2 k3 k5, K.lookup C = some (excClassObj nm q C N bs tailX true sn sub ab col dd k0 k1 k2 k3 k5 "Exception.__new__")
  sa : findIn K (.ref C) "__setattr__" = some (some (.builtin "object.__setattr__"))
  ga : findIn K (.ref C) "__getattribute__" = some (some (.builtin "BaseException.__getattribute__"))
  gg : findIn K (.ref C) "__getattr__" = some none
  noN : ∀ f ∈ names, findIn K (.ref C) f = some none
  kC : keepIn K (.ref C) = true
  exC : subIn K (.ref C) (.type "BaseException") = some true
  tyC : typeIn K (.ref C) = some (.type "type")
  hdC : hasDictIn K C = true
  te : exmOne K (.ref C) (.ref C) = some true
/-- .. of its __init__ -/
structure ErrIni (K : Frag) (C fI : Addr) : Prop where
  iC : findIn K (.ref C) "__init__" = some (some (.ref fI))
  tC : typeIn K (.ref fI) = some (.type "function")
section
variable {prog : Program} {w : World} {A : Around} {E : Value → Shared → Prop} {R : Result → Shared → Prop} {K : Frag} {C fI : Addr} {names : List Str}
theorem over_of (T : ErrCls K C names) : ∃ cd, clsIn K C = some cd ∧ cd.hasDict = true ∧ excOver K C tailX = true := by
  obtain ⟨nm, q, N, bs, sn, sub, ab, col, dd, k0, k1, k2, k3, k5, hC⟩ := T.cls
  have hcl : clsIn K C = some { name := nm, bases := bs, mro := .ref C :: tailX, ns := N, qualname := q, hasDict := true, slotNames := sn, subclasses := sub, abstract := ab, collection := col, hasDel := false } := by
    unfold clsIn
    rw [hC] <;> rfl
  refine ⟨_, hcl, rfl, ?_⟩
  unfold excOver
  rw [hcl]
  simp [excTail]
section
variable {hp : Heap} {g : Array GenState} {d : Drawn} {t0 : Nat} {os : OsState} {name : Str} {k0 : Tok} {v : Value} {x : Addr} {fv : Array Value}
/-- a first value of an error -/
theorem put_new (T : ErrCls K C names) (hf : name ∈ names) (X : K.In hp) (hx : hp.get? x = some { cls := .ref C, data := .fields fv })
    (hq : ∀ hN tN dx, (∀ b o, b ≠ x → hp.get? b = some o → hN.get? b = some o) → hp.objs.size ≤ dx → dx ≠ x → hN.get? x = some { cls := .ref C, dict := some dx, data := .fields fv } →
      hN.Ns1 dx (fun y => if y = name then some v else none) → R (.ok (.ret .none)) ⟨hN, g, d, tN, os⟩) :
    codeAny (model prog w) A (.call (.builtin "object.__setattr__") ⟨[.ref x, .str name k0, v], []⟩) R ⟨hp, g, d, t0, os⟩ := by
  obtain ⟨cd, hcd, hh, hov⟩ := over_of T
  have J : InstAt hp x { cls := .ref C, data := .fields fv } C none := ⟨hx, rfl, rfl, trivial⟩
  have apart : x ≠ hp.objs.size := Nat.ne_of_lt (Heap.lt_size hx)
  have hcls : Looks (model prog w) hp (classData C) cd := looks_clsIn X hcd
  refine osa_openX (s := ⟨hp, g, d, t0, os⟩) (r := none) F.store_Exception X J hov (by unfold takerIn; rw [T.noN _ hf]; rfl) fun b => ?_
  show wpAny _ _ (storeInOwnDict (.ref x) (.ref C) (.str name k0) name v b) _ _ _
  obtain ⟨c1, c2, c3, c4, c5, c6, c7, c8, c9, c10, c11⟩ := cd
  dsimp only at hh
  subst hh
  unfold storeInOwnDict
  unfold ownDictForStores
  repeat (first | with_reducible refine hcls.at ?_ | with_reducible refine wpAny_loadPart_at hx ?_ | with_reducible refine store_in_new ?_ ?_ | wp_step)
  · refine ⟨{ cls := .type "dict", data := .dict #[] }, #[], _, ?_, rfl, fun e he => ?_, fun _ => rfl⟩
    · rw [Heap.get?_update_ne _ _ _ _ apart.symm]
      exact Heap.get?_push_at rfl rfl
    · exact absurd he (by simp)
  · intro hN tN hn hs
    have there : (hp.push { cls := .type "dict", data := .dict #[] }).get? x = some { cls := .ref C, data := .fields fv } := Heap.get?_push_of_some _ hx
    refine hq hN tN hp.objs.size (fun b o hb ho => ?_) (Nat.le_refl _) apart.symm ?_ hn
    · exact (hs.2 b (Nat.ne_of_lt (Heap.lt_size ho))).trans ((Heap.get?_update_ne _ _ _ _ hb).trans (Heap.get?_push_of_some _ ho))
    · rw [hs.2 x apart]
      exact Heap.get?_update_self _ there rfl
/-- a further one -/
theorem put_old {dx : Addr} {m0 : Str → Option Value} {nl : List Str} (T : ErrCls K C names) (hf : name ∈ names) (X : K.In hp) (hx : hp.get? x = some { cls := .ref C, dict := some dx, data := .fields fv })
    (hns : hp.Ns1 dx m0) (hw : Within m0 nl) (hz : nl.length ≤ 1000)
    (hq : ∀ hN tN, (∀ b o, b ≠ dx → hp.get? b = some o → hN.get? b = some o) → hN.Ns1 dx (fun y => if y = name then some v else m0 y) → R (.ok (.ret .none)) ⟨hN, g, d, tN, os⟩) :
    codeAny (model prog w) A (.call (.builtin "object.__setattr__") ⟨[.ref x, .str name k0, v], []⟩) R ⟨hp, g, d, t0, os⟩ := by
  obtain ⟨cd, hcd, hh, hov⟩ := over_of T
  obtain ⟨oD, _, _, hoD, _, _⟩ := hns.count hw
  have J : InstAt hp x { cls := .ref C, dict := some dx, data := .fields fv } C (some oD) := ⟨hx, rfl, rfl, hoD⟩
  have hcls : Looks (model prog w) hp (classData C) cd := looks_clsIn X hcd
  refine osa_openX (s := ⟨hp, g, d, t0, os⟩) (r := none) F.store_Exception X J hov (by unfold takerIn; rw [T.noN _ hf]; rfl) fun b => ?_
  show wpAny _ _ (storeInOwnDict (.ref x) (.ref C) (.str name k0) name v b) _ _ _
  obtain ⟨c1, c2, c3, c4, c5, c6, c7, c8, c9, c10, c11⟩ := cd
  dsimp only at hh
  subst hh
  unfold storeInOwnDict
  unfold ownDictForStores
  repeat (first | with_reducible refine PySem.OEX.store_in_old hns hw hz ?_ | with_reducible refine wpAny_loadPart_at hx ?_ | with_reducible refine hcls.at ?_ | wp_step)
  intro hN tN hn hs
  exact hq hN tN (fun b o nb eo => (hs.2 b nb).trans eo) hn
end
theorem ldC {M : Model} {s : Shared} {name : Str} {scope : Scope} {L a : Addr} {cd : Value} {m : Str → Option Value} {x : Str} {pos : Pos} {v : Value} {Q : Value → Shared → Prop} {A : Around} {E : Value → Shared → Prop} (hn : s.heap.Ns L m) (hv : m x = some v) (h : Q v s)
    (hk : scope.kind = .function := by rfl) (hl : (envOfC name scope L a cd).kindOf x = some .local := by rfl) (hd : (x == ("__debug__" : Str)) = false := by decide) :
    wpAny M A (eval (.Name x pos) (envOfC name scope L a cd)) Q E s := wpAny_Name (wpAny_loadName_local hk hl hn hv h) hd
/-! ### the text of __init__: one value, two -/
def iA1 (n1 : Str) (p1 p2 : Pos) : Arguments := { posonlyargs := [], args := [{ arg := "self", annotation := none, pos := p1 }, { arg := n1, annotation := none, pos := p2 }], vararg := none, kwonlyargs := [], kw_defaults := [], kwarg := none, defaults := [] }
def iB1 (n1 : Str) (q1 q2 q3 q4 : Pos) : List Stmt := [.Assign [.Attribute (.Name "self" q1) n1 q2] (.Name n1 q3) q4]
def iS1 (n1 : Str) : Scope := { kind := .function, names := [(PySem.Str.ofString "self", .local), (n1, .local)], isGenerator := false, isCoroutine := false, more := [] }
theorem init_line {qual : Str} (T : ErrCls K C ["line"]) (fn : ∃ (oc : Value) (od : Option Addr) (doc pm : Value) (an : Option Addr) (cdv ct : Value) (osl : Array (Option Value)) (p1 p2 q1 q2 q3 q4 : Pos),
    K.lookup fI = some ⟨oc, od, .func (fnOf "__init__" qual (iA1 "line" p1 p2) (iB1 "line" q1 q2 q3 q4) (iS1 "line") .none .none doc pm an cdv ct), osl⟩ ∧ codeIn K cdv qual = true) : InitOk prog w K C fI ["line"] := by
  intro A R s x t0 us hus X hlim hx hnx hroom hq
  obtain ⟨v, rfl⟩ : ∃ v, us = [v] := by
    match us, hus with
    | [v], _ => exact ⟨v, rfl⟩
  obtain ⟨oc, od, doc, pm, an, cdv, ct, osl, p1, p2, q1, q2, q3, q4, ho, hcd⟩ := fn
  refine Att.call_fn (binds := [("self", .ref x), ("line", v)]) X hlim ho hcd hroom (BindsTo.of_eq (by first | rfl | with_unfolding_all rfl)) (by first | rfl | decide | with_unfolding_all rfl) (fun s₁ IC => ?_) rfl rfl rfl
  obtain ⟨h₁, tk₁, rfl⟩ := IC.toInCall.same
  have k : ∀ b o, s.heap.get? b = some o → h₁.get? b = some o := IC.toInCall.keep
  have hn := IC.toInCall.ns
  have X₁ : K.In h₁ := X.keeps k
  have hx₁ := k _ _ hx
  show wpAny _ _ (execs _ _) _ _ _
  refine wpAny_execs_cons (plainObj_wpAny_Assign_Attribute ?_)
  refine ldC (v := v) hn (by first | rfl | with_unfolding_all rfl | kernel_rfl) (ldC (v := .ref x) hn (by first | rfl | with_unfolding_all rfl | kernel_rfl) ?_)
  refine set_plain X₁ (ox := excO C t0) (od := none) ⟨hx₁, rfl, rfl, trivial⟩ T.sa ?_
  refine put_new T (List.mem_singleton.mpr rfl) X₁ hx₁ (fun h₃ tk₃ dx k₃ dn dne hx₃ hn₃ => ?_)
  show wpAny _ _ (execs _ _) _ _ _
  have z : s.heap.objs.size < h₁.objs.size := hn.lt
  refine wpAny_execs_nil (hq h₃ tk₃ dx ⟨fun b o hb e => k₃ b o hb (k b o e), hx₃, Nat.le_of_lt (Nat.lt_of_lt_of_le z dn), dne, ?_⟩)
  have e : (fun y => (([("line" : Str)] : List Str).zip [v]).lookup y) = fun (y : Str) => if y = "line" then some v else none := by
    funext y
    show (List.lookup y [("line", v)]) = _
    unfold List.lookup
    by_cases hy : y = "line"
    · subst hy
      simp
    · have q : (y == ("line" : Str)) = false := by simpa using hy
      rw [if_neg hy, q]
      rfl
  rw [e]
  exact hn₃
theorem err_made {us : List Value} {s : Shared} (T : ErrCls K C names) (J : ErrIni K C fI) (I : InitOk prog w K C fI names) (hus : us.length = names.length) (few : names.length ≤ 100) (X : K.In s.heap) (hlim : s.heap.NoLimit) (hroom : A.depth + 1 < recursionLimit)
    (hq : ∀ h' tk e d, OwnMade s.heap h' e C d (names.zip us) → R (.ok (.ret (.ref e))) { s with heap := h', toks := tk }) :
    codeAny (model prog w) A (.call (.ref C) ⟨us, []⟩) R s := by
  obtain ⟨nm, q, N, bs, sn, sub, ab, col, dd, k0, k1, k2, k3, k5, hC⟩ := T.cls
  obtain ⟨hp, g, dr, tk, os⟩ := s
  have k : ∀ b o, hp.get? b = some o → ((hp.push (kdv_tup us)).push (excO C hp.objs.size)).get? b = some o := fun b o e => Heap.get?_push_of_some _ (Heap.get?_push_of_some _ e)
  have hget : ((hp.push (kdv_tup us)).push (excO C hp.objs.size)).get? (hp.objs.size + 1) = some (excO C hp.objs.size) := by heap_get
  have hnx : K.lookup (hp.objs.size + 1) = none := by
    cases e : K.lookup (hp.objs.size + 1) with
    | none => rfl
    | some o =>
      have z : hp.get? (hp.objs.size + 1) = some o := X _ _ e
      exact absurd (Nat.lt_of_succ_lt (Heap.lt_size z)) (Nat.lt_irrefl _)
  refine call_own F.excBase_Exception (fun _ => rfl) (X _ _ hC) (looks_findIn X J.iC) (fun self => bind_fn X self J.tC) (one_size us (by omega)) ?_
  refine I _ _ ⟨(hp.push (kdv_tup us)).push (excO C hp.objs.size), g, dr, tk, os⟩ _ _ us hus (X.keeps k) (hlim.keeps k) hget hnx ?_ fun h' tk' dx ⟨k', hx, dn, dne, hns⟩ => ?_
  · show A.depth + 1 < recursionLimit
    exact hroom
  · have old : ∀ b o, hp.get? b = some o → h'.get? b = some o := fun b o e => k' b o (Nat.ne_of_lt (Nat.lt_succ_of_lt (Heap.lt_size e))) (k b o e)
    have z : hp.objs.size + 1 + 1 ≤ dx := by
      first
        | (simpa only [Heap.size_push] using dn)
        | exact dn
        | (have q := dn; rw [Heap.size_push, Heap.size_push] at q; exact q)
    exact ⟨rfl, hq h' tk' (hp.objs.size + 1) dx ⟨old, Nat.le_succ _, ⟨_, _, hx, rfl, rfl, rfl, rfl⟩, Nat.le_trans (Nat.le_trans (Nat.le_succ _) (Nat.le_succ _)) z, dne, hns⟩⟩
end
end ErrX
end PySem

namespace L2
open PySem PySem.Spec PyProof.Rows PySem.ErrX
theorem relO_zip (f : Str) : ∀ (names : List Str) {vs : List V} {us : List Value}, Vals vs us → RelO ((names.zip vs).lookup f) ((names.zip us).lookup f)
  | [], _, _, _ => trivial
  | n :: r, _, _, .nil => trivial
  | n :: r, _, _, .cons rv t => by
    show RelO (List.lookup f ((n, _) :: r.zip _)) (List.lookup f ((n, _) :: r.zip _))
    unfold List.lookup
    cases h : f == n with
    | true => exact rv
    | false => exact relO_zip f r t
section
variable {X : Cx} {C fI : Addr} {names : List Str}
/-- Err(e, ..) -/
def tMkErr (C : Addr) (names : List Str) (ta : TA) : St → Hp → XK → Prop := fun σ H Q => ta σ H fun vs H1 => vs.length = names.length ∧ ∀ d, H1 d = none → Q (.ref C) (some d) (upd H1 d (.xd (names.zip vs)))
theorem pmk_err {x : Str} {a : Expr} {es : List Expr} {ta : TA} {p pos : Pos} {k : Nat} (T : ErrCls X.K C names) (J : ErrIni X.K C fI) (IN : InitOk X.prog X.w X.K C fI names) (few : names.length ≤ 100) (hr : Room k X.A) (gC : X.mg x = some (.ref C)) (ha : PA X (a :: es) ta) (hg : Gl X x)
    (hdb : (x == ("__debug__" : Str)) = false := by decide)
    (he : starEach (a :: es) X.env = (false, eval a X.env) :: starEach es X.env := by rfl) (hpl : (backTo pos (starEach es X.env)).any (·.1) = false := by rfl) :
    PMk X (.Call (.Name x p) (a :: es) [] pos) (tMkErr C names ta) := by
  intro pins s σ H Q I h
  refine wpAny_Call_Name_kw (ld_glob I hg gC (PySem.W.callWith_K (h₀ := X.base) I.ok.mod.kin T.kC (thn (ha.run pos pins s σ H _ I h) fun us s1 ⟨vs, H1, I1, r1, ev, q1⟩ => ?_) he hpl) hdb)
  refine ⟨I1.kIn, show wpAny _ _ (call (.ref C) us) _ _ _ from ?_⟩
  have hlim := I1.nolimit
  obtain ⟨hp, g, dr, tk, os⟩ := s1
  refine wpAny_call (err_made T J IN (by rw [← r1.length]; exact ev) few I1.kIn hlim (by have := hr.dp; omega) fun h' tk' e d M => ?_)
  show MkP X pins σ Q (.ref e) ⟨h', g, dr, tk', os⟩
  obtain ⟨oe, fv, hoe, hc, hd, hdat, h1⟩ := M.obj
  have hns := M.ns
  obtain ⟨G', g1, g2⟩ := restrict h' fun b => decide (b ≠ e)
  have gk : ∀ b, b ≠ e → G'.get? b = h'.get? b := fun b hb => g1 b (decide_eq_true hb)
  have ge : G'.get? e = none := g2 e (by simp)
  have old : ∀ b o, hp.get? b = some o → G'.get? b = some o := fun b o q => (gk b (Nat.ne_of_lt (Nat.lt_of_lt_of_le (Heap.lt_size q) M.new))).trans (M.keep b o q)
  have ob : ObjOk X.prog X.w (upd H1 d (.xd (names.zip vs))) G' d (.xd (names.zip vs)) :=
    ⟨_, hns.at (fun o q => (gk d M.dne).trans q), fun f => relO_zip f names r1⟩
  have J : Inv X pins σ (upd H1 d (.xd (names.zip vs))) ⟨G', g, dr, tk', os⟩ := I1.laid (t' := tk') old M.dbig ob
  refine ⟨e, oe, fv, ⟨G', g, dr, tk', os⟩, _, .ref C, some d, rfl, J, fun b o q => ?_, ge, hoe, ⟨hc, hd⟩, hdat, h1, ?_, rfl, I1.bare, raises_own T.exC T.tyC, q1 d (I1.hok.fresh M.dbig)⟩
  · by_cases hb : b = e
    · have q' : G'.get? b = some o := q
      rw [hb, ge] at q'; cases q'
    · exact (gk b hb).symm.trans q
  · rw [upd_ne (Ne.symm M.dne)]
    exact I1.hok.fresh M.new
/-- raise Err(e, ..) -/
def tRaiseErr (C : Addr) (names : List Str) (W : WX) (ta : TA) : TS := fun _ σ H => tMkErr C names ta σ H fun cls d H' => W cls d σ H'
theorem ps_raiseErr {x : Str} {a : Expr} {es : List Expr} {ta : TA} {W : WX} {p pos pos2 : Pos} {k : Nat} (hc : X.calm = true) (T : ErrCls X.K C names) (J : ErrIni X.K C fI) (IN : InitOk X.prog X.w X.K C fI names) (few : names.length ≤ 100) (hr : Room k X.A) (gC : X.mg x = some (.ref C)) (tk : Takes X W) (ha : PA X (a :: es) ta) (hg : Gl X x)
    (hdb : (x == ("__debug__" : Str)) = false := by decide)
    (he : starEach (a :: es) X.env = (false, eval a X.env) :: starEach es X.env := by rfl) (hpl : (backTo pos (starEach es X.env)).any (·.1) = false := by rfl) :
    PS X (.Raise (some (.Call (.Name x p) (a :: es) [] pos)) none pos2) (tRaiseErr C names W ta) := ps_raise hc tk (pmk_err T J IN few hr gC ha hg hdb he hpl)
/-- err.f, err the exception that the suite holds (at a; its class cls, its dict d) -/
def tErrFld (C : Addr) (f : Str) (a : Addr) (cls : Value) (d : Option Addr) (te : TE) : TE := fun σ H Q => te σ H fun x H1 => x = .ref a ∧ cls = .ref C ∧ ∃ (dd : Addr) (fs : List (Str × V)) (v : V), d = some dd ∧ H1 dd = some (.xd fs) ∧ fs.lookup f = some v ∧ Q v H1
theorem pe_errFld {f : Str} {a : Addr} {oe : Obj} {cls : Value} {d : Option Addr} {pn : List (Addr × Obj)} {e : Expr} {te : TE} {pos : Pos} (T : ErrCls X.K C names) (hn : f ∈ names) (hz : Zc cls d oe) (hf : ∃ vs, oe.data = .fields vs) (he : PE (X.suite a ((a, oe) :: pn)) e te)
    (hb : attributeBase e f X.env (eval e X.env) = eval e X.env := by rfl) :
    PE (X.suite a ((a, oe) :: pn)) (.Attribute e f pos) (tErrFld C f a cls d te) := by
  refine ⟨fun pins s σ H Q I h => ?_⟩
  refine attr_of hb (thn (he.run pins s σ H _ I h) fun u s1 hh => ?_)
  obtain ⟨y, H1, I1, ry, ey, ec, dd, fs, v, ed, ea, l, q⟩ := hh
  subst ey
  obtain rfl : u = Value.ref a := ry
  subst ec
  subst ed
  obtain ⟨ha, _⟩ := I1.pin (a, oe) (List.mem_append_left _ List.mem_cons_self)
  obtain ⟨vs, hd⟩ := hf
  obtain ⟨mA, hns, hr⟩ := (show ObjOk X.prog X.w H1 s1.heap dd (.xd fs) from I1.hok dd _ ea)
  obtain ⟨od, ho, hl⟩ := lookIn_ns hns
  obtain ⟨u, hu, ru⟩ := RelO.some_of (v := v) (o := mA f) (by rw [← l]; exact hr f)
  have J : PySem.W.InstAt s1.heap a oe C (some od) := ⟨ha, hz.1, by unfold PySem.W.notCls; rw [hd] <;> rfl, by rw [hz.2]; exact ho⟩
  exact HandSPX.exc_get I1.kIn J T.ga T.gg T.exC (PySem.W.findObj_own T.hdC (T.noN f hn) rfl (by rw [hl, hu])) (handed_of ru) ⟨v, H1, I1.tok _, ru, q⟩
end
end L2

namespace JM
open PySem PySem.Spec PyProof.Rows L2 PySem.ErrX
abbrev cG : Stmt := top 6
abbrev cL : Stmt := top 7
abbrev sInitG : Stmt := inClass cG 0
abbrev sInitL : Stmt := inClass cL 0
abbrev sComing : Stmt := inClass cL 1
abbrev sWord : Stmt := inClass cL 2
abbrev sTake : Stmt := inClass cL 3
abbrev sEnd : Stmt := inClass cL 4
/-! ### fields -/
theorem lk_here {k : Str} {v : V} {r : List (Str × V)} : List.lookup k ((k, v) :: r) = some v := by
  have e : (k == k) = true := beq_self_eq_true k
  simp only [List.lookup, e]
theorem lk_past {k g : Str} {v : V} {r : List (Str × V)} (h : (k == g) = false) : List.lookup k ((g, v) :: r) = List.lookup k r := by
  simp only [List.lookup, h]
theorem put_here {f : Str} {v x : V} {r : List (Str × V)} : putF f v ((f, x) :: r) = (f, v) :: r := if_pos rfl
theorem put_past {f g : Str} {v x : V} {r : List (Str × V)} (h : ¬ g = f) : putF f v ((g, x) :: r) = (g, x) :: putF f v r := if_neg h
def lF (l : Addr) (k : Nat) : List (Str × V) := [("lines", .ref l), ("at", .int k)]
theorem lF_lines (l : Addr) (k : Nat) : (lF l k).lookup ("lines" : Str) = some (.ref l) := lk_here
theorem lF_at (l : Addr) (k : Nat) : (lF l k).lookup ("at" : Str) = some (.int k) := (lk_past (by decide +kernel)).trans lk_here
theorem lF_no {m : Str} (l : Addr) (k : Nat) (h1 : (m == ("lines" : Str)) = false) (h2 : (m == ("at" : Str)) = false) : (lF l k).lookup m = none := (lk_past h1).trans ((lk_past h2).trans rfl)
theorem lF_put (l : Addr) (k : Nat) : putF "at" (.int ((k : Int) + 1)) (lF l k) = lF l (k + 1) := (put_past (by decide +kernel)).trans (congrArg _ put_here)
theorem lF_new (l : Addr) : putF "at" (.int 0) (putF "lines" (.ref l) []) = lF l 0 := (put_past (by decide +kernel)).trans rfl
def gF (a b c : V) : List (Str × V) := [("front", a), ("right", b), ("top", c)]
theorem gF_new (a b c : V) : putF "top" c (putF "right" b (putF "front" a [])) = gF a b c := by
  have h1 : putF "front" a [] = [(("front" : Str), a)] := rfl
  have h2 : putF "right" b [(("front" : Str), a)] = [(("front" : Str), a), ("right", b)] := (put_past (by decide +kernel)).trans rfl
  rw [h1, h2]
  exact (put_past (by decide +kernel)).trans (congrArg _ ((put_past (by decide +kernel)).trans rfl))
/-- lines at a, the list of them at l, the next one k -/
def LinesAt (C : Addr) (H : Hp) (a l : Addr) (ls : List (List Nat)) (k : Nat) : Prop := (∃ dx, H a = some (.ins C dx (lF l k))) ∧ H l = some (.lst (sV ls))
def comV (ls : List (List Nat)) (k : Nat) : V := match ls[k]? with
  | some s => .str (ofN s)
  | none => .non
/-- all but what stands at a stays -/
def But (a : Addr) (H H' : Hp) : Prop := ∀ b o, H b = some o → b ≠ a → H' b = some o
theorem LinesAt.ne {C : Addr} {H : Hp} {a l : Addr} {ls : List (List Nat)} {k : Nat} (x : LinesAt C H a l ls k) : l ≠ a := by
  obtain ⟨⟨dx, h1⟩, h2⟩ := x
  exact ne_of h2 h1 (fun z => nomatch z)
theorem LinesAt.same {C : Addr} {H H' : Hp} {a l : Addr} {ls : List (List Nat)} {k : Nat} (x : LinesAt C H a l ls k) (s : Same H H') : LinesAt C H' a l ls k := by
  obtain ⟨⟨dx, h1⟩, h2⟩ := x
  exact ⟨⟨dx, s _ _ h1⟩, s _ _ h2⟩
/-- it fails at k -/
def Fails (CF : Addr) (E : XK) (H : Hp) (k : Nat) : Prop := ∀ (H' : Hp) (d : Addr), Same H H' → H' d = some (.xd [(("line" : Str), .int k)]) → E (.ref CF) (some d) H'
theorem Fails.same {CF : Addr} {E : XK} {H H' : Hp} {k : Nat} (x : Fails CF E H k) (s : Same H H') : Fails CF E H' k := fun H2 d s2 e => x H2 d (s.trans s2) e
theorem Fails.now {CF : Addr} {E : XK} {H : Hp} {k : Nat} (x : Fails CF E H k) {d : Addr} (hd : H d = none) : E (.ref CF) (some d) (upd H d (.xd [(("line" : Str), .int k)])) :=
  x _ d (fun b o e => by rw [upd_ne (ne_of_none e hd)]; exact e) upd_same
/-! ### the promises -/
def spInitL (C : Addr) : Sp := fun vs H Q _ => ∃ (p dx l : Addr), vs = [.ref p, .ref l] ∧ H p = some (.ins C dx []) ∧
  ∀ H' : Hp, H' p = some (.ins C dx (lF l 0)) → But p H H' → Q .non H'
def spInitG (C : Addr) : Sp := fun vs H Q _ => ∃ (p dx : Addr) (a b c : V), vs = [.ref p, a, b, c] ∧ H p = some (.ins C dx []) ∧
  ∀ H' : Hp, H' p = some (.ins C dx (gF a b c)) → But p H H' → Q .non H'
def spComing (C : Addr) : Sp := fun vs H Q _ => ∃ (a l : Addr) (ls : List (List Nat)) (k : Nat), vs = [.ref a] ∧ LinesAt C H a l ls k ∧ k ≤ ls.length ∧ Q (comV ls k) H
def spWord (C CF : Addr) : Sp := fun vs H Q E => ∃ (a l : Addr) (ls : List (List Nat)) (k : Nat) (wd : List Nat), vs = [.ref a, .str (ofN wd)] ∧ LinesAt C H a l ls k ∧ k ≤ ls.length ∧
  (ls[k]? = some wd → ∀ H', LinesAt C H' a l ls (k + 1) → But a H H' → Q .non H') ∧ (ls[k]? ≠ some wd → Fails CF E H k)
def spTake (C CF : Addr) : Sp := fun vs H Q E => ∃ (a l : Addr) (ls : List (List Nat)) (k lo hi : Nat), vs = [.ref a, .int lo, .int hi] ∧ LinesAt C H a l ls k ∧ k ≤ ls.length ∧ (∀ r ∈ ls, r.length ≤ 20000) ∧
  (∀ b, rowAt ls k lo hi = some b → ∀ H', LinesAt C H' a l ls (k + 1) → But a H H' → Q (.str (ofN b)) H') ∧ (rowAt ls k lo hi = none → Fails CF E H k)
def spEnd (C CF : Addr) : Sp := fun vs H Q E => ∃ (a l : Addr) (ls : List (List Nat)) (k : Nat), vs = [.ref a] ∧ LinesAt C H a l ls k ∧ k ≤ ls.length ∧
  (ls[k]? = none → Q .non H) ∧ (ls[k]? ≠ none → Fails CF E H k)
structure ClsL (K : PySem.W.Frag) (C : Addr) : Prop where
  cl : Cls K C
  nL : NoAttr K C "lines"
  nA : NoAttr K C "at"
structure ClsG (K : PySem.W.Frag) (C : Addr) : Prop where
  cl : Cls K C
  nF : NoAttr K C "front"
  nR : NoAttr K C "right"
  nT : NoAttr K C "top"
section
variable {P : Program} {w : World} {K : PySem.W.Frag} {mg : Str → Option Value} {base : Heap} {C CF fI : Addr}
theorem scInitL : FnScope ["self", "lines"] ["self", "lines"] (defScope sInitL) := ⟨rfl, rfl, rfl, by decide +kernel, rfl, by decide +kernel, by decide +kernel⟩
theorem ok_initL {f : Addr} {fd : FuncData} (F : Fun K "__init__" "DrawingLines.__init__" sInitL f fd) (T : ClsL K C) : FnOk P w K mg base CX0 1 f fd ["self", "lines"] (spInitL C) := by
  refine F.ok scInitL (fun vs H Q E h => ?_) (fun cdv A outer s H vs Q E hr h => ⟨_, pss_cons (ps_fld (pv 0) (pv 1) rfl) (pss_one (ps_fld (pv 0) pe_int rfl)), ?_⟩)
  · obtain ⟨p, dx, l, rfl, _⟩ := h
    rfl
  · obtain ⟨p, dx, l, rfl, hp, k⟩ := h
    refine ⟨_, rfl, _, rfl, p, C, dx, [], rfl, hp, T.cl, T.nL, (by show 0 < 1000; decide), ?_⟩
    refine ⟨_, rfl, p, C, dx, _, rfl, upd_same, T.cl, T.nA, (by show 1 < 1000; decide), ?_⟩
    refine k _ (Eq.trans upd_same (congrArg (fun q => some (HO.ins C dx q)) (lF_new l))) fun b o e hb => ?_
    rw [upd_ne hb, upd_ne hb]
    exact e
theorem scInitG : FnScope ["self", "front", "right", "top"] ["self", "front", "right", "top"] (defScope sInitG) := ⟨rfl, rfl, rfl, by decide +kernel, rfl, by decide +kernel, by decide +kernel⟩
theorem ok_initG {f : Addr} {fd : FuncData} (F : Fun K "__init__" "Drawing.__init__" sInitG f fd) (T : ClsG K C) : FnOk P w K mg base CX0 1 f fd ["self", "front", "right", "top"] (spInitG C) := by
  refine F.ok scInitG (fun vs H Q E h => ?_) (fun cdv A outer s H vs Q E hr h => ⟨_, pss_cons (ps_fld (pv 0) (pv 1) rfl) (pss_cons (ps_fld (pv 0) (pv 2) rfl) (pss_one (ps_fld (pv 0) (pv 3) rfl))), ?_⟩)
  · obtain ⟨p, dx, a, b, c, rfl, _⟩ := h
    rfl
  · obtain ⟨p, dx, x, y, z, rfl, hp, k⟩ := h
    refine ⟨_, rfl, _, rfl, p, C, dx, [], rfl, hp, T.cl, T.nF, (by show 0 < 1000; decide), ?_⟩
    refine ⟨_, rfl, _, rfl, p, C, dx, _, rfl, upd_same, T.cl, T.nR, (by show 1 < 1000; decide), ?_⟩
    refine ⟨_, rfl, _, rfl, p, C, dx, _, rfl, upd_same, T.cl, T.nT, (by show 2 < 1000; decide), ?_⟩
    refine k _ (Eq.trans upd_same (congrArg (fun q => some (HO.ins C dx q)) (gF_new x y z))) fun b o e hb => ?_
    rw [upd_ne hb, upd_ne hb, upd_ne hb]
    exact e
theorem scComing : FnScope ["self"] ["self"] (defScope sComing) := ⟨rfl, rfl, rfl, by decide +kernel, rfl, by decide +kernel, by decide +kernel⟩
theorem ok_coming {f : Addr} {fd : FuncData} (F : Fun K "coming" "DrawingLines.coming" sComing f fd) (T : ClsL K C) (mlen : mg "len" = none) : FnOk P w K mg base CX0 1 f fd ["self"] (spComing C) := by
  refine F.ok scComing (fun vs H Q E h => ?_) (fun cdv A outer s H vs Q E hr h => ⟨_, pss_cons (ps_if (pt_cmpR op_eq (pe_fld (pv 0) rfl) (pe_callB call_len_seq (by rfl) mlen PySem.boot_len (pa_cons (pe_fld (pv 0) rfl) pa_nil)) (nomark _)) (pss_one (ps_ret pe_non)) pss_nil)
    (pss_one (ps_ret (pe_ix ix_list (pe_fld (pv 0) rfl) (pe_fld (pv 0) rfl) (fun _ _ => rfl)))), ?_⟩)
  · obtain ⟨a, l, ls, k, rfl, _⟩ := h
    rfl
  · obtain ⟨a, l, ls, k, rfl, ⟨⟨dx, h1⟩, h2⟩, hk, q⟩ := h
    refine ⟨_, rfl, a, C, dx, _, _, rfl, h1, T.cl, T.nA, lF_at l k, _, rfl, a, C, dx, _, _, rfl, h1, T.cl, T.nL, lF_lines l k, l, _, rfl, .inl (SqL.of h2), rfl, _, rfl, ?_⟩
    have dd : decide (V.int (k : Int) = V.int ((sV ls).length : Int)) = decide (k = ls.length) := by
      rw [List.length_map]
      by_cases c : k = ls.length
      · rw [c]
        simp
      · rw [decide_eq_false c, decide_eq_false]
        intro z
        injection z with z
        exact c (Int.ofNat.inj z)
    rw [dd]
    unfold comV at q
    by_cases c : k = ls.length
    · rw [decide_eq_true c]
      refine iteT ?_
      have e : ls[k]? = none := by simp [c]
      rw [e] at q
      exact q
    · rw [decide_eq_false c]
      refine iteF ?_
      have hlt : k < ls.length := by omega
      have e : ls[k]? = some ls[k] := by simp [hlt]
      rw [e] at q
      refine ⟨_, rfl, a, C, dx, _, _, rfl, h1, T.cl, T.nL, lF_lines l k, _, rfl, a, C, dx, _, _, rfl, h1, T.cl, T.nA, lF_at l k, l, _, _, _, rfl, rfl, SqL.of h2, atI_nat (v := V.str (ofN ls[k])) ?_, q⟩
      rw [List.getElem?_map, e]
      rfl
/-- .. in the heap behind self.at += 1 -/
theorem LinesAt.next {H H1 : Hp} {a l dx : Addr} {ls : List (List Nat)} {k : Nat} (h1 : H1 a = some (.ins C dx (lF l k))) (h2 : H1 l = some (.lst (sV ls))) : LinesAt C (upd H1 a (.ins C dx (putF "at" (.int ((k : Int) + 1)) (lF l k)))) a l ls (k + 1) := by
  refine ⟨⟨dx, ?_⟩, ?_⟩
  · rw [upd_same, lF_put]
  · rw [upd_ne (ne_of h2 h1 (fun z => nomatch z))]
    exact h2
theorem comV_eq {ls : List (List Nat)} {k : Nat} {wd : List Nat} : (comV ls k = .str (ofN wd)) ↔ ls[k]? = some wd := by
  unfold comV
  cases e : ls[k]? with
  | none => exact ⟨fun z => (nomatch z), fun z => (nomatch z)⟩
  | some s =>
    show V.str (ofN s) = V.str (ofN wd) ↔ some s = some wd
    constructor
    · intro z
      injection z with z
      rw [ofN_inj.mp z]
    · intro z
      rw [Option.some.inj z]
theorem comV_none {ls : List (List Nat)} {k : Nat} : (comV ls k = .non) ↔ ls[k]? = none := by
  unfold comV
  cases e : ls[k]? with
  | none => exact ⟨fun _ => rfl, fun _ => rfl⟩
  | some s => exact ⟨fun z => (nomatch z), fun z => (nomatch z)⟩
theorem comV_scal (ls : List (List Nat)) (k : Nat) (x : Str) : scal (comV ls k) (.str x) = true := by
  unfold comV
  cases ls[k]? <;> rfl
theorem scWord : FnScope ["self", "word"] ["self", "word"] (defScope sWord) := ⟨rfl, rfl, rfl, by decide +kernel, rfl, by decide +kernel, by decide +kernel⟩
/-- what the raising methods need of the error -/
structure Err (P : Program) (w : World) (K : PySem.W.Frag) (mg : Str → Option Value) (CF fI : Addr) : Prop where
  cls : ErrCls K CF ["line"]
  ini : ErrIni K CF fI
  ok : InitOk P w K CF fI ["line"]
  g : mg "DrawingFault" = some (.ref CF)
theorem ok_word {f fC : Addr} {fd fdC : FuncData} (F : Fun K "take_word" "DrawingLines.take_word" sWord f fd) (T : ClsL K C) (R : Err P w K mg CF fI) (mC : Meth K C "coming" fC) (GC : FnOk P w K mg base CX0 1 fC fdC ["self"] (spComing C)) (bC : Binds K fdC ["self"] []) :
    FnOk P w K mg base (L2.CX P w) 4 f fd ["self", "word"] (spWord C CF) := by
  refine F.okX scWord (fun vs H Q E h => ?_) (fun cdv A outer s H vs Q E hr h => ⟨_, pss_cons (ps_if (pt_cmpR op_ne (pe_meth0 (pv 0) T.cl mC GC (hr.mono (by decide)) bC .nil pass0) (pv 1) (nomark _))
      (pss_one (ps_raiseErr rfl R.cls R.ini R.ok (by decide) hr R.g (takes_of rfl rfl rfl rfl) (pa_cons (pe_fld (pv 0) rfl) pa_nil) (by rfl))) pss_nil)
    (pss_one (ps_fldaug (pv 0) pe_int in_add)), ?_⟩)
  · obtain ⟨a, l, ls, k, wd, rfl, _⟩ := h
    rfl
  · obtain ⟨a, l, ls, k, wd, rfl, hL, hk, kY, kN⟩ := h
    obtain ⟨⟨dx, h1⟩, h2⟩ := id hL
    refine ⟨_, rfl, a, dx, _, rfl, h1, lF_no l k (by decide +kernel) (by decide +kernel), a, l, ls, k, rfl, hL, hk, ?_⟩
    refine ⟨_, rfl, comV_scal ls k _, _, rfl, ?_⟩
    by_cases c : ls[k]? = some wd
    · have e : (!decide (comV ls k = V.str (ofN wd))) = false := by
        rw [decide_eq_true (comV_eq.mpr c)]
        rfl
      rw [e]
      refine iteF ?_
      refine ⟨_, rfl, a, C, dx, _, _, rfl, h1, T.cl, T.nA, lF_at l k, _, _, rfl, rfl, dx, _, h1, (by show 2 < 1000; decide), ?_⟩
      refine kY c _ (LinesAt.next (H := H) h1 h2) fun b o e hb => ?_
      rw [upd_ne hb]
      exact e
    · have e : (!decide (comV ls k = V.str (ofN wd))) = true := by
        rw [decide_eq_false (fun z => c (comV_eq.mp z))]
        rfl
      rw [e]
      refine iteT ?_
      exact ⟨_, rfl, a, C, dx, _, _, rfl, h1, T.cl, T.nA, lF_at l k, rfl, fun d hd => (kN c).now hd⟩
theorem scEnd : FnScope ["self"] ["self"] (defScope sEnd) := ⟨rfl, rfl, rfl, by decide +kernel, rfl, by decide +kernel, by decide +kernel⟩
theorem ok_end {f fC : Addr} {fd fdC : FuncData} (F : Fun K "take_end" "DrawingLines.take_end" sEnd f fd) (T : ClsL K C) (R : Err P w K mg CF fI) (mC : Meth K C "coming" fC) (GC : FnOk P w K mg base CX0 1 fC fdC ["self"] (spComing C)) (bC : Binds K fdC ["self"] []) :
    FnOk P w K mg base (L2.CX P w) 4 f fd ["self"] (spEnd C CF) := by
  refine F.okX scEnd (fun vs H Q E h => ?_) (fun cdv A outer s H vs Q E hr h => ⟨_, pss_one (ps_if (pt_cmp (pc_notN (pe_meth0 (pv 0) T.cl mC GC (hr.mono (by decide)) bC .nil pass0)) rfl)
      (pss_one (ps_raiseErr rfl R.cls R.ini R.ok (by decide) hr R.g (takes_of rfl rfl rfl rfl) (pa_cons (pe_fld (pv 0) rfl) pa_nil) (by rfl))) pss_nil), ?_⟩)
  · obtain ⟨a, l, ls, k, rfl, _⟩ := h
    rfl
  · obtain ⟨a, l, ls, k, rfl, hL, hk, kY, kN⟩ := h
    obtain ⟨⟨dx, h1⟩, h2⟩ := id hL
    refine ⟨_, rfl, a, dx, _, rfl, h1, lF_no l k (by decide +kernel) (by decide +kernel), a, l, ls, k, rfl, hL, hk, ?_⟩
    refine ⟨_, rfl, ?_⟩
    by_cases c : ls[k]? = none
    · rw [decide_eq_true (comV_none.mpr c)]
      refine iteF ?_
      exact kY c
    · rw [decide_eq_false (fun z => c (comV_none.mp z))]
      refine iteT ?_
      exact ⟨_, rfl, a, C, dx, _, _, rfl, h1, T.cl, T.nA, lF_at l k, rfl, fun d hd => (kN c).now hd⟩
theorem scTake : FnScope ["self", "shortest", "longest", "row"] ["self", "shortest", "longest"] (defScope sTake) := ⟨rfl, rfl, rfl, by decide +kernel, rfl, by decide +kernel, by decide +kernel⟩
theorem ok_take {f fC fR : Addr} {fd fdC fdR : FuncData} (F : Fun K "take_row" "DrawingLines.take_row" sTake f fd) (T : ClsL K C) (R : Err P w K mg CF fI) (mC : Meth K C "coming" fC) (GC : FnOk P w K mg base CX0 1 fC fdC ["self"] (spComing C)) (bC : Binds K fdC ["self"] [])
    (gR : mg "is_row" = some (.ref fR)) (kR : PySem.W.keepIn K (.ref fR) = true) (GR : FnOk P w K mg base CX0 1 fR fdR ["line"] spRow) (bR : Binds K fdR ["line"] []) (mlen : mg "len" = none) :
    FnOk P w K mg base (L2.CX P w) 4 f fd ["self", "shortest", "longest"] (spTake C CF) := by
  refine F.okX scTake (fun vs H Q E h => ?_) (fun cdv A outer s H vs Q E hr h => ⟨_, pss_cons (ps_set (i := 3) scTake.nd rfl (Or.inl rfl) (pe_meth0 (pv 0) T.cl mC GC (hr.mono (by decide)) bC .nil pass0))
    (pss_cons (ps_if (PW.pt (pw_or (pt_cmp (pc_isN (pv 3)) rfl) (pw_or (pt_not (pt_val (pe_call GR (hr.mono (by decide)) (by rfl) gR kR bR .nil pass0 (pa_cons (pv 3) pa_nil))))
        (pw_or1 (pt_not (pt_chain op_le op_le (pv 1) (pe_callB call_len_str (by rfl) mlen PySem.boot_len (pa_cons (pv 3) pa_nil)) (pv 2)))))))
      (pss_one (ps_raiseErr rfl R.cls R.ini R.ok (by decide) hr R.g (takes_of rfl rfl rfl rfl) (pa_cons (pe_fld (pv 0) rfl) pa_nil) (by rfl))) pss_nil)
    (pss_cons (ps_fldaug (pv 0) pe_int in_add) (pss_one (ps_ret (pv 3))))), ?_⟩)
  · obtain ⟨a, l, ls, k, lo, hi, rfl, _⟩ := h
    rfl
  · obtain ⟨a, l, ls, k, lo, hi, rfl, hL, hk, hz, kY, kN⟩ := h
    obtain ⟨⟨dx, h1⟩, h2⟩ := id hL
    refine ⟨_, rfl, a, dx, _, rfl, h1, lF_no l k (by decide +kernel) (by decide +kernel), a, l, ls, k, rfl, hL, hk, ?_⟩
    refine ⟨_, rfl, _, rfl, ?_⟩
    cases e : ls[k]? with
    | none =>
      have ev : comV ls k = .non := comV_none.mpr e
      have c : rowAt ls k lo hi = none := by
        unfold rowAt
        rw [e]
        rfl
      rw [decide_eq_true ev]
      refine iteT ?_
      refine (show (if true = true then _ else _) from iteT ?_)
      exact ⟨_, rfl, a, C, dx, _, _, rfl, h1, T.cl, T.nA, lF_at l k, rfl, fun d hd => (kN c).now hd⟩
    | some b =>
      have ev : comV ls k = .str (ofN b) := comV_eq.mpr e
      have hb : b.length ≤ 20000 := hz b (List.mem_of_getElem? e)
      have big : 20000 < sizeLine := by decide
      have hno : ¬ comV ls k = .non := by
        rw [ev]
        exact fun z => nomatch z
      have row : rowAt ls k lo hi = if b.all dot = true ∧ lo ≤ b.length ∧ b.length ≤ hi then some b else none := by
        unfold rowAt
        rw [e]
        rfl
      rw [decide_eq_false hno]
      refine iteF ?_
      refine ⟨_, rfl, b, ?_, by omega, fun H1 s1 => ⟨_, rfl, ?_⟩⟩
      · rw [ev]
        rfl
      cases hd : b.all dot with
      | false =>
        have c : rowAt ls k lo hi = none := by
          rw [row, if_neg]
          rintro ⟨z, _⟩
          rw [hd] at z
          cases z
        refine iteT ?_
        refine (show (if true = true then _ else _) from iteT ?_)
        exact ⟨_, rfl, a, C, dx, _, _, rfl, s1 _ _ h1, T.cl, T.nA, lF_at l k, rfl, fun d hd => ((kN c).same s1).now hd⟩
      | true =>
        refine iteF ?_
        refine ⟨_, rfl, _, rfl, ofN b, ?_, by rw [ofN_length]; omega, _, _, rfl, rfl, _, rfl, ?_⟩
        · rw [ev]
        rw [ofN_length]
        by_cases c1 : lo ≤ b.length
        · have d1 : decide ((lo : Int) ≤ (b.length : Int)) = true := decide_eq_true (by omega)
          rw [d1]
          refine iteT ?_
          refine ⟨_, rfl, _, _, rfl, rfl, _, rfl, ?_⟩
          by_cases c2 : b.length ≤ hi
          · have d2 : decide ((b.length : Int) ≤ (hi : Int)) = true := decide_eq_true (by omega)
            rw [d2]
            refine iteF ?_
            have c : rowAt ls k lo hi = some b := by rw [row, if_pos ⟨hd, c1, c2⟩]
            refine ⟨_, rfl, a, C, dx, _, _, rfl, s1 _ _ h1, T.cl, T.nA, lF_at l k, _, _, rfl, rfl, dx, _, s1 _ _ h1, (by show 2 < 1000; decide), ?_⟩
            refine ⟨_, rfl, ?_⟩
            rw [ev]
            refine kY b c _ (LinesAt.next (H := H1) (s1 _ _ h1) (s1 _ _ h2)) fun b o e hb => ?_
            rw [upd_ne hb]
            exact s1 _ _ e
          · have d2 : decide ((b.length : Int) ≤ (hi : Int)) = false := decide_eq_false (by omega)
            rw [d2]
            have c : rowAt ls k lo hi = none := by
              rw [row, if_neg]
              rintro ⟨_, _, z⟩
              exact c2 z
            refine iteT ?_
            exact ⟨_, rfl, a, C, dx, _, _, rfl, s1 _ _ h1, T.cl, T.nA, lF_at l k, rfl, fun d hd => ((kN c).same s1).now hd⟩
        · have d1 : decide ((lo : Int) ≤ (b.length : Int)) = false := decide_eq_false (by omega)
          rw [d1]
          have c : rowAt ls k lo hi = none := by
            rw [row, if_neg]
            rintro ⟨_, z, _⟩
            exact c1 z
          refine iteF ?_
          refine ⟨_, rfl, ?_⟩
          refine iteT ?_
          exact ⟨_, rfl, a, C, dx, _, _, rfl, s1 _ _ h1, T.cl, T.nA, lF_at l k, rfl, fun d hd => ((kN c).same s1).now hd⟩
end
end JM

namespace JM
open PySem PySem.Spec PyProof.Rows L2 PySem.ErrX
abbrev sRead : Stmt := top 10
theorem front_str : ("front" : Str) = ofN cFront := by decide +kernel
theorem right_str : ("right" : Str) = ofN cRight := by decide +kernel
theorem top_str : ("top" : Str) = ofN cTop := by decide +kernel
/-- the drawing g stands at p -/
def DrawAt (CG : Addr) (H : Hp) (p : Addr) (g : JoView.Drawing) : Prop := ∃ dx a b c, H p = some (.ins CG dx (gF (.ref a) (.ref b) (.ref c))) ∧
  H a = some (.lst (sV (g.front.map rowN))) ∧ H b = some (.lst (sV (g.right.map rowN))) ∧ H c = some (.lst (sV (g.top.map rowN)))
/-- read_drawing(data) -/
def spRead (K : PySem.W.Frag) (CF CG : Addr) : Sp := fun vs H Q E => ∃ (a : Addr) (ns : List Nat), vs = [.ref a] ∧ SqL K H a (nV ns) ∧ ns.length ≤ 16384 ∧
  (∀ k, readN ns = .error k → Fails CF E H k) ∧ (∀ g, readN ns = .ok g → ∀ H' p, Same H H' → DrawAt CG H' p g → Q (.ref p) H')
/-! ### what stands while it reads -/
structure At (C : Addr) (H0 H : Hp) (a l : Addr) (ls : List (List Nat)) (k : Nat) : Prop where
  same : Same H0 H
  lines : LinesAt C H a l ls k
  na : H0 a = none
  nl : H0 l = none
  le : k ≤ ls.length
structure Has (H0 H : Hp) (l f : Addr) (fr : List (List Nat)) : Prop where
  at_ : H f = some (.lst (sV fr))
  nf : H0 f = none
  ne : f ≠ l
section
variable {C : Addr} {H0 H H' : Hp} {a l f : Addr} {ls fr : List (List Nat)} {k : Nat}
theorem At.go (x : At C H0 H a l ls k) (hk : k < ls.length) (L : LinesAt C H' a l ls (k + 1)) (B : But a H H') : At C H0 H' a l ls (k + 1) :=
  ⟨fun b o e => B b o (x.same b o e) (ne_of_none e x.na), L, x.na, x.nl, hk⟩
theorem At.more (x : At C H0 H a l ls k) (s : Same H H') : At C H0 H' a l ls k := ⟨x.same.trans s, x.lines.same s, x.na, x.nl, x.le⟩
theorem Has.go (y : Has H0 H l f fr) (x : At C H0 H a l ls k) (B : But a H H') : Has H0 H' l f fr := by
  obtain ⟨⟨dx, h1⟩, h2⟩ := x.lines
  exact ⟨B _ _ y.at_ (ne_of y.at_ h1 (fun z => nomatch z)), y.nf, y.ne⟩
theorem Has.more (y : Has H0 H l f fr) (s : Same H H') : Has H0 H' l f fr := ⟨s _ _ y.at_, y.nf, y.ne⟩
theorem upd_more {o : HO} (hf : H f = none) : Same H (upd H f o) := fun b o e => by
  rw [upd_ne (ne_of_none e hf)]
  exact e
theorem Has.new (x : At C H0 H a l ls k) (hf : H f = none) : Has H0 (upd H f (.lst (sV fr))) l f fr := by
  refine ⟨upd_same, x.same.free hf, ?_⟩
  obtain ⟨_, h2⟩ := x.lines
  exact fun z => by rw [z, h2] at hf; cases hf
/-- f.append(b) -/
theorem At.put {o : HO} (x : At C H0 H a l ls k) (y : Has H0 H l f fr) : At C H0 (upd H f o) a l ls k := by
  obtain ⟨⟨dx, h1⟩, h2⟩ := x.lines
  refine ⟨fun b o e => ?_, ⟨⟨dx, ?_⟩, ?_⟩, x.na, x.nl, x.le⟩
  · rw [upd_ne (ne_of_none e y.nf)]
    exact x.same b o e
  · rw [upd_ne (ne_of h1 y.at_ (fun z => nomatch z))]
    exact h1
  · rw [upd_ne (Ne.symm y.ne)]
    exact h2
theorem Has.put {b : List Nat} (y : Has H0 H l f fr) : Has H0 (upd H f (.lst (sV fr ++ [.str (ofN b)]))) l f (fr ++ [b]) := ⟨by rw [upd_same]; simp, y.nf, y.ne⟩
theorem Has.other {o : HO} {g : Addr} (y : Has H0 H l f fr) (h : f ≠ g) : Has H0 (upd H g o) l f fr := ⟨by rw [upd_ne h]; exact y.at_, y.nf, y.ne⟩
end
/-! ### the rows so far -/
/-- rows as the specification holds them: the last first -/
abbrev rev (fr : List (List Nat)) : List (List Bool) := (fr.map darksN).reverse
theorem rev_snoc (fr : List (List Nat)) (b : List Nat) : rev (fr ++ [b]) = darksN b :: rev fr := by simp
theorem rev_length (fr : List (List Nat)) : (rev fr).length = fr.length := by simp
theorem sV_rev (l : List (List Nat)) : (sV l).reverse = sV l.reverse := by simp [sV]
theorem rev_rows {fr : List (List Nat)} (h : ∀ r ∈ fr, r.all dot = true) : (rev fr).map rowN = fr.reverse := by
  rw [List.map_reverse, List.map_map]
  congr 1
  have e : ∀ r ∈ fr, (rowN ∘ darksN) r = r := fun r hr => rowN_darks (h r hr)
  rw [List.map_congr_left e]
  simp
theorem rowAt_lt {ls : List (List Nat)} {k lo hi : Nat} {b : List Nat} (h : rowAt ls k lo hi = some b) : k < ls.length := by
  have := (rowAt_some h).1
  exact (List.getElem?_eq_some_iff.mp this).1
theorem word_lt {ls : List (List Nat)} {k : Nat} {b : List Nat} (h : ls[k]? = some b) : k < ls.length := (List.getElem?_eq_some_iff.mp h).1
/-- rows of one length w -/
structure Rows (fr : List (List Nat)) (w : Nat) : Prop where
  dots : ∀ r ∈ fr, r.all dot = true
  long : Long w (rev fr)
  few : fr.length ≤ 16
  lo : 1 ≤ w
  hi : w ≤ 16
theorem Rows.one {ls : List (List Nat)} {k : Nat} {b : List Nat} (h : rowAt ls k 1 16 = some b) : Rows [b] b.length := by
  obtain ⟨h1, h2, h3, h4⟩ := rowAt_some h
  refine ⟨fun r hr => ?_, ?_, by simp, h3, h4⟩
  · rw [List.mem_singleton.mp hr]
    exact h2
  · exact long_darks _ rfl
theorem Rows.add {ls fr : List (List Nat)} {k w : Nat} {b : List Nat} (R : Rows fr w) (hl : fr.length < 16) (h : rowAt ls k w w = some b) : Rows (fr ++ [b]) w := by
  obtain ⟨h1, h2, h3, h4⟩ := rowAt_some h
  refine ⟨fun r hr => ?_, ?_, by simp; omega, R.lo, R.hi⟩
  · rcases List.mem_append.mp hr with hr | hr
    · exact R.dots r hr
    · rw [List.mem_singleton.mp hr]
      exact h2
  · rw [rev_snoc]
    exact long_darks _ (by omega)
theorem cut10_short : ∀ (xs : List Nat), ∀ l ∈ cut10 xs, l.length ≤ xs.length
  | [], l, h => by
    rw [List.mem_singleton.mp h]
    exact Nat.le_refl _
  | c :: r, l, h => by
    have ih := cut10_short r
    unfold cut10 at h
    split at h
    · rcases List.mem_cons.mp h with rfl | h
      · exact Nat.zero_le _
      · exact Nat.le_succ_of_le (ih l h)
    · split at h
      · rw [List.mem_singleton.mp h]
        simp
      · rename_i a m e
        rw [e] at ih
        rcases List.mem_cons.mp h with rfl | h
        · have := ih a (List.mem_cons_self ..)
          simp only [List.length_cons]
          omega
        · have := ih l (List.mem_cons_of_mem _ h)
          simp only [List.length_cons]
          omega
theorem plines_short (xs : List Nat) : ∀ l ∈ plines xs, l.length ≤ xs.length + 1 := by
  intro l h
  unfold plines at h
  split at h
  · have := cut10_short xs l ((List.dropLast_sublist _).subset h)
    omega
  · rcases List.mem_append.mp h with h | h
    · have := cut10_short xs l ((List.dropLast_sublist _).subset h)
      omega
    · rw [List.mem_singleton.mp h]
      simp
/-- a while, what stands behind it told apart -/
theorem while_two {c : TT} {tb : TS} {D : Ends} {σ : L2.St} {H : Hp} (W : Nat → L2.St → Hp → Prop) (X : L2.St → Hp → Prop) (h0 : ∃ m, W m σ H) (exit : ∀ σ H, X σ H → D.nx σ H)
    (turn : (∀ σ H, X σ H → D.nx σ H) → ∀ m σ H, W m σ H → c σ H fun b H1 => if b = true then ∃ N : L2.St → Hp → Prop, (∀ σ' H', N σ' H' → ∃ m', m' < m ∧ W m' σ' H') ∧ tb { D with nx := N, ct := N, bk := D.nx } σ H1 else D.nx σ H1) : tWhile c tb D σ H :=
  ⟨W, h0, turn exit⟩
section
variable {P : Program} {w : World} {K : PySem.W.Frag} {mg : Str → Option Value} {base : Heap} {C CF CG fI : Addr}
theorem scRead : FnScope ["data", "lines", "front", "w", "right", "d", "top"] ["data"] (defScope sRead) := ⟨rfl, rfl, rfl, by decide +kernel, rfl, by decide +kernel, by decide +kernel⟩
theorem ok_read {f fLO fL fC fW fR fE fG fT : Addr} {fd fdLO fdL fdC fdW fdR fdE fdG fdT : FuncData} {tM : Tok} (F : Fun K "read_drawing" "read_drawing" sRead f fd) (T : ClsL K C) (TG : ClsG K CG)
    (mM : mg "MOST_SIZE" = some (.int 16 tM)) (mlen : mg "len" = none)
    (gLO : mg "lines_of" = some (.ref fLO)) (kLO : PySem.W.keepIn K (.ref fLO) = true) (GLO : FnOk P w K mg base CX0 1 fLO fdLO ["data"] (spLines K)) (bLO : Binds K fdLO ["data"] [])
    (gL : mg "DrawingLines" = some (.ref C)) (ML : Mk K C fL) (GL : FnOk P w K mg base CX0 1 fL fdL ["self", "lines"] (spInitL C)) (bL : Binds K fdL ["self", "lines"] [])
    (mC : Meth K C "coming" fC) (GC : FnOk P w K mg base CX0 1 fC fdC ["self"] (spComing C)) (bC : Binds K fdC ["self"] [])
    (mW : Meth K C "take_word" fW) (GW : FnOk P w K mg base (L2.CX P w) 4 fW fdW ["self", "word"] (spWord C CF)) (bW : Binds K fdW ["self", "word"] [])
    (mR : Meth K C "take_row" fR) (GR : FnOk P w K mg base (L2.CX P w) 4 fR fdR ["self", "shortest", "longest"] (spTake C CF)) (bR : Binds K fdR ["self", "shortest", "longest"] [])
    (mE : Meth K C "take_end" fE) (GE : FnOk P w K mg base (L2.CX P w) 4 fE fdE ["self"] (spEnd C CF)) (bE : Binds K fdE ["self"] [])
    (gG : mg "Drawing" = some (.ref CG)) (MG : Mk K CG fG) (GG : FnOk P w K mg base CX0 1 fG fdG ["self", "front", "right", "top"] (spInitG CG)) (bG : Binds K fdG ["self", "front", "right", "top"] [])
    (gT : mg "turned" = some (.ref fT)) (kT : PySem.W.keepIn K (.ref fT) = true) (GT : FnOk P w K mg base CX0 1 fT fdT ["rows"] (spTurned K)) (bT : Binds K fdT ["rows"] []) :
    FnOk P w K mg base (L2.CX P w) 6 f fd ["data"] (spRead K CF CG) := by
  refine F.okX scRead (fun vs H Q E h => ?_) (fun cdv A outer s H vs Q E hr h => ?_)
  · obtain ⟨a, ns, rfl, _⟩ := h
    rfl
  have hr1 : Room 1 _ := hr.mono (by decide)
  have hr4 : Room 4 _ := hr.mono (by decide)
  have px : Passes (L2.CX P w) (cxOf (L2.CX P w) P w K mg base ["data", "lines", "front", "w", "right", "d", "top"] "read_drawing" (defScope sRead) f cdv A outer s H E) E := passes_call (takes_of rfl rfl rfl rfl) (fun _ _ _ _ h => h)
  refine ⟨_, pss_cons (ps_set (i := 1) scRead.nd rfl (Or.inl rfl) (pe_make ML GL (hr.mono (by decide)) (by rfl) gL bL .nil pass0 (pa_cons (pe_call GLO hr1 (by rfl) gLO kLO bLO .nil pass0 (pa_cons (pv 0) pa_nil)) pa_nil)))
    (pss_cons (ps_expr (pe_meth (pv 1) T.cl mW GW hr4 bW .nil px (pa_cons pe_str pa_nil)))
    (pss_cons (ps_set (i := 2) scRead.nd rfl (Or.inl rfl) (pe_lst (pa_cons (pe_meth (pv 1) T.cl mR GR hr4 bR .nil px (pa_cons pe_int (pa_cons (pe_glob (by rfl) mM relI) pa_nil))) pa_nil)))
    (pss_cons (ps_set (i := 3) scRead.nd rfl (Or.inl rfl) (pe_callB call_len_str (by rfl) mlen PySem.boot_len (pa_cons (pe_ix ix_list (pv 2) pe_int (fun _ _ => rfl)) pa_nil)))
    (pss_cons (ps_while (passes_of rfl) (PW.pt (pw_and (pt_cmpR op_lt (pe_callB call_len_seq (by rfl) mlen PySem.boot_len (pa_cons (pv 2) pa_nil)) (pe_glob (by rfl) mM relI) (nomark _))
          (pw_and1 (pt_cmpR op_ne (pe_meth0 (pv 1) T.cl mC GC hr1 bC .nil pass0) pe_str (nomark _)))))
        (pss_one (ps_expr (pe_bm PySem.F.plainAttrs_list PySem.F.slot_list_append PySem.F.type_list_append mt_append (pv 2) (pa_cons (pe_meth (pv 1) T.cl mR GR hr4 bR .nil px (pa_cons (pv 3) (pa_cons (pv 3) pa_nil))) pa_nil)))))
    (pss_cons (ps_expr (pe_meth (pv 1) T.cl mW GW hr4 bW .nil px (pa_cons pe_str pa_nil)))
    (pss_cons (ps_set (i := 4) scRead.nd rfl (Or.inl rfl) (pe_lst (pa_cons (pe_meth (pv 1) T.cl mR GR hr4 bR .nil px (pa_cons pe_int (pa_cons (pe_glob (by rfl) mM relI) pa_nil))) pa_nil)))
    (pss_cons (ps_set (i := 5) scRead.nd rfl (Or.inl rfl) (pe_callB call_len_str (by rfl) mlen PySem.boot_len (pa_cons (pe_ix ix_list (pv 4) pe_int (fun _ _ => rfl)) pa_nil)))
    (pss_cons (ps_while (passes_of rfl) (pt_cmpR op_lt (pe_callB call_len_seq (by rfl) mlen PySem.boot_len (pa_cons (pv 4) pa_nil)) (pe_callB call_len_seq (by rfl) mlen PySem.boot_len (pa_cons (pv 2) pa_nil)) (nomark _))
        (pss_one (ps_expr (pe_bm PySem.F.plainAttrs_list PySem.F.slot_list_append PySem.F.type_list_append mt_append (pv 4) (pa_cons (pe_meth (pv 1) T.cl mR GR hr4 bR .nil px (pa_cons (pv 5) (pa_cons (pv 5) pa_nil))) pa_nil)))))
    (pss_cons (ps_expr (pe_meth (pv 1) T.cl mW GW hr4 bW .nil px (pa_cons pe_str pa_nil)))
    (pss_cons (ps_set (i := 6) scRead.nd rfl (Or.inl rfl) (pe_lst pa_nil))
    (pss_cons (ps_while (passes_of rfl) (pt_cmpR op_lt (pe_callB call_len_seq (by rfl) mlen PySem.boot_len (pa_cons (pv 6) pa_nil)) (pv 5) (nomark _))
        (pss_one (ps_expr (pe_bm PySem.F.plainAttrs_list PySem.F.slot_list_append PySem.F.type_list_append mt_append (pv 6) (pa_cons (pe_meth (pv 1) T.cl mR GR hr4 bR .nil px (pa_cons (pv 3) (pa_cons (pv 3) pa_nil))) pa_nil)))))
    (pss_cons (ps_expr (pe_meth0 (pv 1) T.cl mE GE hr4 bE .nil px))
    (pss_one (ps_ret (pe_make MG GG (hr.mono (by decide)) (by rfl) gG bG .nil pass0 (pa_cons (pe_call GT hr1 (by rfl) gT kT bT .nil pass0 (pa_cons (pv 2) pa_nil)) (pa_cons (pe_call GT hr1 (by rfl) gT kT bT .nil pass0 (pa_cons (pv 4) pa_nil)) (pa_cons (pe_call GT hr1 (by rfl) gT kT bT .nil pass0 (pa_cons (pv 6) pa_nil)) pa_nil)))))))))))))))))), ?_⟩
  obtain ⟨a, ns, rfl, hq, hlen, kE, kQ⟩ := h
  -- lines = DrawingLines(lines_of(data))
  refine ⟨_, rfl, a, ns, rfl, hq, by omega, fun H1 l s1 nl hl x dx nx nd ne => ⟨x, dx, l, rfl, upd_same, fun H2 h2 b2 => ⟨rfl, ?_⟩⟩⟩
  obtain ⟨ls, hls⟩ : ∃ ls, ls = plines (ns.map sgn) := ⟨_, rfl⟩
  have hS0 : readN ns = S ls 0 0 [] [] [] := by
    rw [hls]
    rfl
  generalize readN ns = RR at hS0 kE kQ
  have hz : ∀ r ∈ ls, r.length ≤ 20000 := fun r hr => by
    rw [hls] at hr
    have := plines_short _ r hr
    rw [List.length_map] at this
    omega
  have hmany : ls.length ≤ 20000 := by
    have h1 := plines_length (ns.map sgn)
    rw [← hls, List.length_map] at h1
    omega
  rw [← hls] at hl
  have n0x : H x = none := s1.free nx
  have A0 : At C H H2 x l ls 0 := by
    have hlx : l ≠ x := ne_of_none hl nx
    refine ⟨fun b o e => b2 b o ?_ (ne_of_none e n0x), ⟨⟨dx, h2⟩, b2 l _ ?_ hlx⟩, n0x, nl, Nat.zero_le _⟩
    · rw [upd_ne (ne_of_none (s1 b o e) nx), upd_ne (ne_of_none (s1 b o e) nd)]
      exact s1 b o e
    · rw [upd_ne hlx, upd_ne (ne_of_none hl nd)]
      exact hl
  clear h2 b2 hl s1
  -- lines.take_word('front')
  obtain ⟨⟨dx1, h1⟩, _⟩ := id A0.lines
  refine ⟨_, rfl, x, dx1, _, rfl, h1, lF_no _ _ (by decide +kernel) (by decide +kernel), x, l, ls, 0, cFront, congrArg (fun z => [V.ref x, V.str z]) front_str, A0.lines, A0.le, fun c H3 L3 B3 => ?_, fun c => (kE 0 (hS0.trans (s_nofront c))).same A0.same⟩
  have A1 := A0.go (word_lt c) L3 B3
  have hS1 := hS0.trans (s_front c)
  clear A0 h1 L3 B3 c
  -- front = [lines.take_row(1, MOST_SIZE)]
  obtain ⟨⟨dx2, h1⟩, _⟩ := id A1.lines
  refine ⟨_, rfl, x, dx2, _, rfl, h1, lF_no _ _ (by decide +kernel) (by decide +kernel), x, l, ls, 1, 1, 16, rfl, A1.lines, A1.le, hz, fun b c H4 L4 B4 => ⟨by show 1 ≤ sizeLine; decide, fun fa hfa => ?_⟩, fun c => (kE _ (hS1.trans (s_f1no c))).same A1.same⟩
  have A2' := A1.go (rowAt_lt c) L4 B4
  have F2 : Has H (upd H4 fa (.lst (sV [b]))) l fa [b] := Has.new A2' hfa
  have A2 := A2'.more (upd_more (o := .lst (sV [b])) hfa)
  have R2 := Rows.one c
  have hS2 := hS1.trans (s_f1 c)
  clear A1 h1 L4 B4 A2'
  -- w = len(front[0])
  refine ⟨_, rfl, fa, _, 0, V.str (ofN b), rfl, rfl, SqL.of F2.at_, atI_nat (j := 0) rfl, ofN b, rfl, ?_, ?_⟩
  · rw [ofN_length]
    exact Nat.le_trans R2.hi (by decide)
  rw [ofN_length]
  obtain ⟨wn, hwn⟩ : ∃ wn, wn = b.length := ⟨_, rfl⟩
  rw [← hwn] at R2 ⊢
  -- while len(front) < MOST_SIZE and lines.coming() != 'right'
  refine while_two (fun m σ' H' => ∃ k fr, σ' = [some (.ref a), some (.ref x), some (.ref fa), some (.int wn), none, none, none] ∧ m = 16 - fr.length ∧ At C H H' x l ls k ∧ Has H H' l fa fr ∧ Rows fr wn ∧ RR = S ls k 1 (rev fr) [] [])
    (fun σ' H' => ∃ k fr, σ' = [some (.ref a), some (.ref x), some (.ref fa), some (.int wn), none, none, none] ∧ At C H H' x l ls k ∧ Has H H' l fa fr ∧ Rows fr wn ∧ RR = S ls k 1 (rev fr) [] [] ∧ (ls[k]? = some cRight ∨ 16 ≤ fr.length))
    ⟨_, 2, [b], rfl, rfl, A2, F2, R2, hS2⟩ ?_ (fun exit => ?_)
  rotate_left
  · rintro m σ' H' ⟨k, fr, rfl, rfl, A3, F3, R3, hS3⟩
    obtain ⟨⟨dx3, h1⟩, _⟩ := id A3.lines
    refine ⟨_, rfl, fa, _, rfl, .inl (SqL.of F3.at_), _, _, rfl, rfl, _, rfl, ?_⟩
    rw [List.length_map]
    by_cases c16 : fr.length < 16
    · have d1 : decide ((fr.length : Int) < 16) = true := decide_eq_true (by omega)
      rw [d1]
      refine iteT ?_
      refine ⟨_, rfl, x, dx3, _, rfl, h1, lF_no _ _ (by decide +kernel) (by decide +kernel), x, l, ls, k, rfl, A3.lines, A3.le, comV_scal _ _ _, _, rfl, ?_⟩
      rw [right_str]
      by_cases cr : ls[k]? = some cRight
      · rw [decide_eq_true (comV_eq.mpr cr)]
        refine iteF ?_
        exact exit _ _ ⟨k, fr, rfl, A3, F3, R3, hS3, .inl cr⟩
      · rw [decide_eq_false (fun z => cr (comV_eq.mp z))]
        refine iteT ?_
        refine ⟨fun σ' H2 => ∃ m', m' < 16 - fr.length ∧ ∃ k fr, σ' = [some (.ref a), some (.ref x), some (.ref fa), some (.int wn), none, none, none] ∧ m' = 16 - fr.length ∧ At C H H2 x l ls k ∧ Has H H2 l fa fr ∧ Rows fr wn ∧ RR = S ls k 1 (rev fr) [] [], fun _ _ h => h, ?_⟩
        refine ⟨_, rfl, .inl ⟨rfl, _, SqL.of F3.at_⟩, _, rfl, x, dx3, _, rfl, h1, lF_no _ _ (by decide +kernel) (by decide +kernel), ?_⟩
        refine ⟨_, rfl, _, rfl, x, l, ls, k, wn, wn, rfl, A3.lines, A3.le, hz, fun b c H4 L4 B4 => ?_, fun c => (kE _ (hS3.trans (s_fnno ⟨R3.lo, R3.hi⟩ R3.long cr c))).same A3.same⟩
        have A4 := A3.go (rowAt_lt c) L4 B4
        have F4 := F3.go A3 B4
        refine ⟨fa, _, _, rfl, rfl, F4.at_, ?_, ?_⟩
        · rw [List.length_map]
          exact Nat.lt_of_lt_of_le c16 (by decide)
        · refine ⟨16 - (fr ++ [b]).length, ?_, k + 1, fr ++ [b], rfl, rfl, A4.put F4, F4.put, R3.add c16 c, ?_⟩
          · rw [List.length_append, List.length_singleton]
            omega
          · rw [rev_snoc]
            exact hS3.trans (s_fn ⟨R3.lo, R3.hi⟩ R3.long (by rw [rev_length]; exact c16) cr c)
    · have d1 : decide ((fr.length : Int) < 16) = false := decide_eq_false (by omega)
      rw [d1]
      refine iteF ?_
      refine iteF ?_
      exact exit _ _ ⟨k, fr, rfl, A3, F3, R3, hS3, .inr (by omega)⟩
  clear A2 F2 R2 hS2 c hwn
  rintro σ' H5 ⟨k, fr, rfl, A3, F3, R3, hS3, cx⟩
  -- lines.take_word('right')
  obtain ⟨⟨dx3, h1⟩, _⟩ := id A3.lines
  refine ⟨_, rfl, x, dx3, _, rfl, h1, lF_no _ _ (by decide +kernel) (by decide +kernel), x, l, ls, k, cRight, congrArg (fun z => [V.ref x, V.str z]) right_str, A3.lines, A3.le, fun c H6 L6 B6 => ?_, fun c => (kE k (hS3.trans (s_noright ?_ c))).same A3.same⟩
  rotate_left
  · rcases cx with cx | cx
    · exact absurd cx c
    · rw [rev_length]
      exact cx
  have A6 := A3.go (word_lt c) L6 B6
  have F6 := F3.go A3 B6
  have hS6 := hS3.trans (s_right (Long.ne R3.long) c)
  clear A3 h1 L6 B6 F3 cx c
  -- right = [lines.take_row(1, MOST_SIZE)]
  obtain ⟨⟨dx6, h1⟩, _⟩ := id A6.lines
  refine ⟨_, rfl, x, dx6, _, rfl, h1, lF_no _ _ (by decide +kernel) (by decide +kernel), x, l, ls, k + 1, 1, 16, rfl, A6.lines, A6.le, hz, fun b2 c H7 L7 B7 => ⟨by show 1 ≤ sizeLine; decide, fun ra hra => ?_⟩, fun c => (kE _ (hS6.trans (s_r1no c))).same A6.same⟩
  have A7' := A6.go (rowAt_lt c) L7 B7
  have F7' := F6.go A6 B7
  have hfr : fa ≠ ra := ne_of_none F7'.at_ hra
  have G7 : Has H (upd H7 ra (.lst (sV [b2]))) l ra [b2] := Has.new A7' hra
  have F7 := F7'.more (upd_more (o := .lst (sV [b2])) hra)
  have A7 := A7'.more (upd_more (o := .lst (sV [b2])) hra)
  have Q7 := Rows.one c
  have hS7 := hS6.trans (s_r1 c)
  clear A6 h1 L7 B7 A7' F7' F6
  -- d = len(right[0])
  refine ⟨_, rfl, ra, _, 0, V.str (ofN b2), rfl, rfl, SqL.of G7.at_, atI_nat (j := 0) rfl, ofN b2, rfl, ?_, ?_⟩
  · rw [ofN_length]
    exact Nat.le_trans Q7.hi (by decide)
  rw [ofN_length]
  obtain ⟨dn, hdn⟩ : ∃ dn, dn = b2.length := ⟨_, rfl⟩
  rw [← hdn] at Q7 ⊢
  have few1 : 1 ≤ fr.length := by
    have := Long.ne R3.long
    rw [← rev_length]
    exact List.length_pos_iff.mpr this
  -- while len(right) < len(front)
  refine while_two (fun m σ' H' => ∃ k rr, σ' = [some (.ref a), some (.ref x), some (.ref fa), some (.int wn), some (.ref ra), some (.int dn), none] ∧ m = 16 - rr.length ∧ At C H H' x l ls k ∧ Has H H' l fa fr ∧ Has H H' l ra rr ∧ Rows rr dn ∧ rr.length ≤ fr.length ∧
      RR = S ls k (if rr.length = fr.length then 3 else 2) (rev fr) (rev rr) [])
    (fun σ' H' => ∃ k rr, σ' = [some (.ref a), some (.ref x), some (.ref fa), some (.int wn), some (.ref ra), some (.int dn), none] ∧ At C H H' x l ls k ∧ Has H H' l fa fr ∧ Has H H' l ra rr ∧ Rows rr dn ∧ rr.length = fr.length ∧ RR = S ls k 3 (rev fr) (rev rr) [])
    ⟨_, k + 1 + 1, [b2], rfl, rfl, A7, F7, G7, Q7, few1, ?_⟩ ?_ (fun exit => ?_)
  rotate_left 2
  · rintro m σ' H' ⟨k, rr, rfl, rfl, A8, F8, G8, Q8, le8, hS8⟩
    obtain ⟨⟨dx8, h1⟩, _⟩ := id A8.lines
    refine ⟨_, rfl, ra, _, rfl, .inl (SqL.of G8.at_), _, rfl, fa, _, rfl, .inl (SqL.of F8.at_), _, _, rfl, rfl, _, rfl, ?_⟩
    rw [List.length_map, List.length_map]
    by_cases c8 : rr.length = fr.length
    · have d1 : decide ((rr.length : Int) < (fr.length : Int)) = false := decide_eq_false (by omega)
      rw [d1]
      refine iteF ?_
      rw [if_pos c8] at hS8
      exact exit _ _ ⟨k, rr, rfl, A8, F8, G8, Q8, c8, hS8⟩
    · have d1 : decide ((rr.length : Int) < (fr.length : Int)) = true := decide_eq_true (by omega)
      rw [d1]
      refine iteT ?_
      rw [if_neg c8] at hS8
      have few := R3.few
      refine ⟨fun σ' H2 => ∃ m', m' < 16 - rr.length ∧ ∃ k rr, σ' = [some (.ref a), some (.ref x), some (.ref fa), some (.int wn), some (.ref ra), some (.int dn), none] ∧ m' = 16 - rr.length ∧ At C H H2 x l ls k ∧ Has H H2 l fa fr ∧ Has H H2 l ra rr ∧ Rows rr dn ∧ rr.length ≤ fr.length ∧
          RR = S ls k (if rr.length = fr.length then 3 else 2) (rev fr) (rev rr) [], fun _ _ h => h, ?_⟩
      refine ⟨_, rfl, .inl ⟨rfl, _, SqL.of G8.at_⟩, _, rfl, x, dx8, _, rfl, h1, lF_no _ _ (by decide +kernel) (by decide +kernel), ?_⟩
      refine ⟨_, rfl, _, rfl, x, l, ls, k, dn, dn, rfl, A8.lines, A8.le, hz, fun b c H9 L9 B9 => ?_, fun c => (kE _ (hS8.trans (s_rnno ⟨Q8.lo, Q8.hi⟩ Q8.long c))).same A8.same⟩
      have A9 := A8.go (rowAt_lt c) L9 B9
      have F9 := F8.go A8 B9
      have G9 := G8.go A8 B9
      refine ⟨ra, _, _, rfl, rfl, G9.at_, ?_, ?_⟩
      · rw [List.length_map]
        exact Nat.lt_of_lt_of_le (by omega : _ < 16) (by decide)
      · refine ⟨16 - (rr ++ [b]).length, ?_, k + 1, rr ++ [b], rfl, rfl, A9.put G9, F9.other hfr, G9.put, Q8.add (by omega) c, ?_, ?_⟩
        · rw [List.length_append, List.length_singleton]
          omega
        · rw [List.length_append, List.length_singleton]
          omega
        · rw [rev_snoc, List.length_append, List.length_singleton]
          have := hS8.trans (s_rn ⟨Q8.lo, Q8.hi⟩ Q8.long c)
          rw [rev_length, rev_length] at this
          exact this
  · have e : (List.length [b2] = fr.length) = (0 + 1 = (rev fr).length) := by
      rw [rev_length]
      rfl
    simp only [e]
    exact hS7
  clear A7 F7 G7 hS7 c Q7
  rintro σ' H8 ⟨k, rr, rfl, A8, F8, G8, Q8, le8, hS8⟩
  -- lines.take_word('top')
  obtain ⟨⟨dx8, h1⟩, _⟩ := id A8.lines
  refine ⟨_, rfl, x, dx8, _, rfl, h1, lF_no _ _ (by decide +kernel) (by decide +kernel), x, l, ls, k, cTop, congrArg (fun z => [V.ref x, V.str z]) top_str, A8.lines, A8.le, fun c H9 L9 B9 => ?_, fun c => (kE k (hS8.trans (s_notop c))).same A8.same⟩
  have A9' := A8.go (word_lt c) L9 B9
  have F9' := F8.go A8 B9
  have G9' := G8.go A8 B9
  have hS9 := hS8.trans (s_top c)
  clear A8 h1 L9 B9 F8 G8 c
  -- top = []
  refine ⟨by show 0 ≤ sizeLine; decide, fun ta hta => ?_⟩
  have hft : fa ≠ ta := ne_of_none F9'.at_ hta
  have hrt : ra ≠ ta := ne_of_none G9'.at_ hta
  have T9 : Has H (upd H9 ta (.lst (sV []))) l ta [] := Has.new A9' hta
  have F9 := F9'.more (upd_more (o := .lst (sV [])) hta)
  have G9 := G9'.more (upd_more (o := .lst (sV [])) hta)
  have A9 := A9'.more (upd_more (o := .lst (sV [])) hta)
  clear A9' F9' G9'
  have headw : ((rev fr).headD []).length = wn := by
    have h := R3.long
    cases e : rev fr with
    | nil => rw [e] at h; exact absurd h id
    | cons y r =>
      rw [e] at h
      exact h
  have headd : ((rev rr).headD []).length = dn := by
    have h := Q8.long
    cases e : rev rr with
    | nil => rw [e] at h; exact absurd h id
    | cons y r =>
      rw [e] at h
      exact h
  have dlo := Q8.lo
  have dhi := Q8.hi
  -- while len(top) < d
  refine while_two (fun m σ' H' => ∃ k tt, σ' = [some (.ref a), some (.ref x), some (.ref fa), some (.int wn), some (.ref ra), some (.int dn), some (.ref ta)] ∧ m = 16 - tt.length ∧ At C H H' x l ls k ∧ Has H H' l fa fr ∧ Has H H' l ra rr ∧ Has H H' l ta tt ∧ (∀ r ∈ tt, r.all dot = true) ∧ tt.length ≤ dn ∧
      RR = S ls k (if tt.length = dn then 5 else 4) (rev fr) (rev rr) (rev tt))
    (fun σ' H' => ∃ k tt, σ' = [some (.ref a), some (.ref x), some (.ref fa), some (.int wn), some (.ref ra), some (.int dn), some (.ref ta)] ∧ At C H H' x l ls k ∧ Has H H' l fa fr ∧ Has H H' l ra rr ∧ Has H H' l ta tt ∧ (∀ r ∈ tt, r.all dot = true) ∧ RR = S ls k 5 (rev fr) (rev rr) (rev tt))
    ⟨_, k + 1, [], rfl, rfl, A9, F9, G9, T9, fun r hr => (nomatch hr), Nat.zero_le _, ?_⟩ ?_ (fun exit => ?_)
  rotate_left 2
  · rintro m σ' H' ⟨k, tt, rfl, rfl, A10, F10, G10, T10, Q10, le10, hS10⟩
    obtain ⟨⟨dx10, h1⟩, _⟩ := id A10.lines
    refine ⟨_, rfl, ta, _, rfl, .inl (SqL.of T10.at_), _, rfl, _, _, rfl, rfl, _, rfl, ?_⟩
    rw [List.length_map]
    by_cases c10 : tt.length = dn
    · have d1 : decide ((tt.length : Int) < (dn : Int)) = false := decide_eq_false (by omega)
      rw [d1]
      refine iteF ?_
      rw [if_pos c10] at hS10
      exact exit _ _ ⟨k, tt, rfl, A10, F10, G10, T10, Q10, hS10⟩
    · have d1 : decide ((tt.length : Int) < (dn : Int)) = true := decide_eq_true (by omega)
      rw [d1]
      refine iteT ?_
      rw [if_neg c10] at hS10
      refine ⟨fun σ' H2 => ∃ m', m' < 16 - tt.length ∧ ∃ k tt, σ' = [some (.ref a), some (.ref x), some (.ref fa), some (.int wn), some (.ref ra), some (.int dn), some (.ref ta)] ∧ m' = 16 - tt.length ∧ At C H H2 x l ls k ∧ Has H H2 l fa fr ∧ Has H H2 l ra rr ∧ Has H H2 l ta tt ∧ (∀ r ∈ tt, r.all dot = true) ∧ tt.length ≤ dn ∧
          RR = S ls k (if tt.length = dn then 5 else 4) (rev fr) (rev rr) (rev tt), fun _ _ h => h, ?_⟩
      refine ⟨_, rfl, .inl ⟨rfl, _, SqL.of T10.at_⟩, _, rfl, x, dx10, _, rfl, h1, lF_no _ _ (by decide +kernel) (by decide +kernel), ?_⟩
      refine ⟨_, rfl, _, rfl, x, l, ls, k, wn, wn, rfl, A10.lines, A10.le, hz, fun b c H11 L11 B11 => ?_, fun c => (kE _ (hS10.trans (s_tno ⟨R3.lo, R3.hi⟩ headw c))).same A10.same⟩
      have A11 := A10.go (rowAt_lt c) L11 B11
      have F11 := F10.go A10 B11
      have G11 := G10.go A10 B11
      have T11 := T10.go A10 B11
      refine ⟨ta, _, _, rfl, rfl, T11.at_, ?_, ?_⟩
      · rw [List.length_map]
        exact Nat.lt_of_lt_of_le (by omega : _ < 16) (by decide)
      · refine ⟨16 - (tt ++ [b]).length, ?_, k + 1, tt ++ [b], rfl, rfl, A11.put T11, F11.other hft, G11.other hrt, T11.put, fun r hr => ?_, ?_, ?_⟩
        · rw [List.length_append, List.length_singleton]
          omega
        · rcases List.mem_append.mp hr with hr | hr
          · exact Q10 r hr
          · rw [List.mem_singleton.mp hr]
            exact (rowAt_some c).2.1
        · rw [List.length_append, List.length_singleton]
          omega
        · rw [rev_snoc, List.length_append, List.length_singleton]
          have := hS10.trans (s_t ⟨R3.lo, R3.hi⟩ headw c)
          rw [rev_length, headd] at this
          exact this
  · rw [if_neg (by show ¬ 0 = dn; omega)]
    exact hS9
  clear A9 F9 G9 T9 hS9
  rintro σ' H10 ⟨k, tt, rfl, A10, F10, G10, T10, Q10, hS10⟩
  -- lines.take_end()
  obtain ⟨⟨dx10, h1⟩, _⟩ := id A10.lines
  refine ⟨_, rfl, x, dx10, _, rfl, h1, lF_no _ _ (by decide +kernel) (by decide +kernel), x, l, ls, k, rfl, A10.lines, A10.le, fun c => ?_, fun c => (kE k (hS10.trans (s_noend c))).same A10.same⟩
  have hSok := hS10.trans (s_end c)
  -- return Drawing(turned(front), turned(right), turned(top))
  refine ⟨_, rfl, fa, _, rfl, SqL.of F10.at_, fun p1 hp1 => ?_⟩
  have e1 : Same H10 (upd H10 p1 (.lst (sV fr).reverse)) := upd_more hp1
  refine ⟨_, rfl, ra, _, rfl, SqL.of (e1 _ _ G10.at_), fun p2 hp2 => ?_⟩
  have e2 := upd_more (o := .lst (sV rr).reverse) hp2
  refine ⟨_, rfl, ta, _, rfl, SqL.of (e2 _ _ (e1 _ _ T10.at_)), fun p3 hp3 => ?_⟩
  have e3 := upd_more (o := .lst (sV tt).reverse) hp3
  intro gx gd ngx ngd nge
  refine ⟨gx, gd, _, _, _, rfl, upd_same, fun H12 h12 b12 => ⟨rfl, ?_⟩⟩
  have old : ∀ b o, (upd (upd (upd H10 p1 (.lst (sV fr).reverse)) p2 (.lst (sV rr).reverse)) p3 (.lst (sV tt).reverse)) b = some o → H12 b = some o := fun b o e => by
    refine b12 b o ?_ (ne_of_none e ngx)
    rw [upd_ne (ne_of_none e ngx), upd_ne (ne_of_none e ngd)]
    exact e
  refine kQ _ hSok H12 gx (fun b o e => old b o (e3 _ _ (e2 _ _ (e1 _ _ (A10.same b o e))))) ⟨gd, p1, p2, p3, h12, ?_, ?_, ?_⟩
  · show H12 p1 = some (.lst (sV ((rev fr).map rowN)))
    rw [rev_rows R3.dots, old p1 _ (e3 _ _ (e2 _ _ upd_same)), sV_rev]
  · show H12 p2 = some (.lst (sV ((rev rr).map rowN)))
    rw [rev_rows Q8.dots, old p2 _ (e3 _ _ upd_same), sV_rev]
  · show H12 p3 = some (.lst (sV ((rev tt).map rowN)))
    rw [rev_rows Q10, old p3 _ upd_same, sV_rev]
end
end JM

namespace JM
open PySem PySem.Spec PyProof.Rows L2 PySem.ErrX
abbrev sJudge : Stmt := top 15
def judgeN (ns : List Nat) : List Int := if 16384 < ns.length then [-2] else match readN ns with
  | .ok _ => [0]
  | .error k => [-6, (k : Int)]
theorem bytes_nat {zs : List Int} (h : ∀ z ∈ zs, 0 ≤ z ∧ z ≤ 255) : (Neutral.bytes zs).map UInt8.toNat = zs.map Int.toNat := by
  unfold Neutral.bytes
  rw [List.map_map]
  refine List.map_congr_left fun z hz => ?_
  obtain ⟨h1, h2⟩ := h z hz
  show (UInt8.ofNat z.toNat).toNat = z.toNat
  rw [UInt8.toNat_ofNat']
  exact Nat.mod_eq_of_lt (by omega)
theorem judge_is {zs : List Int} (h : ∀ z ∈ zs, 0 ≤ z ∧ z ≤ 255) : PyWqatdj.judge zs = judgeN (zs.map Int.toNat) := by
  have e := bytes_nat h
  have el : (Neutral.bytes zs).length = (zs.map Int.toNat).length := by
    rw [← e, List.length_map]
  show (WqatdjSpec.answer (.judge (Neutral.bytes zs))).ret :: (WqatdjSpec.answer (.judge (Neutral.bytes zs))).nums.map Neutral.int = _
  show (WqatdjSpec.ofDrawing (Neutral.bytes zs) fun _ => WqatdjSpec.says 0).ret :: (WqatdjSpec.ofDrawing (Neutral.bytes zs) fun _ => WqatdjSpec.says 0).nums.map Neutral.int = _
  unfold WqatdjSpec.ofDrawing judgeN
  rw [el]
  show _ = if WqatdjSpec.LONGEST < _ then _ else _
  split
  · rfl
  · rw [read_is, e]
    cases readN (zs.map Int.toNat) <;> rfl
/-- judge's -/
def spJudge (K : PySem.W.Frag) : Sp := fun vs H Q _ => ∃ (a : Addr) (ns : List Nat), vs = [.ref a] ∧ SqL K H a (nV ns) ∧
  ∀ (H' : Hp) (p : Addr), H' p = some (.lst ((judgeN ns).map V.int)) → Q (.ref p) H'
section
variable {P : Program} {w : World} {K : PySem.W.Frag} {mg : Str → Option Value} {base : Heap} {C CF CG fI : Addr}
theorem scJudge : FnScope ["drawing", "fault"] ["drawing"] (defScope sJudge) := ⟨rfl, rfl, rfl, by decide +kernel, rfl, by decide +kernel, by decide +kernel⟩
theorem ok_judge {f fR : Addr} {fd fdR : FuncData} {tB tL tF : Tok} (F : Fun K "judge" "judge" sJudge f fd) (R : Err P w K mg CF fI) (mlen : mg "len" = none)
    (mB : mg "MOST_BYTES" = some (.int 16384 tB)) (mL : mg "TOO_LONG" = some (.int (-2) tL)) (mF : mg "AT_FAULT" = some (.int (-6) tF))
    (gR : mg "read_drawing" = some (.ref fR)) (kR : PySem.W.keepIn K (.ref fR) = true) (GR : FnOk P w K mg base (L2.CX P w) 6 fR fdR ["data"] (spRead K CF CG)) (bR : Binds K fdR ["data"] []) :
    FnOk P w K mg base CX0 8 f fd ["drawing"] (spJudge K) := by
  refine F.ok scJudge (fun vs H Q E h => ?_) (fun cdv A outer s H vs Q E hr h => ?_)
  · obtain ⟨a, ns, rfl, _⟩ := h
    rfl
  have hr6 : Room 6 _ := hr.mono (by decide)
  refine ⟨_, pss_cons (ps_if (pt_cmpR op_gt (pe_callB call_len_seq (by rfl) mlen PySem.boot_len (pa_cons (pv 0) pa_nil)) (pe_glob (by rfl) mB relI) (nomark _)) (pss_one (ps_ret (pe_lst (pa_cons (pe_glob (by rfl) mL relI) pa_nil)))) pss_nil)
    (pss_cons (ps_try_as (i := 1) (tb := fun W => tDrop (tCallS (spRead K CF CG) (WE W) (tCons (tVar 0) tNil))) (ts := fun a cls d => tRet (tLst (tCons (tC (.int (-6))) (tCons (tErrFld CF "line" a cls d (tVar 1)) tNil)))) (Wout := fun _ _ _ _ => False) rfl rfl scJudge.nd rfl rfl ⟨rfl, by decide, Or.inl R.g⟩ takes0
      (fun W pn xe tk _ => pss_one (ps_expr (by exact (pe_callS GR hr6 rfl gR kR bR (fun σ => passAt tk σ) (by exact (pa_cons (pv 0) pa_nil))))))
      (fun a oe cls d pn hz hf => pss_one (ps_ret (by exact (pe_lst (pa_cons (pe_glob (by rfl) mF relI) (pa_cons (pe_errFld R.cls (List.mem_singleton.mpr rfl) hz hf (pv 1)) pa_nil)))))))
    (pss_one (ps_ret (pe_lst (pa_cons pe_int pa_nil))))), ?_⟩
  obtain ⟨a, ns, rfl, hq, k⟩ := h
  unfold judgeN at k
  refine ⟨_, rfl, a, _, rfl, .inl hq, _, _, rfl, rfl, _, rfl, ?_⟩
  rw [List.length_map]
  by_cases c : 16384 < ns.length
  · rw [if_pos c] at k
    have d1 : decide ((16384 : Int) < (ns.length : Int)) = true := decide_eq_true (by omega)
    rw [d1]
    refine iteT ?_
    exact ⟨by show 1 ≤ sizeLine; decide, fun p hp => k _ p upd_same⟩
  · rw [if_neg c] at k
    have d1 : decide ((16384 : Int) < (ns.length : Int)) = false := decide_eq_false (by omega)
    rw [d1]
    refine iteF ?_
    refine ⟨_, rfl, a, ns, rfl, hq, by omega, fun n e H1 d s1 hd => ?_, fun g e H1 p s1 _ => ?_⟩
    · rw [e] at k
      refine ⟨true, R.cls.te, fun _ a0 _ => ?_, fun q => Bool.noConfusion q⟩
      refine ⟨_, rfl, rfl, rfl, d, _, _, rfl, hd, rfl, by show 2 ≤ sizeLine; decide, fun p hp => ?_⟩
      exact k _ p upd_same
    · rw [e] at k
      exact ⟨by show 1 ≤ sizeLine; decide, fun p hp => k _ p upd_same⟩
end
end JM

namespace JM
open PySem PySem.Spec PyProof.Rows L2 PySem.ErrX
open PySem.W (Codec)
abbrev sInitF : Stmt := inClass (top 5) 0
/-- an error of the class at S is what «except S» names -/
theorem exm_self {K : PySem.W.Frag} {S : Addr} (h1 : PySem.W.subIn K (.ref S) (.type "BaseException") = some true) (h2 : PySem.W.isClsIn K S = true) (h3 : PySem.W.typeIn K (.ref S) = some (.type "type")) (h4 : PySem.W.subIn K (.ref S) (.ref S) = some true) :
    PySem.W.exmOne K (.ref S) (.ref S) = some true := by
  have e1 : (PySem.W.subIn K (.ref S) (.type "BaseException") == some true) = true := by rw [h1] <;> rfl
  have e2 : ((PySem.W.clsIn K S).isSome && PySem.W.typeIn K (.ref S) == some (.type "type")) = true := by
    have h2' : (PySem.W.clsIn K S).isSome = true := h2
    rw [h2', h3] <;> rfl
  show (if (PySem.W.subIn K (.ref S) (.type "BaseException") == some true) = true then (if ((PySem.W.clsIn K S).isSome && PySem.W.typeIn K (.ref S) == some (.type "type")) = true then PySem.W.subIn K (.ref S) (.ref S) else none) else none) = some true
  rw [if_pos e1, if_pos e2]
  exact h4
theorem all_mk {P : Program} {w : World} {K : PySem.W.Frag} {h : Heap} {mg : Str → Option Value} {fa CF CG C f1 f2 f3 f4 f5 f6 f7 f8 f9 f10 f11 f12 : Addr} (X : K.In h) (G : h.Ns mainGlobals mg) (hfa : mg "judge" = some (.ref fa))
    {nm q : Str} {N : Addr} {bs : List Value} {sn : List Str} {sub : List Value} {ab : Bool} {col : Option Bool} {dd : Option Addr} {m0 m1 m2 m3 m5 : Option Value}
    {od1 an1 od2 an2 od3 an3 od4 an4 od5 an5 od6 an6 od7 an7 od8 an8 od9 an9 od10 an10 od11 an11 od12 an12 : Option Addr} {sl1 sl2 sl3 sl4 sl5 sl6 sl7 sl8 sl9 sl10 sl11 sl12 : Array (Option Value)}
    {oc1 dc1 pm1 cd1 ct1 oc2 kV2 dc2 pm2 cd2 ct2 oc3 kV3 dc3 pm3 cd3 ct3 oc4 kV4 dc4 pm4 cd4 ct4 oc5 kV5 dc5 pm5 cd5 ct5 oc6 kV6 dc6 pm6 cd6 ct6 oc7 kV7 dc7 pm7 cd7 ct7 oc8 kV8 dc8 pm8 cd8 ct8 oc9 kV9 dc9 pm9 cd9 ct9 oc10 kV10 dc10 pm10 cd10 ct10 oc11 kV11 dc11 pm11 cd11 ct11 oc12 kV12 dc12 pm12 cd12 ct12 : Value} {t1 t2 t3 t4 t5 t6 : Tok}
    (aF : PySem.W.nsIn K mainGlobals "DrawingFault" = some (some (.ref CF)))
    (xL : K.lookup CF = some (excClassObj nm q CF N bs [.type "Exception", .type "BaseException", .type "object"] true sn sub ab col dd m0 m1 m2 m3 m5 "Exception.__new__"))
    (sa : PySem.W.findIn K (.ref CF) "__setattr__" = some (some (.builtin "object.__setattr__"))) (ga : PySem.W.findIn K (.ref CF) "__getattribute__" = some (some (.builtin "BaseException.__getattribute__"))) (gg : PySem.W.findIn K (.ref CF) "__getattr__" = some none) (nb : PySem.W.findIn K (.ref CF) "line" = some none)
    (a1 : PySem.W.findIn K (.ref CF) "__init__" = some (some (.ref f1))) (ty1 : PySem.W.typeIn K (.ref f1) = some (.type "function"))
    (l1 : K.lookup f1 = some ⟨oc1, od1, .func (PySem.W.fnOf "__init__" "DrawingFault.__init__" (defArgs sInitF) (defBody sInitF) (defScope sInitF) .none .none dc1 pm1 an1 cd1 ct1), sl1⟩) (c1 : PySem.W.codeIn K cd1 "DrawingFault.__init__" = true)
    (kC : PySem.W.keepIn K (.ref CF) = true) (eC : PySem.W.subIn K (.ref CF) (.type "BaseException") = some true) (tC : PySem.W.typeIn K (.ref CF) = some (.type "type")) (hC : PySem.W.hasDictIn K CF = true) (iC : PySem.W.isClsIn K CF = true) (sC : PySem.W.subIn K (.ref CF) (.ref CF) = some true)
    (aG : PySem.W.nsIn K mainGlobals "Drawing" = some (some (.ref CG))) (pgG : PySem.W.plainGet K CG Str.empty = true) (hdG : PySem.W.hasDictIn K CG = true) (poG : PySem.W.plainOver K CG = true) (saG : PySem.W.findIn K (.ref CG) "__setattr__" = some (some (.builtin "object.__setattr__"))) (mkG : PySem.W.makesIn K CG = true) (kcG : PySem.W.keepIn K (.ref CG) = true)
    (nF : PySem.W.findIn K (.ref CG) "front" = some none) (nR : PySem.W.findIn K (.ref CG) "right" = some none) (nT : PySem.W.findIn K (.ref CG) "top" = some none)
    (a2 : PySem.W.findIn K (.ref CG) "__init__" = some (some (.ref f2))) (i2 : PySem.W.isFn K (.ref f2) = true) (l2 : K.lookup f2 = some ⟨oc2, od2, .func (PySem.W.fnOf "__init__" "Drawing.__init__" (defArgs sInitG) (defBody sInitG) (defScope sInitG) .none kV2 dc2 pm2 an2 cd2 ct2), sl2⟩) (c2 : PySem.W.codeIn K cd2 "Drawing.__init__" = true) (k2 : PySem.W.keepIn K (.ref f2) = true)
    (aL : PySem.W.nsIn K mainGlobals "DrawingLines" = some (some (.ref C))) (pgL : PySem.W.plainGet K C Str.empty = true) (hdL : PySem.W.hasDictIn K C = true) (poL : PySem.W.plainOver K C = true) (saL : PySem.W.findIn K (.ref C) "__setattr__" = some (some (.builtin "object.__setattr__"))) (mkL : PySem.W.makesIn K C = true) (kcL : PySem.W.keepIn K (.ref C) = true)
    (nL : PySem.W.findIn K (.ref C) "lines" = some none) (nA : PySem.W.findIn K (.ref C) "at" = some none)
    (a3 : PySem.W.findIn K (.ref C) "__init__" = some (some (.ref f3))) (i3 : PySem.W.isFn K (.ref f3) = true) (l3 : K.lookup f3 = some ⟨oc3, od3, .func (PySem.W.fnOf "__init__" "DrawingLines.__init__" (defArgs sInitL) (defBody sInitL) (defScope sInitL) .none kV3 dc3 pm3 an3 cd3 ct3), sl3⟩) (c3 : PySem.W.codeIn K cd3 "DrawingLines.__init__" = true) (k3 : PySem.W.keepIn K (.ref f3) = true)
    (a4 : PySem.W.findIn K (.ref C) "coming" = some (some (.ref f4))) (i4 : PySem.W.isFn K (.ref f4) = true) (l4 : K.lookup f4 = some ⟨oc4, od4, .func (PySem.W.fnOf "coming" "DrawingLines.coming" (defArgs sComing) (defBody sComing) (defScope sComing) .none kV4 dc4 pm4 an4 cd4 ct4), sl4⟩) (c4 : PySem.W.codeIn K cd4 "DrawingLines.coming" = true) (k4 : PySem.W.keepIn K (.ref f4) = true)
    (a5 : PySem.W.findIn K (.ref C) "take_word" = some (some (.ref f5))) (i5 : PySem.W.isFn K (.ref f5) = true) (l5 : K.lookup f5 = some ⟨oc5, od5, .func (PySem.W.fnOf "take_word" "DrawingLines.take_word" (defArgs sWord) (defBody sWord) (defScope sWord) .none kV5 dc5 pm5 an5 cd5 ct5), sl5⟩) (c5 : PySem.W.codeIn K cd5 "DrawingLines.take_word" = true) (k5 : PySem.W.keepIn K (.ref f5) = true)
    (a6 : PySem.W.findIn K (.ref C) "take_row" = some (some (.ref f6))) (i6 : PySem.W.isFn K (.ref f6) = true) (l6 : K.lookup f6 = some ⟨oc6, od6, .func (PySem.W.fnOf "take_row" "DrawingLines.take_row" (defArgs sTake) (defBody sTake) (defScope sTake) .none kV6 dc6 pm6 an6 cd6 ct6), sl6⟩) (c6 : PySem.W.codeIn K cd6 "DrawingLines.take_row" = true) (k6 : PySem.W.keepIn K (.ref f6) = true)
    (a7 : PySem.W.findIn K (.ref C) "take_end" = some (some (.ref f7))) (i7 : PySem.W.isFn K (.ref f7) = true) (l7 : K.lookup f7 = some ⟨oc7, od7, .func (PySem.W.fnOf "take_end" "DrawingLines.take_end" (defArgs sEnd) (defBody sEnd) (defScope sEnd) .none kV7 dc7 pm7 an7 cd7 ct7), sl7⟩) (c7 : PySem.W.codeIn K cd7 "DrawingLines.take_end" = true) (k7 : PySem.W.keepIn K (.ref f7) = true)
    (a8 : PySem.W.nsIn K mainGlobals "lines_of" = some (some (.ref f8))) (l8 : K.lookup f8 = some ⟨oc8, od8, .func (PySem.W.fnOf "lines_of" "lines_of" (defArgs sLines) (defBody sLines) (defScope sLines) .none kV8 dc8 pm8 an8 cd8 ct8), sl8⟩) (c8 : PySem.W.codeIn K cd8 "lines_of" = true) (k8 : PySem.W.keepIn K (.ref f8) = true)
    (a9 : PySem.W.nsIn K mainGlobals "is_row" = some (some (.ref f9))) (l9 : K.lookup f9 = some ⟨oc9, od9, .func (PySem.W.fnOf "is_row" "is_row" (defArgs sRow) (defBody sRow) (defScope sRow) .none kV9 dc9 pm9 an9 cd9 ct9), sl9⟩) (c9 : PySem.W.codeIn K cd9 "is_row" = true) (k9 : PySem.W.keepIn K (.ref f9) = true)
    (a10 : PySem.W.nsIn K mainGlobals "read_drawing" = some (some (.ref f10))) (l10 : K.lookup f10 = some ⟨oc10, od10, .func (PySem.W.fnOf "read_drawing" "read_drawing" (defArgs sRead) (defBody sRead) (defScope sRead) .none kV10 dc10 pm10 an10 cd10 ct10), sl10⟩) (c10 : PySem.W.codeIn K cd10 "read_drawing" = true) (k10 : PySem.W.keepIn K (.ref f10) = true)
    (a11 : PySem.W.nsIn K mainGlobals "turned" = some (some (.ref f11))) (l11 : K.lookup f11 = some ⟨oc11, od11, .func (PySem.W.fnOf "turned" "turned" (defArgs sTurned) (defBody sTurned) (defScope sTurned) .none kV11 dc11 pm11 an11 cd11 ct11), sl11⟩) (c11 : PySem.W.codeIn K cd11 "turned" = true) (k11 : PySem.W.keepIn K (.ref f11) = true)
    (a12 : PySem.W.nsIn K mainGlobals "judge" = some (some (.ref f12))) (l12 : K.lookup f12 = some ⟨oc12, od12, .func (PySem.W.fnOf "judge" "judge" (defArgs sJudge) (defBody sJudge) (defScope sJudge) .none kV12 dc12 pm12 an12 cd12 ct12), sl12⟩) (c12 : PySem.W.codeIn K cd12 "judge" = true) (k12 : PySem.W.keepIn K (.ref f12) = true)
    (v1 : PySem.W.nsIn K mainGlobals "MOST_BYTES" = some (some (.int 16384 t1))) (v2 : PySem.W.nsIn K mainGlobals "MOST_SIZE" = some (some (.int 16 t2))) (v3 : PySem.W.nsIn K mainGlobals "SIGNS" = some (some (.str (ofN signs) t3))) (v4 : PySem.W.nsIn K mainGlobals "STRANGE" = some (some (.str (ofN [63]) t4))) (v5 : PySem.W.nsIn K mainGlobals "TOO_LONG" = some (some (.int (-2) t5))) (v6 : PySem.W.nsIn K mainGlobals "AT_FAULT" = some (some (.int (-6) t6)))
    (z1 : PySem.W.nsIn K mainGlobals "len" = some none) (z2 : PySem.W.nsIn K mainGlobals "ord" = some none) (z3 : PySem.W.nsIn K mainGlobals "all" = some none) (z4 : PySem.W.nsIn K mainGlobals "list" = some none) (z5 : PySem.W.nsIn K mainGlobals "reversed" = some none) :
    ∃ fd : FuncData, (∀ (s : Shared) (us : List Value), us.length = (["drawing"] : List Str).length → BindsTo s fd ⟨us, []⟩ ((["drawing"] : List Str).zip us)) ∧ ∀ base : Heap, K.In base → base.Ns mainGlobals mg → FnOk P w K mg base CX0 8 fa fd ["drawing"] (spJudge K) := by
  have e := hfa.symm.trans (PySem.W.mg_of X G a12)
  cases e
  have TE : ErrCls K CF ["line"] :=
    { cls := ⟨nm, q, N, bs, sn, sub, ab, col, dd, m0, m1, m2, m3, m5, xL⟩, sa := sa, ga := ga, gg := gg, noN := fun f hf => by rw [List.mem_singleton.mp hf]; exact nb, kC := kC, exC := eC, tyC := tC, hdC := hC, te := exm_self eC iC tC sC }
  have R : Err P w K mg CF f1 := ⟨TE, ⟨a1, ty1⟩, init_line TE ⟨_, _, _, _, _, _, _, _, _, _, _, _, _, _, l1, c1⟩, PySem.W.mg_of X G aF⟩
  have TG : ClsG K CG := ⟨⟨pgG, hdG, poG, saG⟩, nF, nR, nT⟩
  have TL : ClsL K C := ⟨⟨pgL, hdL, poL, saL⟩, nL, nA⟩
  have mlen := PySem.W.mg_none_of X G z1
  have F2 := fun_mk (st := sInitG) l2 c2 k2
  have F3 := fun_mk (st := sInitL) l3 c3 k3
  have F4 := fun_mk (st := sComing) l4 c4 k4
  have F5 := fun_mk (st := sWord) l5 c5 k5
  have F6 := fun_mk (st := sTake) l6 c6 k6
  have F7 := fun_mk (st := sEnd) l7 c7 k7
  have F8 := fun_mk (st := sLines) l8 c8 k8
  have F9 := fun_mk (st := sRow) l9 c9 k9
  have F10 := fun_mk (st := sRead) l10 c10 k10
  have F11 := fun_mk (st := sTurned) l11 c11 k11
  have F12 := fun_mk (st := sJudge) l12 c12 k12
  have b2 := F2.binds (ps := ["self", "front", "right", "top"]) fun _ _ _ _ _ _ us hl => match us, hl with | [_, _, _, _], _ => rfl
  have b3 := F3.binds (ps := ["self", "lines"]) fun _ _ _ _ _ _ us hl => match us, hl with | [_, _], _ => rfl
  have b4 := F4.binds (ps := ["self"]) fun _ _ _ _ _ _ us hl => match us, hl with | [_], _ => rfl
  have b5 := F5.binds (ps := ["self", "word"]) fun _ _ _ _ _ _ us hl => match us, hl with | [_, _], _ => rfl
  have b6 := F6.binds (ps := ["self", "shortest", "longest"]) fun _ _ _ _ _ _ us hl => match us, hl with | [_, _, _], _ => rfl
  have b7 := F7.binds (ps := ["self"]) fun _ _ _ _ _ _ us hl => match us, hl with | [_], _ => rfl
  have b8 := F8.binds (ps := ["data"]) fun _ _ _ _ _ _ us hl => match us, hl with | [_], _ => rfl
  have b9 := F9.binds (ps := ["line"]) fun _ _ _ _ _ _ us hl => match us, hl with | [_], _ => rfl
  have b10 := F10.binds (ps := ["data"]) fun _ _ _ _ _ _ us hl => match us, hl with | [_], _ => rfl
  have b11 := F11.binds (ps := ["rows"]) fun _ _ _ _ _ _ us hl => match us, hl with | [_], _ => rfl
  refine ⟨PySem.W.fnOf "judge" "judge" (defArgs sJudge) (defBody sJudge) (defScope sJudge) .none kV12 dc12 pm12 an12 cd12 ct12, fun s us hu => match us, hu with | [_], _ => .of_eq rfl, fun base _ _ => ?_⟩
  have GC : FnOk P w K mg base CX0 1 f4 _ ["self"] (spComing C) := ok_coming F4 TL mlen
  have GR : FnOk P w K mg base CX0 1 f9 _ ["line"] spRow := ok_row F9 (PySem.W.mg_none_of X G z3)
  have mC : Meth K C "coming" f4 := ⟨a4, i4, k4⟩
  have GW := ok_word (P := P) (w := w) (mg := mg) (base := base) F5 TL R mC GC b4
  have GE := ok_end (P := P) (w := w) (mg := mg) (base := base) F7 TL R mC GC b4
  have GT := ok_take (P := P) (w := w) (mg := mg) (base := base) F6 TL R mC GC b4 (PySem.W.mg_of X G a9) k9 GR b9 mlen
  have GRD := ok_read (P := P) (w := w) (mg := mg) (base := base) (CF := CF) F10 TL TG (PySem.W.mg_of X G v2) mlen (PySem.W.mg_of X G a8) k8 (ok_lines F8 (PySem.W.mg_of X G v3) (PySem.W.mg_of X G v4) (PySem.W.mg_none_of X G z2)) b8
    (PySem.W.mg_of X G aL) ⟨mkL, a3, i3, kcL⟩ (ok_initL F3 TL) b3 mC GC b4 ⟨a5, i5, k5⟩ GW b5 ⟨a6, i6, k6⟩ GT b6 ⟨a7, i7, k7⟩ GE b7
    (PySem.W.mg_of X G aG) ⟨mkG, a2, i2, kcG⟩ (ok_initG F2 TG) b2 (PySem.W.mg_of X G a11) k11 (ok_turned F11 (PySem.W.mg_none_of X G z4) (PySem.W.mg_none_of X G z5)) b11
  exact ok_judge F12 R mlen (PySem.W.mg_of X G v1) (PySem.W.mg_of X G v5) (PySem.W.mg_of X G v6) (PySem.W.mg_of X G a10) k10 GRD b10
end JM

open PySem PySem.W PyProof.Rows
set_option maxRecDepth 100000 in
set_option maxHeartbeats 8000000 in
theorem PySem.Challenge.cw_threeviews_s02_judge_holds : PySem.Challenge.rw_threeviews_s02_judge.Holds := by
  w_on; k_headS; (case hw => exact ⟨[.list []], by decide +kernel, by decide +kernel⟩)
  k_fillS
  refine L2.walk_specK (r := PySem.Challenge.rw_threeviews_s02_judge) (k := 8) (CX := L2.CX0) (ps := ["drawing"]) (sp := JM.spJudge) (by decide +kernel) rfl rfl ⟨rfl, by decide, by decide⟩ (fun w h Y => PySem.W.kIn_of Y) ?F ?S (fun _ _ _ _ z => z)
  case F =>
    intro w mg fa h Y KX G hmg
    refine' JM.all_mk KX G hmg ?aF ?xL ?sa ?ga ?gg ?nb ?a1 ?ty1 ?l1 ?c1 ?kC ?eC ?tC ?hC ?iC ?sC ?aG ?pgG ?hdG ?poG ?saG ?mkG ?kcG ?nF ?nR ?nT ?a2 ?i2 ?l2 ?c2 ?k2 ?aL ?pgL ?hdL ?poL ?saL ?mkL ?kcL ?nL ?nA ?a3 ?i3 ?l3 ?c3 ?k3 ?a4 ?i4 ?l4 ?c4 ?k4 ?a5 ?i5 ?l5 ?c5 ?k5 ?a6 ?i6 ?l6 ?c6 ?k6 ?a7 ?i7 ?l7 ?c7 ?k7 ?a8 ?l8 ?c8 ?k8 ?a9 ?l9 ?c9 ?k9 ?a10 ?l10 ?c10 ?k10 ?a11 ?l11 ?c11 ?k11 ?a12 ?l12 ?c12 ?k12 ?v1 ?v2 ?v3 ?v4 ?v5 ?v6 ?z1 ?z2 ?z3 ?z4 ?z5
    (case aF => k_is); (case xL => k_is); (case sa => k_is); (case ga => k_is); (case gg => k_is); (case nb => k_is)
    (case a1 => k_is); (case ty1 => k_is); (case l1 => k_is); (case c1 => k_is)
    (case kC => k_is); (case eC => k_is); (case tC => k_is); (case hC => k_is); (case iC => k_is); (case sC => first | rfl | k_is)
    (case aG => k_is); (case pgG => k_is); (case hdG => k_is); (case poG => k_is); (case saG => k_is); (case mkG => k_is); (case kcG => k_is); (case nF => k_is); (case nR => k_is); (case nT => k_is)
    (case a2 => k_is); (case i2 => k_is); (case l2 => k_is); (case c2 => k_is); (case k2 => k_is)
    (case aL => k_is); (case pgL => k_is); (case hdL => k_is); (case poL => k_is); (case saL => k_is); (case mkL => k_is); (case kcL => k_is); (case nL => k_is); (case nA => k_is)
    (case a3 => k_is); (case i3 => k_is); (case l3 => k_is); (case c3 => k_is); (case k3 => k_is)
    (case a4 => k_is); (case i4 => k_is); (case l4 => k_is); (case c4 => k_is); (case k4 => k_is)
    (case a5 => k_is); (case i5 => k_is); (case l5 => k_is); (case c5 => k_is); (case k5 => k_is)
    (case a6 => k_is); (case i6 => k_is); (case l6 => k_is); (case c6 => k_is); (case k6 => k_is)
    (case a7 => k_is); (case i7 => k_is); (case l7 => k_is); (case c7 => k_is); (case k7 => k_is)
    (case a8 => k_is); (case l8 => k_is); (case c8 => k_is); (case k8 => k_is)
    (case a9 => k_is); (case l9 => k_is); (case c9 => k_is); (case k9 => k_is)
    (case a10 => k_is); (case l10 => k_is); (case c10 => k_is); (case k10 => k_is)
    (case a11 => k_is); (case l11 => k_is); (case c11 => k_is); (case k11 => k_is)
    (case a12 => k_is); (case l12 => k_is); (case c12 => k_is); (case k12 => k_is)
    (case v1 => k_is); (case v2 => k_is); (case v3 => k_is); (case v4 => k_is); (case v5 => k_is); (case v6 => k_is)
    (case z1 => k_is); (case z2 => k_is); (case z3 => k_is); (case z4 => k_is); (case z5 => k_is)
  case S =>
    intro K H xs a hO hwi hask hx
    cases hx with
    | cons h1 h2 =>
      cases h2
      cases h1 with
      | lst hs ha =>
        have e := L2.ints_dw a.1 _ ha
        subst e
        have q : ((Codec.inLen 0 20000 a.1 && a.1.all (Codec.inInt 0 255)) && true) = true := hwi
        rw [Bool.and_eq_true, Bool.and_eq_true] at q
        have hz : ∀ z ∈ a.1, 0 ≤ z ∧ z ≤ 255 := by
          intro z hz
          have := List.all_eq_true.mp q.1.2 z hz
          simpa [Codec.inInt] using this
        have en : a.1.map L2.V.int = JM.nV (a.1.map Int.toNat) := by
          show _ = (a.1.map Int.toNat).map fun n : Nat => L2.V.int n
          rw [List.map_map]
          refine List.map_congr_left fun z hz' => ?_
          show L2.V.int z = L2.V.int (z.toNat : Int)
          rw [Int.toNat_of_nonneg (hz z hz').1]
        rw [en] at hs
        refine ⟨_, a.1.map Int.toNat, rfl, hs, fun H' p hp => ?_⟩
        rw [← JM.judge_is hz] at hp
        exact .lst (L2.SqL.of hp) (L2.dw_ints _)
#print axioms PySem.Challenge.cw_threeviews_s02_judge_holds
