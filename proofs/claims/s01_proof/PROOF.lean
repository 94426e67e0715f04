import PyProof.Rows.All
import Wide.All
import OpenK.AllK
import Wide.FinOn
import PyProof.EqAt
import PyProof.EqKinds
import PyProof.TupleCall
import KE.BitLaws
import KE.KDictList
import Open.SpecLaws
import KE.OsHead
import KE.OsGo
import PySem.Challenge.RW_askedjust_s01_answers
section
/-! The flat list of calls, read call by call. -/
namespace Aj
open Kp201

/-- how a call stands in the list -/
def flat : List (List Int) → List Int
  | [a] => a
  | [a, r] => a ++ ((r.length : Int) :: r)
  | _ => []

inductive Sh : List (List Int) → Prop
  | c0 : Sh [[0]]
  | c1 (n : Int) : Sh [[1, n]]
  | c2 (q : Int) (r : List Int) : Sh [[2, q], r]
  | c3 : Sh [[3]]
  | c4 (q o : Int) : Sh [[4, q, o]]
  | c5 (q : Int) : Sh [[5, q]]
  | c6 : Sh [[6]]
  | c7 (q : Int) : Sh [[7, q]]
  | c8 (q : Int) : Sh [[8, q]]
  | c9 : Sh [[9]]

theorem whole_id (c : List (List Int)) : PyKp201.whole c = c := by
  unfold PyKp201.whole
  split <;> rfl

theorem map_whole (cs : List (List (List Int))) : cs.map PyKp201.whole = cs := by
  induction cs with
  | nil => rfl
  | cons c cs ih => rw [List.map_cons, whole_id, ih]

theorem shape_cases {p : Int} {nk : Nat × Nat} (h : PyKp201.shape p = some nk) :
    (p = 0 ∧ nk = (0, 0)) ∨ (p = 1 ∧ nk = (1, 0)) ∨ (p = 2 ∧ nk = (1, 1)) ∨ (p = 3 ∧ nk = (0, 0)) ∨ (p = 4 ∧ nk = (2, 0)) ∨
    (p = 5 ∧ nk = (1, 0)) ∨ (p = 6 ∧ nk = (0, 0)) ∨ (p = 7 ∧ nk = (1, 0)) ∨ (p = 8 ∧ nk = (1, 0)) ∨ (p = 9 ∧ nk = (0, 0)) := by
  unfold PyKp201.shape at h
  repeat' split at h
  all_goals first | (cases h; simp_all) | cases h

theorem row_some {l x s : List Int} (h : PyFlat.row l = some (x, s)) : l = (x.length : Int) :: (x ++ s) := by
  cases l with
  | nil => cases h
  | cons n r =>
    simp only [PyFlat.row] at h
    split at h
    · rename_i hn
      cases h
      rw [List.take_append_drop, List.length_take, Nat.min_eq_left hn.2]
      congr 1
      omega
    · cases h

theorem call_some {l t : List Int} {c : List (List Int)} (h : PyFlat.call PyKp201.shape l = some (c, t)) : l = flat c ++ t ∧ Sh c := by
  cases l with
  | nil => cases h
  | cons p r =>
    simp only [PyFlat.call] at h
    cases hs : PyKp201.shape p with
    | none => rw [hs] at h; cases h
    | some nk =>
      rw [hs] at h
      obtain ⟨n, k⟩ := nk
      dsimp only at h
      split at h
      · cases h
      rename_i hlen
      have z0 : PyFlat.rows 0 = fun r => some ([], r) := by funext r; rfl
      rcases shape_cases hs with ⟨rfl, e⟩ | ⟨rfl, e⟩ | ⟨rfl, e⟩ | ⟨rfl, e⟩ | ⟨rfl, e⟩ | ⟨rfl, e⟩ | ⟨rfl, e⟩ | ⟨rfl, e⟩ | ⟨rfl, e⟩ | ⟨rfl, e⟩ <;> cases e
      · simp only [z0] at h
        cases h
        exact ⟨rfl, .c0⟩
      · match r, hlen with
        | [], hlen => simp at hlen
        | x :: r, _ =>
          simp only [z0] at h
          cases h
          exact ⟨rfl, .c1 x⟩
      · match r, hlen with
        | [], hlen => simp at hlen
        | x :: r, _ =>
          simp only [PyFlat.rows, List.drop_succ_cons, List.drop_zero] at h
          cases hr : PyFlat.row r with
          | none => rw [hr] at h; cases h
          | some xs =>
            obtain ⟨y, s⟩ := xs
            rw [hr] at h
            cases h
            refine ⟨?_, .c2 x y⟩
            rw [row_some hr]
            simp [flat]
      · simp only [z0] at h
        cases h
        exact ⟨rfl, .c3⟩
      · match r, hlen with
        | [], hlen => simp at hlen
        | [_], hlen => simp at hlen
        | x :: y :: r, _ =>
          simp only [z0] at h
          cases h
          exact ⟨rfl, .c4 x y⟩
      · match r, hlen with
        | [], hlen => simp at hlen
        | x :: r, _ =>
          simp only [z0] at h
          cases h
          exact ⟨rfl, .c5 x⟩
      · simp only [z0] at h
        cases h
        exact ⟨rfl, .c6⟩
      · match r, hlen with
        | [], hlen => simp at hlen
        | x :: r, _ =>
          simp only [z0] at h
          cases h
          exact ⟨rfl, .c7 x⟩
      · match r, hlen with
        | [], hlen => simp at hlen
        | x :: r, _ =>
          simp only [z0] at h
          cases h
          exact ⟨rfl, .c8 x⟩
      · simp only [z0] at h
        cases h
        exact ⟨rfl, .c9⟩

/-- the rest of a list, read -/
inductive Reads : List Int → List (List (List Int)) → Prop
  | nil : Reads [] []
  | cons {c : List (List Int)} {t : List Int} {cs : List (List (List Int))} : Sh c → Reads t cs → Reads (flat c ++ t) (c :: cs)

theorem calls_reads : ∀ (n : Nat) (l : List Int) (cs : List (List (List Int))), PyFlat.calls PyKp201.shape n l = some cs → Reads l cs
  | n, [], cs, h => by
    have : cs = [] := by cases n <;> (cases h; rfl)
    subst this
    exact .nil
  | 0, _ :: _, cs, h => by cases h
  | n + 1, p :: r, cs, h => by
    unfold PyFlat.calls at h
    cases hc : PyFlat.call PyKp201.shape (p :: r) with
    | none => rw [hc] at h; cases h
    | some ct =>
      obtain ⟨c, t⟩ := ct
      rw [hc] at h
      dsimp only at h
      cases hr : PyFlat.calls PyKp201.shape n t with
      | none => rw [hr] at h; cases h
      | some cs' =>
        rw [hr] at h
        cases h
        obtain ⟨e, hs⟩ := call_some hc
        rw [e]
        exact .cons hs (calls_reads n t cs' hr)

/-- a list that may be handed in -/
theorem asked_reads {ns : List Int} (h : PyKp201.answers_asked ns = true) : ∃ cs, Reads ns cs ∧ cs.length ≤ 300 ∧ Kp201Neutral.begins cs = true ∧ (∀ c ∈ cs, Kp201Neutral.asked1 c = true) ∧
    PyKp201.answers ns = PyFlat.told (PyFlat.played Kp201Neutral.step Kp201Neutral.start cs) := by
  unfold PyKp201.answers_asked at h
  cases hc : PyKp201.calls ns with
  | none => rw [hc] at h; cases h
  | some cs =>
    rw [hc] at h
    dsimp only at h
    unfold PyKp201.calls at hc
    cases hp : PyFlat.calls PyKp201.shape ns.length ns with
    | none => rw [hp] at hc; cases hc
    | some cs0 =>
      rw [hp] at hc
      dsimp only at hc
      rw [map_whole] at hc
      obtain rfl : cs0 = cs := Option.some.inj hc
      simp only [PyFlat.atMost, Kp201Neutral.asked, Bool.and_eq_true, decide_eq_true_eq, List.all_eq_true] at h
      refine ⟨cs0, calls_reads _ _ _ hp, h.1, h.2.1, h.2.2.2, ?_⟩
      unfold PyKp201.answers PyKp201.calls
      rw [hp]
      dsimp only
      rw [map_whole]

theorem told_cons (a : List Int) (l : List (List Int)) : PyFlat.told (a :: l) = ((a.length : Int) :: a) ++ PyFlat.told l := by
  simp [PyFlat.told]

/-- what a call answers, as numbers -/
def outI (a : Ans) : List Int := a.num :: Kp201Neutral.outs a.nums
end Aj
end
section
/-! A form's state: what keeps, and the row of what comes, one question after another. -/
namespace Aj
open Kp201

def valOf (c : Came) (x : Question) (a : Option Nat) : Nat := if asked c x = false then NOT else match a with
  | some o => o
  | none => UNANSWERED

theorem went_snoc (x : Question) : ∀ (f : Form) (c : Came) (as : List (Option Nat)), went c (f ++ [x]) as = went c f as ++ [valOf (went c f as) x (as.getD f.length none)]
  | [], c, as => by
    cases as with
    | nil => rfl
    | cons a as => rfl
  | y :: f, c, as => by
    have e : (as.drop 1).getD f.length none = as.getD (f.length + 1) none := by
      rw [List.getD_eq_getElem?_getD, List.getD_eq_getElem?_getD, List.getElem?_drop, Nat.add_comm 1]
    simp only [List.cons_append, went, List.length_cons]
    rw [went_snoc x f, e]

theorem went_len : ∀ (f : Form) (c : Came) (as : List (Option Nat)), (went c f as).length = c.length + f.length
  | [], c, as => rfl
  | y :: f, c, as => by
    simp only [went, List.length_cons]
    rw [went_len f]
    simp only [List.length_append, List.length_cons, List.length_nil]
    omega

/-- the row of what comes of the first i questions -/
def rowTo (h : House) (i : Nat) : Came := went [] (h.form.take i) h.answers
theorem rowTo_zero (h : House) : rowTo h 0 = [] := rfl
theorem rowTo_len (h : House) {i : Nat} (hi : i ≤ h.form.length) : (rowTo h i).length = i := by
  unfold rowTo
  rw [went_len, List.length_take, Nat.min_eq_left hi]
  simp
theorem take_snoc' {α : Type} {l : List α} {i : Nat} {x : α} (h : l[i]? = some x) : l.take (i + 1) = l.take i ++ [x] := by
  rw [List.take_add_one, h]
  rfl
theorem rowTo_succ (h : House) {i : Nat} {x : Question} (hx : h.form[i]? = some x) : rowTo h (i + 1) = rowTo h i ++ [valOf (rowTo h i) x (h.answers.getD i none)] := by
  have hi : i < h.form.length := (List.getElem?_eq_some_iff.mp hx).1
  unfold rowTo
  rw [take_snoc' hx, went_snoc, List.length_take, Nat.min_eq_left (Nat.le_of_lt hi)]
theorem rowTo_all (h : House) : rowTo h h.form.length = now h := by
  unfold rowTo now
  rw [List.take_length]

structure GoodQ (i : Nat) (x : Question) : Prop where
  o1 : 1 ≤ x.options
  o8 : x.options ≤ 8
  nc : x.clauses.length ≤ 4
  cl : ∀ k ∈ x.clauses, k ≠ [] ∧ k.length ≤ 4 ∧ ∀ l ∈ k, l.q < i ∧ l.set < 512
structure GoodH (h : House) : Prop where
  len : h.answers.length = h.form.length
  size : h.form.length ≤ 24
  q : ∀ (i : Nat) (x : Question), h.form[i]? = some x → GoodQ i x
  ans : ∀ (i o : Nat), h.answers[i]? = some (some o) → ∃ x : Question, h.form[i]? = some x ∧ o < x.options

theorem good_nil : GoodH ⟨[], []⟩ := ⟨rfl, by decide, fun i x h => by simp at h, fun i o h => by simp at h⟩

theorem GoodH.ans8 {h : House} (g : GoodH h) {i o : Nat} (e : h.answers[i]? = some (some o)) : o < 8 := by
  obtain ⟨x, hx, ho⟩ := g.ans i o e
  have := (g.q i x hx).o8
  omega

theorem valOf_le {h : House} (g : GoodH h) (c : Came) (x : Question) (i : Nat) : valOf c x (h.answers.getD i none) ≤ 9 := by
  unfold valOf
  split
  · decide
  · split
    · rename_i o e
      rw [List.getD_eq_getElem?_getD] at e
      cases q : h.answers[i]? with
      | none => rw [q] at e; cases e
      | some a =>
        rw [q] at e
        have e' : a = some o := e
        subst e'
        have := g.ans8 q
        omega
    · decide

theorem rowTo_le {h : House} (g : GoodH h) : ∀ (i : Nat), i ≤ h.form.length → ∀ v ∈ rowTo h i, v ≤ 9
  | 0, _, v, hv => by
    rw [rowTo_zero] at hv
    cases hv
  | i + 1, hi, v, hv => by
    have hx : h.form[i]? = some h.form[i] := List.getElem?_eq_getElem (by omega)
    rw [rowTo_succ h hx, List.mem_append] at hv
    rcases hv with hv | hv
    · exact rowTo_le g i (by omega) v hv
    · rw [List.mem_singleton] at hv
      rw [hv]
      exact valOf_le g _ _ _

theorem now_len (h : House) : (now h).length = h.form.length := by
  rw [← rowTo_all, rowTo_len h (Nat.le_refl _)]
theorem now_le {h : House} (g : GoodH h) : ∀ v ∈ now h, v ≤ 9 := by
  rw [← rowTo_all]
  exact rowTo_le g _ (Nat.le_refl _)

/-! ### the steps keep what is good -/
theorem good_question {h : House} (g : GoodH h) {n : Nat} (h1 : 1 ≤ n) (h8 : n ≤ 8) (hl : h.form.length < 24) : GoodH ⟨h.form ++ [⟨n, []⟩], h.answers ++ [none]⟩ := by
  refine ⟨?_, ?_, fun i x e => ?_, fun i o e => ?_⟩
  · simp only [List.length_append, g.len, List.length_cons, List.length_nil]
  · simp only [List.length_append, List.length_cons, List.length_nil]
    omega
  · rw [List.getElem?_append] at e
    split at e
    · exact g.q i x e
    · rename_i hi
      have : x = ⟨n, []⟩ := by
        rw [List.getElem?_singleton] at e
        split at e
        · exact (Option.some.inj e).symm
        · cases e
      subst this
      exact ⟨h1, h8, by simp, fun k hk => by simp at hk⟩
  · dsimp only at e ⊢
    rw [List.getElem?_append] at e
    split at e
    · obtain ⟨x, hx, ho⟩ := g.ans i o e
      exact ⟨x, by rw [List.getElem?_append_left (List.getElem?_eq_some_iff.mp hx).1]; exact hx, ho⟩
    · rw [List.getElem?_singleton] at e
      split at e <;> cases e

theorem good_need {h : House} (g : GoodH h) {q : Nat} {x : Question} {ls : List Literal} (hx : h.form[q]? = some x) (h0 : ls ≠ []) (h4 : ls.length ≤ 4) (hl : ∀ l ∈ ls, l.q < q ∧ l.set < 512) (hc : x.clauses.length < 4) :
    GoodH { h with form := h.form.set q { x with clauses := x.clauses ++ [ls] } } := by
  have hq : q < h.form.length := (List.getElem?_eq_some_iff.mp hx).1
  refine ⟨by simp only [List.length_set]; exact g.len, by simp only [List.length_set]; exact g.size, fun i y e => ?_, fun i o e => ?_⟩
  · dsimp only at e
    rw [List.getElem?_set] at e
    split at e
    · rename_i hi
      subst hi
      have e' : { x with clauses := x.clauses ++ [ls] } = y := Option.some.inj e
      subst e'
      have gx := g.q q x hx
      refine ⟨gx.o1, gx.o8, by simp only [List.length_append, List.length_cons, List.length_nil]; omega, fun k hk => ?_⟩
      rw [List.mem_append] at hk
      rcases hk with hk | hk
      · exact gx.cl k hk
      · rw [List.mem_singleton] at hk
        subst hk
        exact ⟨h0, h4, hl⟩
    · exact g.q i y e
  · dsimp only at e ⊢
    obtain ⟨y, hy, ho⟩ := g.ans i o e
    rw [List.getElem?_set]
    by_cases hi : q = i
    · subst hi
      rw [hx] at hy
      cases hy
      exact ⟨{ x with clauses := x.clauses ++ [ls] }, by rw [if_pos rfl, if_pos hq], ho⟩
    · exact ⟨y, by rw [if_neg hi]; exact hy, ho⟩

theorem good_answer {h : House} (g : GoodH h) {q o : Nat} {x : Question} (hx : h.form[q]? = some x) (ho : o < x.options) : GoodH { h with answers := h.answers.set q (some o) } := by
  refine ⟨by simp only [List.length_set]; exact g.len, g.size, g.q, fun i o' e => ?_⟩
  dsimp only at e ⊢
  rw [List.getElem?_set] at e
  split at e
  · rename_i hi
    subst hi
    split at e
    · have : o = o' := Option.some.inj (Option.some.inj e)
      subst this
      exact ⟨x, hx, ho⟩
    · cases e
  · exact g.ans i o' e

theorem good_forget {h : House} (g : GoodH h) {q : Nat} : GoodH { h with answers := h.answers.set q none } := by
  refine ⟨by simp only [List.length_set]; exact g.len, g.size, g.q, fun i o' e => ?_⟩
  dsimp only at e ⊢
  rw [List.getElem?_set] at e
  split at e
  · split at e
    · have : (none : Option Nat) = some o' := Option.some.inj e
      cases this
    · cases e
  · exact g.ans i o' e
end Aj
end
section
/-! Ways through: rows come in order, so the first of those that are alike is the earliest. -/
namespace Aj
open Kp201

theorem earlier_irrefl : ∀ a : List Nat, earlier a a = false
  | [] => rfl
  | x :: a => by simp [earlier, earlier_irrefl a]
theorem earlier_cons {x y : Nat} {a b : List Nat} : earlier (x :: a) (y :: b) = true ↔ x < y ∨ (x = y ∧ earlier a b = true) := by
  simp only [earlier]
  split
  · rename_i h
    simp [h]
  · rename_i h
    split
    · rename_i h2
      simp only [Bool.false_eq_true, false_iff]
      omega
    · have e : x = y := by omega
      simp [e]
theorem earlier_trans : ∀ {a b c : List Nat}, earlier a b = true → earlier b c = true → earlier a c = true
  | [], b, c, h, _ => by simp [earlier] at h
  | _ :: _, [], c, h, _ => by simp [earlier] at h
  | _ :: _, _ :: _, [], _, h => by simp [earlier] at h
  | x :: a, y :: b, z :: c, h1, h2 => by
    rw [earlier_cons] at h1 h2 ⊢
    rcases h1 with h1 | ⟨rfl, h1⟩
    · rcases h2 with h2 | ⟨rfl, h2⟩
      · exact .inl (by omega)
      · exact .inl h1
    · rcases h2 with h2 | ⟨rfl, h2⟩
      · exact .inl h2
      · exact .inr ⟨rfl, earlier_trans h1 h2⟩
theorem earlier_asymm {a b : List Nat} (h : earlier a b = true) : earlier b a = false := by
  cases e : earlier b a with
  | false => rfl
  | true =>
    have := earlier_trans h e
    rw [earlier_irrefl] at this
    cases this
theorem earlier_append : ∀ {a b : List Nat} (u v : List Nat), earlier a b = true → earlier (a ++ u) (b ++ v) = true
  | [], b, _, _, h => by simp [earlier] at h
  | _ :: _, [], _, _, h => by simp [earlier] at h
  | x :: a, y :: b, u, v, h => by
    rw [earlier_cons] at h
    rw [List.cons_append, List.cons_append, earlier_cons]
    rcases h with h | ⟨rfl, h⟩
    · exact .inl h
    · exact .inr ⟨rfl, earlier_append u v h⟩
theorem earlier_snoc : ∀ (a : List Nat) {x y : Nat}, x < y → earlier (a ++ [x]) (a ++ [y]) = true
  | [], x, y, h => by simp [earlier, h]
  | z :: a, x, y, h => by
    rw [List.cons_append, List.cons_append, earlier_cons]
    exact .inr ⟨rfl, earlier_snoc a h⟩

abbrev InOrder (l : List Came) : Prop := l.Pairwise fun a b => earlier a b = true
abbrev InOrderW (l : List Way) : Prop := l.Pairwise fun a b => earlier a.came b.came = true

theorem least_from : ∀ (l : List Came) (b : Came), (∀ c ∈ l, earlier c b = false) → l.foldl (fun (a : Option Came) (c : Came) => match a with
      | none => some c
      | some b => if earlier c b then some c else some b) (some b) = some b
  | [], b, _ => rfl
  | c :: l, b, h => by
    rw [List.foldl_cons]
    have e : earlier c b = false := h c (List.mem_cons_self ..)
    dsimp only
    rw [e]
    exact least_from l b fun c hc => h c (List.mem_cons_of_mem _ hc)
theorem least_inOrder {l : List Came} (h : InOrder l) : least l = l.head? := by
  cases l with
  | nil => rfl
  | cons b l =>
    replace h := List.pairwise_cons.mp h
    exact least_from l b fun c hc => earlier_asymm (h.1 c hc)

/-- a way more, the first of two that are alike kept -/
def putK (w : Keyed) : List Keyed → List Keyed
  | [] => [w]
  | x :: l => if sameRow x.key w.key then ⟨x.key, ⟨x.way.came, max x.way.many w.way.many⟩⟩ :: l else x :: putK w l
theorem sameRow_iff : ∀ {a b : List Nat}, sameRow a b = true ↔ a = b
  | [], [] => by simp [sameRow]
  | [], _ :: _ => by simp [sameRow]
  | _ :: _, [] => by simp [sameRow]
  | x :: a, y :: b => by
    simp only [sameRow, Bool.and_eq_true, beq_iff_eq, List.cons.injEq]
    rw [sameRow_iff]
theorem join_putK {w : Keyed} : ∀ {a : List Keyed}, (∀ x ∈ a, earlier x.way.came w.way.came = true) → join w a = putK w a
  | [], _ => rfl
  | x :: l, h => by
    simp only [join, putK]
    rw [join_putK fun y hy => h y (List.mem_cons_of_mem _ hy), earlier_asymm (h x (List.mem_cons_self ..))]
    rfl
theorem putK_came {w : Keyed} : ∀ {a : List Keyed} {y : Keyed}, y ∈ putK w a → y.way.came = w.way.came ∨ ∃ x ∈ a, y.way.came = x.way.came
  | [], y, h => by
    rw [putK, List.mem_singleton] at h
    exact .inl (by rw [h])
  | x :: l, y, h => by
    rw [putK] at h
    split at h
    · rw [List.mem_cons] at h
      rcases h with h | h
      · exact .inr ⟨x, List.mem_cons_self .., by rw [h]⟩
      · exact .inr ⟨y, List.mem_cons_of_mem _ h, rfl⟩
    · rw [List.mem_cons] at h
      rcases h with h | h
      · exact .inr ⟨x, List.mem_cons_self .., by rw [h]⟩
      · rcases putK_came h with e | ⟨z, hz, e⟩
        · exact .inl e
        · exact .inr ⟨z, List.mem_cons_of_mem _ hz, e⟩
theorem putK_len {w : Keyed} : ∀ {a : List Keyed}, a.length ≤ (putK w a).length
  | [] => by simp [putK]
  | x :: l => by
    rw [putK]
    split
    · simp
    · simp only [List.length_cons]
      have := putK_len (w := w) (a := l)
      omega
theorem putK_inOrder {w : Keyed} : ∀ {a : List Keyed}, InOrderW (a.map (·.way)) → (∀ x ∈ a, earlier x.way.came w.way.came = true) → InOrderW ((putK w a).map (·.way))
  | [], _, _ => by simp [putK]
  | x :: l, h, hw => by
    rw [List.map_cons] at h
    replace h := List.pairwise_cons.mp h
    rw [putK]
    split
    · rw [List.map_cons]
      exact List.pairwise_cons.mpr ⟨h.1, h.2⟩
    · rw [List.map_cons]
      refine List.pairwise_cons.mpr ⟨fun y hy => ?_, putK_inOrder h.2 fun y hy => hw y (List.mem_cons_of_mem _ hy)⟩
      obtain ⟨z, hz, rfl⟩ := List.mem_map.mp hy
      rcases putK_came hz with e | ⟨u, hu, e⟩
      · rw [e]
        exact hw x (List.mem_cons_self ..)
      · rw [e]
        exact h.1 u.way (List.mem_map.mpr ⟨u, hu, rfl⟩)

/-- all of them put in, one after another -/
def putAll (k : Came → List Nat) (acc : List Keyed) (ws : List Way) : List Keyed := ws.foldl (fun a w => putK ⟨k w.came, w⟩ a) acc
theorem putAll_len {k : Came → List Nat} : ∀ {ws : List Way} {acc : List Keyed}, acc.length ≤ (putAll k acc ws).length
  | [], _ => Nat.le_refl _
  | w :: ws, acc => Nat.le_trans putK_len (putAll_len (ws := ws) (acc := putK ⟨k w.came, w⟩ acc))
theorem stop_full {k : Came → List Nat} : ∀ {ws : List Way} {acc : List Keyed}, STATES < acc.length → ws.foldl (fun (a : List Keyed) (w : Way) => if STATES < a.length then a else join ⟨k w.came, w⟩ a) acc = acc
  | [], _, _ => rfl
  | w :: ws, acc, h => by
    rw [List.foldl_cons, if_pos h]
    exact stop_full h
theorem stop_fold {k : Came → List Nat} : ∀ {ws : List Way} {acc : List Keyed}, InOrderW ws → (∀ x ∈ acc, ∀ w ∈ ws, earlier x.way.came w.came = true) →
    (STATES < (putAll k acc ws).length → STATES < (ws.foldl (fun (a : List Keyed) (w : Way) => if STATES < a.length then a else join ⟨k w.came, w⟩ a) acc).length) ∧
    (¬ STATES < (putAll k acc ws).length → ws.foldl (fun (a : List Keyed) (w : Way) => if STATES < a.length then a else join ⟨k w.came, w⟩ a) acc = putAll k acc ws)
  | [], acc, _, _ => ⟨fun h => h, fun _ => rfl⟩
  | w :: ws, acc, hs, ha => by
    replace hs := List.pairwise_cons.mp hs
    by_cases hl : STATES < acc.length
    · rw [stop_full hl]
      exact ⟨fun _ => hl, fun h => absurd (Nat.lt_of_lt_of_le hl putAll_len) h⟩
    · have ej : join ⟨k w.came, w⟩ acc = putK ⟨k w.came, w⟩ acc := join_putK fun x hx => ha x hx w (List.mem_cons_self ..)
      have step : (w :: ws).foldl (fun (a : List Keyed) (w : Way) => if STATES < a.length then a else join ⟨k w.came, w⟩ a) acc = ws.foldl (fun (a : List Keyed) (w : Way) => if STATES < a.length then a else join ⟨k w.came, w⟩ a) (putK ⟨k w.came, w⟩ acc) := by
        rw [List.foldl_cons, if_neg hl, ej]
      rw [step]
      refine stop_fold hs.2 fun x hx v hv => ?_
      rcases putK_came hx with e | ⟨y, hy, e⟩
      · rw [e]
        exact hs.1 v hv
      · rw [e]
        exact ha y hy v (List.mem_cons_of_mem _ hv)
theorem putAll_inOrder {k : Came → List Nat} : ∀ {ws : List Way} {acc : List Keyed}, InOrderW ws → InOrderW (acc.map (·.way)) → (∀ x ∈ acc, ∀ w ∈ ws, earlier x.way.came w.came = true) → InOrderW ((putAll k acc ws).map (·.way))
  | [], _, _, h, _ => h
  | w :: ws, acc, hs, h, ha => by
    replace hs := List.pairwise_cons.mp hs
    refine putAll_inOrder (ws := ws) (acc := putK ⟨k w.came, w⟩ acc) hs.2 (putK_inOrder h fun x hx => ha x hx w (List.mem_cons_self ..)) fun x hx v hv => ?_
    rcases putK_came hx with e | ⟨y, hy, e⟩
    · rw [e]
      exact hs.1 v hv
    · rw [e]
      exact ha y hy v (List.mem_cons_of_mem _ hv)
theorem putAll_came {k : Came → List Nat} : ∀ {ws : List Way} {acc : List Keyed} {y : Keyed}, y ∈ putAll k acc ws → (∃ w ∈ ws, y.way.came = w.came) ∨ ∃ x ∈ acc, y.way.came = x.way.came
  | [], _, y, h => .inr ⟨y, h, rfl⟩
  | w :: ws, acc, y, h => by
    rcases putAll_came (ws := ws) (acc := putK ⟨k w.came, w⟩ acc) h with ⟨v, hv, e⟩ | ⟨x, hx, e⟩
    · exact .inl ⟨v, List.mem_cons_of_mem _ hv, e⟩
    · rcases putK_came hx with e2 | ⟨z, hz, e2⟩
      · exact .inl ⟨w, List.mem_cons_self .., e.trans e2⟩
      · exact .inr ⟨z, hz, e.trans e2⟩

theorem onward_len {x : Question} {w v : Way} (h : v ∈ onward x w) : v.came.length = w.came.length + 1 := by
  unfold onward at h
  split at h
  · obtain ⟨o, _, rfl⟩ := List.mem_map.mp h
    simp
  · rw [List.mem_singleton] at h
    subst h
    simp
theorem onward_pre {x : Question} {w v : Way} (h : v ∈ onward x w) : ∃ o, v.came = w.came ++ [o] := by
  unfold onward at h
  split at h
  · obtain ⟨o, _, rfl⟩ := List.mem_map.mp h
    exact ⟨o, rfl⟩
  · rw [List.mem_singleton] at h
    subst h
    exact ⟨NOT, rfl⟩
theorem onward_inOrder (x : Question) (w : Way) : InOrderW (onward x w) := by
  unfold onward
  split
  · rw [InOrderW, List.pairwise_map]
    exact List.pairwise_lt_range.imp fun h => earlier_snoc _ h
  · exact List.pairwise_singleton _ _
theorem flat_inOrder {x : Question} {ws : List Way} (h : InOrderW ws) : InOrderW (ws.flatMap (onward x)) := by
  rw [InOrderW, List.pairwise_flatMap]
  refine ⟨fun w _ => onward_inOrder x w, h.imp fun {a b} hab u hu v hv => ?_⟩
  obtain ⟨o, eu⟩ := onward_pre hu
  obtain ⟨o', ev⟩ := onward_pre hv
  rw [eu, ev]
  exact earlier_append _ _ hab

/-- what tells apart, behind the question at place n: the questions that rest looks at -/
def keyAt (rest : Form) (n : Nat) : Came → List Nat := matters ((List.range (n + 1)).map (lookedAt rest))
/-- the ways behind one question more -/
def onAll (x : Question) (rest : Form) (n : Nat) (ws : List Way) : List Keyed := putAll (keyAt rest n) [] (ws.flatMap (onward x))
structure WaysOk (n : Nat) (ws : List Way) : Prop where
  len : ∀ w ∈ ws, w.came.length = n
  ord : InOrderW ws
theorem WaysOk.on {n : Nat} {ws : List Way} (h : WaysOk n ws) (x : Question) (rest : Form) : WaysOk (n + 1) ((onAll x rest n ws).map (·.way)) := by
  refine ⟨fun w hw => ?_, putAll_inOrder (flat_inOrder h.ord) List.Pairwise.nil fun x hx => by cases hx⟩
  obtain ⟨y, hy, rfl⟩ := List.mem_map.mp hw
  rcases putAll_came hy with ⟨v, hv, e⟩ | ⟨z, hz, _⟩
  · rw [e]
    obtain ⟨u, hu, hv⟩ := List.mem_flatMap.mp hv
    rw [onward_len hv, h.len u hu]
  · cases hz
theorem through_cons {n : Nat} {ws : List Way} (h : WaysOk n ws) (x : Question) (f rest : Form) : through (x :: f) rest ws =
    if 300 < (onAll x rest n ws).length then none else through f (rest.drop 1) ((onAll x rest n ws).map (·.way)) := by
  have hl : ∀ w ∈ ws.flatMap (onward x), w.came.length = n + 1 := fun w hw => by
    obtain ⟨u, hu, hv⟩ := List.mem_flatMap.mp hw
    rw [onward_len hv, h.len u hu]
  have sf := stop_fold (k := keyAt rest n) (ws := ws.flatMap (onward x)) (acc := []) (flat_inOrder h.ord) (fun x hx => by cases hx)
  have lk : through (x :: f) rest ws = if STATES < ((ws.flatMap (onward x)).foldl (fun (a : List Keyed) (w : Way) => if STATES < a.length then a else join ⟨keyAt rest n w.came, w⟩ a) []).length then none
      else through f (rest.drop 1) (((ws.flatMap (onward x)).foldl (fun (a : List Keyed) (w : Way) => if STATES < a.length then a else join ⟨keyAt rest n w.came, w⟩ a) []).map fun k => k.way) := by
    rw [through]
    generalize ws.flatMap (onward x) = new at hl ⊢
    cases new with
    | nil => rfl
    | cons w new =>
      have e := hl w (List.mem_cons_self ..)
      simp only [e]
      rfl
  rw [lk]
  by_cases hc : 300 < (onAll x rest n ws).length
  · rw [if_pos hc, if_pos (sf.1 hc)]
  · have e := sf.2 hc
    rw [e, if_neg (show ¬ STATES < (putAll (keyAt rest n) [] (ws.flatMap (onward x))).length from hc), if_neg hc]
    rfl

/-! ### what is told apart -/
theorem matters_eq : ∀ (l : List Bool) (a b : Came), a.length = l.length → b.length = l.length → (matters l a = matters l b ↔ ∀ (i : Nat), l[i]? = some true → a[i]? = b[i]?)
  | [], [], [], _, _ => by simp [matters]
  | c :: l, x :: a, y :: b, h1, h2 => by
    have ih := matters_eq l a b (by simpa using h1) (by simpa using h2)
    simp only [matters, List.cons.injEq]
    constructor
    · rintro ⟨e1, e2⟩ i hi
      cases i with
      | zero =>
        have : c = true := by simpa using hi
        subst this
        simpa using e1
      | succ i => simpa using ih.mp e2 i (by simpa using hi)
    · intro h
      refine ⟨?_, ih.mpr fun i hi => by simpa using h (i + 1) (by simpa using hi)⟩
      cases c with
      | false => rfl
      | true => simpa using h 0 rfl
  | _ :: _, [], _, h, _ => by simp at h
  | _ :: _, _ :: _, [], _, h => by simp at h
  | [], _ :: _, _, h, _ => by simp at h
  | [], [], _ :: _, _, h => by simp at h
theorem keyAt_eq {rest : Form} {n : Nat} {a b : Came} (ha : a.length = n + 1) (hb : b.length = n + 1) : keyAt rest n a = keyAt rest n b ↔ ∀ i : Nat, i ≤ n → lookedAt rest i = true → a[i]? = b[i]? := by
  unfold keyAt
  rw [matters_eq _ _ _ (by simp [ha]) (by simp [hb])]
  constructor
  · intro h i hi hl
    refine h i ?_
    rw [List.getElem?_map, List.getElem?_range (by omega)]
    simp [hl]
  · intro h i hi
    rw [List.getElem?_map] at hi
    by_cases hn : i < n + 1
    · rw [List.getElem?_range hn] at hi
      exact h i (by omega) (by simpa using hi)
    · rw [List.getElem?_eq_none (by simp; omega)] at hi
      cases hi

/-! ### the calls -/
theorem start_ok : WaysOk 0 [⟨[], 0⟩] := ⟨fun w hw => by rw [List.mem_singleton] at hw; rw [hw]; rfl, List.pairwise_singleton _ _⟩
theorem through_ok : ∀ (f rest : Form) (n : Nat) (ws vs : List Way), WaysOk n ws → through f rest ws = some vs → WaysOk (n + f.length) vs
  | [], rest, n, ws, vs, h, e => by
    cases e
    exact h
  | x :: f, rest, n, ws, vs, h, e => by
    rw [through_cons h] at e
    split at e
    · cases e
    · have := through_ok f _ (n + 1) _ vs (h.on x rest) e
      simp only [List.length_cons]
      rw [show n + (f.length + 1) = n + 1 + f.length by omega]
      exact this
theorem waysTo_ok {f : Form} {k : Nat} {ws : List Way} (hk : k ≤ f.length) (e : waysTo f k = some ws) : WaysOk k ws := by
  have := through_ok _ _ 0 _ ws start_ok e
  rw [List.length_take, Nat.min_eq_left hk, Nat.zero_add] at this
  exact this
theorem least_find {ws : List Way} (h : InOrderW ws) (p : Way → Bool) : least ((ws.filter p).map fun w => w.came) = (ws.find? p).map (·.came) := by
  have hs : InOrder ((ws.filter p).map fun w => w.came) := by
    rw [InOrder, List.pairwise_map]
    exact h.sublist List.filter_sublist
  rw [least_inOrder hs, List.head?_map, List.head?_filter]
end Aj
end
section
/-! The calls of a line, played. -/
namespace Aj
open Kp201

/-- a row of conditions, read off a list of numbers -/
def litsOf (r : List Int) : List Literal := (Kp201Neutral.chunks 2 r).map fun l => ⟨(l.getD 0 0).toNat, (l.getD 1 0).toNat⟩
theorem chunksBy_two : ∀ (f : Nat) (r : List Int) (i : Nat) (m : Nat), r.length = 2 * m → m ≤ f → i < m → (Kp201Neutral.chunksBy 2 f r)[i]? = some [r.getD (2 * i) 0, r.getD (2 * i + 1) 0]
  | 0, r, i, m, _, h2, h3 => by omega
  | f + 1, r, i, m, h1, h2, h3 => by
    match r, h1 with
    | [], h1 => simp only [List.length_nil] at h1; omega
    | [_], h1 => simp only [List.length_cons, List.length_nil] at h1; omega
    | x :: y :: r, h1 =>
      simp only [Kp201Neutral.chunksBy, List.isEmpty_cons, Bool.false_eq_true, if_false]
      cases i with
      | zero => rfl
      | succ i =>
        have ih := chunksBy_two f r i (m - 1) (by simp only [List.length_cons] at h1; omega) (by omega) (by omega)
        rw [List.getElem?_cons_succ]
        show (Kp201Neutral.chunksBy 2 f r)[i]? = _
        rw [ih, show 2 * (i + 1) = 2 * i + 2 by omega]
        rfl
theorem chunksBy_len : ∀ (f : Nat) (r : List Int) (m : Nat), r.length = 2 * m → m ≤ f → (Kp201Neutral.chunksBy 2 f r).length = m
  | 0, r, m, h1, h2 => by
    have : m = 0 := by omega
    subst this
    rfl
  | f + 1, r, m, h1, h2 => by
    match r, h1 with
    | [], h1 =>
      have : m = 0 := by simp only [List.length_nil] at h1; omega
      subst this
      rfl
    | [_], h1 => simp only [List.length_cons, List.length_nil] at h1; omega
    | x :: y :: r, h1 =>
      simp only [Kp201Neutral.chunksBy, List.isEmpty_cons, Bool.false_eq_true, if_false, List.length_cons]
      show (Kp201Neutral.chunksBy 2 f r).length + 1 = m
      rw [chunksBy_len f r (m - 1) (by simp only [List.length_cons] at h1; omega) (by omega)]
      simp only [List.length_cons] at h1
      omega
theorem litsOf_at {r : List Int} {i m : Nat} (h1 : r.length = 2 * m) (hi : i < m) : (litsOf r)[i]? = some ⟨(r.getD (2 * i) 0).toNat, (r.getD (2 * i + 1) 0).toNat⟩ := by
  unfold litsOf Kp201Neutral.chunks
  rw [List.getElem?_map, chunksBy_two _ _ i m h1 (by omega) hi]
  rfl
theorem litsOf_len {r : List Int} {m : Nat} (h1 : r.length = 2 * m) : (litsOf r).length = m := by
  unfold litsOf Kp201Neutral.chunks
  rw [List.length_map, chunksBy_len _ _ m h1 (by omega)]

/-- a call by its numbers -/
def callOf : List (List Int) → Kp201.Call
  | [[0]] => .begin_
  | [[1, n]] => .question n.toNat
  | [[2, q], r] => .need q.toNat (litsOf r)
  | [[3]] => .next
  | [[4, q, o]] => .answer q.toNat o.toNat
  | [[5, q]] => .forget q.toNat
  | [[6]] => .result
  | [[7, q]] => .ever q.toNat
  | [[8, q]] => .always q.toNat
  | _ => .most
theorem step_call {s : Kp201.State} {c : List (List Int)} (h : Sh c) : Kp201Neutral.step s c = ((Kp201.step s (callOf c)).1, outI (Kp201.step s (callOf c)).2) := by
  cases h <;> rfl

theorem step_some (h : House) (c : Kp201.Call) : ∃ h' a, Kp201.step (some h) c = (some h', a) := by
  cases c with
  | begin_ => exact ⟨_, _, rfl⟩
  | question n =>
    simp only [Kp201.step]
    split
    · exact ⟨_, _, rfl⟩
    · split <;> exact ⟨_, _, rfl⟩
  | need q ls =>
    simp only [Kp201.step]
    split
    · exact ⟨_, _, rfl⟩
    · split
      · exact ⟨_, _, rfl⟩
      · split <;> exact ⟨_, _, rfl⟩
  | next => exact ⟨_, _, rfl⟩
  | answer q o =>
    simp only [Kp201.step]
    split
    · exact ⟨_, _, rfl⟩
    · split
      · exact ⟨_, _, rfl⟩
      · split <;> exact ⟨_, _, rfl⟩
  | forget q =>
    simp only [Kp201.step]
    split
    · exact ⟨_, _, rfl⟩
    · split <;> exact ⟨_, _, rfl⟩
  | result => exact ⟨_, _, rfl⟩
  | ever q => exact ⟨_, _, rfl⟩
  | always q => exact ⟨_, _, rfl⟩
  | most => exact ⟨_, _, rfl⟩

theorem filter_two : ∀ (l : List Nat) (f : Nat → Nat), (l.flatMap fun q => [q, f q]).length = 2 * l.length
  | [], _ => rfl
  | a :: l, f => by
    rw [List.flatMap_cons, List.length_append, filter_two l f]
    simp only [List.length_cons, List.length_nil]
    omega
/-- no answer is long -/
theorem out_len {h : House} (g : GoodH h) (c : Kp201.Call) : (outI (Kp201.step (some h) c).2).length ≤ 50 := by
  have hf := g.size
  have one : ∀ v : Int, (outI (say v)).length ≤ 50 := fun v => by simp [outI, say, Kp201Neutral.outs]
  have ways : ∀ (q : Nat) (p : Way → Bool) (ws : List Way) (z : Came), q < h.form.length → waysTo h.form q = some ws → least ((ws.filter p).map fun w => w.came) = some z → z.length ≤ 24 := fun q p ws z hq e1 e2 => by
    have ok := waysTo_ok (Nat.le_of_lt hq) e1
    rw [least_find ok.ord] at e2
    cases e3 : ws.find? p with
    | none => rw [e3] at e2; cases e2
    | some y =>
      rw [e3] at e2
      have e4 : y.came = z := Option.some.inj e2
      have := ok.len y (List.mem_of_find?_eq_some e3)
      rw [← e4]
      omega
  cases c with
  | begin_ => exact one _
  | question n =>
    simp only [Kp201.step]
    split
    · exact one _
    · split <;> exact one _
  | need q ls =>
    simp only [Kp201.step]
    split
    · exact one _
    · split
      · exact one _
      · split <;> exact one _
  | next =>
    simp only [Kp201.step]
    split
    · simp [outI, Kp201Neutral.outs]
    · exact one _
  | answer q o =>
    simp only [Kp201.step]
    split
    · exact one _
    · split
      · exact one _
      · split <;> exact one _
  | forget q =>
    simp only [Kp201.step]
    split
    · exact one _
    · split <;> exact one _
  | result =>
    simp only [Kp201.step, outI, Kp201Neutral.outs, List.length_cons, List.length_map]
    rw [filter_two]
    have := List.length_filter_le (fun q => (now h).getD q NOT != NOT && (now h).getD q NOT != UNANSWERED) (List.range (now h).length)
    rw [List.length_range, now_len] at this
    rw [now_len]
    omega
  | ever q =>
    simp only [Kp201.step]
    cases hx : h.form[q]? with
    | none => exact one _
    | some x =>
      have hq := (List.getElem?_eq_some_iff.mp hx).1
      cases hw : waysTo h.form q with
      | none => exact one _
      | some ws =>
        dsimp only
        cases hl : least ((ws.filter fun w => asked w.came x).map fun w => w.came) with
        | none => exact one _
        | some z =>
          have := ways q _ ws z hq hw hl
          simp only [outI, Kp201Neutral.outs, List.length_cons, List.length_map]
          omega
  | always q =>
    simp only [Kp201.step]
    cases hx : h.form[q]? with
    | none => exact one _
    | some x =>
      have hq := (List.getElem?_eq_some_iff.mp hx).1
      cases hw : waysTo h.form q with
      | none => exact one _
      | some ws =>
        dsimp only
        cases hl : least ((ws.filter fun w => !asked w.came x).map fun w => w.came) with
        | none => exact one _
        | some z =>
          have := ways q _ ws z hq hw hl
          simp only [outI, Kp201Neutral.outs, List.length_cons, List.length_map]
          omega
  | most =>
    simp only [Kp201.step]
    split <;> exact one _

/-- the rest of a line, from a form that stands -/
def restOut (h : House) (cs : List (List (List Int))) : List Int := PyFlat.told (PyFlat.played Kp201Neutral.step (some h) cs)
theorem restOut_cons {h h' : House} {c : List (List Int)} {cs : List (List (List Int))} {a : Ans} (hc : Sh c) (e : Kp201.step (some h) (callOf c) = (some h', a)) : restOut h (c :: cs) = ((outI a).length : Int) :: (outI a ++ restOut h' cs) := by
  unfold restOut
  rw [PyFlat.played, step_call hc, e, told_cons]
  rfl
theorem start_any {cs : List (List (List Int))} (h : Kp201Neutral.begins cs = true) : PyFlat.told (PyFlat.played Kp201Neutral.step Kp201Neutral.start cs) = restOut ⟨[], []⟩ cs := by
  match cs, h with
  | [[0]] :: cs, _ => rfl

/-- what a call's numbers are -/
theorem asked_nat {z : Int} (h : Kp201Neutral.natural z 32 = true) : ∃ n : Nat, z = (n : Int) := by
  simp only [Kp201Neutral.natural, Bool.and_eq_true, decide_eq_true_eq] at h
  exact ⟨z.toNat, by omega⟩
theorem asked_row {q : Int} {r : List Int} (h : Kp201Neutral.asked1 [[2, q], r] = true) : (∃ n : Nat, q = (n : Int)) ∧ (∃ m, r.length = 2 * m ∧ m ≤ 10) ∧ ∀ z ∈ r, 0 ≤ z := by
  simp only [Kp201Neutral.asked1, Bool.and_eq_true, decide_eq_true_eq, List.all_eq_true] at h
  obtain ⟨h1, h2, h3, h4⟩ := h
  refine ⟨asked_nat h1, ⟨r.length / 2, by omega, by omega⟩, fun z hz => ?_⟩
  have := h4 z hz
  simp only [Kp201Neutral.natural, Bool.and_eq_true, decide_eq_true_eq] at this
  exact this.1
theorem flat_pos {c : List (List Int)} (h : Sh c) : 1 ≤ (flat c).length := by cases h <;> simp [flat]
end Aj
end
section
/-! A row of what comes as one number, nine bits a question; needs and names likewise. -/
namespace Aj
open Kp201

theorem shl_bit (s n j : Nat) : (s * 2 ^ n).testBit j = (decide (n ≤ j) && s.testBit (j - n)) := by
  rw [← Nat.shiftLeft_eq, Nat.testBit_shiftLeft]
theorem placed_bit {s : Nat} (hs : s < 512) (q j : Nat) : (s * 2 ^ (9 * q)).testBit j = (q == j / 9 && s.testBit (j % 9)) := by
  rw [shl_bit]
  by_cases h : q = j / 9
  · have e : j - 9 * q = j % 9 := by omega
    have e2 : 9 * q ≤ j := by omega
    rw [decide_eq_true e2, e, beq_iff_eq.mpr h]
  · rw [beq_eq_false_iff_ne.mpr h, Bool.false_and]
    by_cases h2 : 9 * q ≤ j
    · have h3 : 9 ≤ j - 9 * q := by omega
      rw [Nat.testBit_lt_two_pow (Nat.lt_of_lt_of_le (show s < 2 ^ 9 from hs) (Nat.pow_le_pow_right (by decide) h3)), Bool.and_false]
    · rw [decide_eq_false h2, Bool.false_and]

/-- what comes of questions, as one number -/
def Rep (c : Came) (R : Nat) : Prop := ∀ j, R.testBit j = decide (c[j / 9]? = some (j % 9))
theorem rep_nil : Rep [] 0 := fun j => by simp
theorem pow_lt512 {v : Nat} (h : v ≤ 8) : 2 ^ v < 512 := Nat.lt_of_le_of_lt (Nat.pow_le_pow_right (by decide) h) (by decide)
theorem rep_snoc {c : Came} {R v : Nat} (h : Rep c R) (hv : v ≤ 8) : Rep (c ++ [v]) (R ||| 2 ^ v * 2 ^ (9 * c.length)) := fun j => by
  rw [Nat.testBit_or, h j, placed_bit (pow_lt512 hv), Nat.testBit_two_pow]
  rw [List.getElem?_append]
  by_cases h1 : j / 9 < c.length
  · rw [if_pos h1, beq_eq_false_iff_ne.mpr (show c.length ≠ j / 9 by omega), Bool.false_and, Bool.or_false]
  · rw [if_neg h1, List.getElem?_eq_none (by omega)]
    by_cases h2 : c.length = j / 9
    · rw [beq_iff_eq.mpr h2, show j / 9 - c.length = 0 by omega]
      simp
    · rw [beq_eq_false_iff_ne.mpr h2, List.getElem?_eq_none (by simp only [List.length_cons, List.length_nil]; omega)]
      simp
theorem rep_wait {c : Came} {R : Nat} (h : Rep c R) : Rep (c ++ [9]) R := fun j => by
  rw [h j, List.getElem?_append]
  by_cases h1 : j / 9 < c.length
  · rw [if_pos h1]
  · rw [if_neg h1, List.getElem?_eq_none (by omega)]
    by_cases h2 : c.length = j / 9
    · rw [show j / 9 - c.length = 0 by omega]
      have : ¬ 9 = j % 9 := by omega
      simp [this]
    · rw [List.getElem?_eq_none (by simp only [List.length_cons, List.length_nil]; omega)]
theorem rep_at {c : Came} {R q v : Nat} (h : Rep c R) (e : c[q]? = some v) (hv : v ≤ 9) : (R / 2 ^ (9 * q)) &&& 511 = if v = 9 then 0 else 2 ^ v := by
  apply Nat.eq_of_testBit_eq
  intro i
  rw [Nat.testBit_and, show (511 : Nat) = 2 ^ 9 - 1 from rfl, Nat.testBit_two_pow_sub_one, Nat.testBit_div_two_pow, h]
  by_cases hi : i < 9
  · rw [show (i + 9 * q) / 9 = q by omega, show (i + 9 * q) % 9 = i by omega, e, decide_eq_true hi, Bool.and_true]
    by_cases h9 : v = 9
    · rw [if_pos h9, Nat.zero_testBit, h9]
      exact decide_eq_false (by intro z; have := Option.some.inj z; omega)
    · rw [if_neg h9, Nat.testBit_two_pow]
      exact decide_eq_decide.mpr ⟨fun z => Option.some.inj z, fun z => by rw [z]⟩
  · rw [decide_eq_false hi, Bool.and_false]
    by_cases h9 : v = 9
    · rw [if_pos h9, Nat.zero_testBit]
    · rw [if_neg h9, Nat.testBit_two_pow]
      exact (decide_eq_false (by omega)).symm

/-- a need, as one number -/
def NeedRep (N : Nat) (k : List Literal) : Prop := ∀ j, N.testBit j = k.any fun l => l.q == j / 9 && l.set.testBit (j % 9)
def needN (k : List Literal) : Nat := k.foldl (fun a l => a ||| l.set * 2 ^ (9 * l.q)) 0
theorem needN_from : ∀ (k : List Literal) (a j : Nat), (∀ l ∈ k, l.set < 512) → (k.foldl (fun a l => a ||| l.set * 2 ^ (9 * l.q)) a).testBit j = (a.testBit j || k.any fun l => l.q == j / 9 && l.set.testBit (j % 9))
  | [], a, j, _ => by simp
  | l :: k, a, j, h => by
    rw [List.foldl_cons, needN_from k _ j fun x hx => h x (List.mem_cons_of_mem _ hx), Nat.testBit_or, placed_bit (h l (List.mem_cons_self ..)), List.any_cons, Bool.or_assoc]
theorem needN_rep {k : List Literal} (h : ∀ l ∈ k, l.set < 512) : NeedRep (needN k) k := fun j => by
  unfold needN
  rw [needN_from k 0 j h, Nat.zero_testBit, Bool.false_or]
theorem needN_snoc (k : List Literal) (l : Literal) : needN (k ++ [l]) = needN k ||| l.set * 2 ^ (9 * l.q) := by
  unfold needN
  rw [List.foldl_append]
  rfl
theorem and_ne_zero {a b : Nat} : (a &&& b ≠ 0) ↔ ∃ j, a.testBit j = true ∧ b.testBit j = true := by
  constructor
  · intro h
    obtain ⟨j, hj⟩ := Nat.exists_testBit_of_ne_zero h
    rw [Nat.testBit_and, Bool.and_eq_true] at hj
    exact ⟨j, hj⟩
  · rintro ⟨j, h1, h2⟩ z
    have := congrArg (fun n => Nat.testBit n j) z
    simp only [Nat.testBit_and, h1, h2, Nat.zero_testBit] at this
    cases this
theorem met_bits {c : Came} {R N : Nat} {k : List Literal} (h : Rep c R) (hN : NeedRep N k) (hs : ∀ l ∈ k, l.set < 512) : decide (R &&& N ≠ 0) = k.any (holds c) := by
  rw [Bool.eq_iff_iff, decide_eq_true_eq, and_ne_zero, List.any_eq_true]
  constructor
  · rintro ⟨j, h1, h2⟩
    rw [h j, decide_eq_true_eq] at h1
    rw [hN j, List.any_eq_true] at h2
    obtain ⟨l, hl, h3⟩ := h2
    rw [Bool.and_eq_true, beq_iff_eq] at h3
    refine ⟨l, hl, ?_⟩
    unfold holds
    rw [h3.1, h1]
    dsimp only
    rw [if_neg (show ¬ j % 9 = UNANSWERED from by show ¬ j % 9 = 9; omega)]
    exact h3.2
  · rintro ⟨l, hl, h3⟩
    unfold holds at h3
    cases e : c[l.q]? with
    | none => rw [e] at h3; cases h3
    | some x =>
      rw [e] at h3
      dsimp only at h3
      split at h3
      · cases h3
      · have hx : x < 9 := by
          rcases Nat.lt_or_ge x 9 with z | z
          · exact z
          · rw [Nat.testBit_lt_two_pow (Nat.lt_of_lt_of_le (show l.set < 2 ^ 9 from hs l hl) (Nat.pow_le_pow_right (by decide) z))] at h3
            cases h3
        refine ⟨9 * l.q + x, ?_, ?_⟩
        · rw [h, show (9 * l.q + x) / 9 = l.q by omega, show (9 * l.q + x) % 9 = x by omega, e]
          simp
        · rw [hN, List.any_eq_true]
          refine ⟨l, hl, ?_⟩
          rw [show (9 * l.q + x) / 9 = l.q by omega, show (9 * l.q + x) % 9 = x by omega, h3]
          simp

/-- the questions that a need names, as one number -/
def full (k : List Literal) : List Literal := k.map fun l => ⟨l.q, 511⟩
def NameRep (N : Nat) (x : Question) : Prop := ∀ j, N.testBit j = x.clauses.any fun k => k.any fun l => l.q == j / 9
theorem full_set {k : List Literal} : ∀ l ∈ full k, l.set < 512 := fun l hl => by
  obtain ⟨x, _, rfl⟩ := List.mem_map.mp hl
  exact (by decide : 511 < 512)
theorem bit511 (j : Nat) : (511 : Nat).testBit (j % 9) = true := by
  rw [show (511 : Nat) = 2 ^ 9 - 1 from rfl, Nat.testBit_two_pow_sub_one]
  exact decide_eq_true (by omega)
theorem full_bit (k : List Literal) (j : Nat) : (needN (full k)).testBit j = k.any fun l => l.q == j / 9 := by
  rw [needN_rep full_set j]
  unfold full
  rw [List.any_map]
  congr 1
  funext l
  show (l.q == j / 9 && (511 : Nat).testBit (j % 9)) = _
  rw [bit511, Bool.and_true]
theorem name_nil {n : Nat} : NameRep 0 ⟨n, []⟩ := fun j => by simp
theorem name_snoc {N : Nat} {x : Question} {k : List Literal} (h : NameRep N x) : NameRep (N ||| needN (full k)) { x with clauses := x.clauses ++ [k] } := fun j => by
  rw [Nat.testBit_or, h j, full_bit]
  simp

/-- all that the questions behind name -/
def NamedRep (N : Nat) (rest : Form) : Prop := ∀ j, N.testBit j = lookedAt rest (j / 9)
theorem named_nil : NamedRep 0 [] := fun j => by simp [lookedAt]
theorem named_snoc {N M : Nat} {f : Form} {x : Question} (h : NamedRep N f) (hx : NameRep M x) : NamedRep (N ||| M) (f ++ [x]) := fun j => by
  rw [Nat.testBit_or, h j, hx j]
  simp [lookedAt]

/-! ### alike -/
def Le8 (c : Came) : Prop := ∀ v ∈ c, v ≤ 8
theorem key_bits {N : Nat} {rest : Form} {n : Nat} {a b : Came} {A B : Nat} (hN : NamedRep N rest) (ha : Rep a A) (hb : Rep b B) (la : a.length = n + 1) (lb : b.length = n + 1) (a8 : Le8 a) :
    A &&& N = B &&& N ↔ keyAt rest n a = keyAt rest n b := by
  rw [keyAt_eq la lb]
  constructor
  · intro h i hi hl
    have hia : i < a.length := by omega
    have ea : a[i]? = some a[i] := List.getElem?_eq_getElem hia
    have hv := a8 a[i] (List.getElem_mem hia)
    have q := congrArg (fun z => Nat.testBit z (9 * i + a[i])) h
    simp only [Nat.testBit_and] at q
    rw [hN, ha, hb, show (9 * i + a[i]) / 9 = i by omega, show (9 * i + a[i]) % 9 = a[i] by omega, hl, Bool.and_true, Bool.and_true, decide_eq_true ea] at q
    rw [ea]
    exact (of_decide_eq_true q.symm).symm
  · intro h
    apply Nat.eq_of_testBit_eq
    intro j
    rw [Nat.testBit_and, Nat.testBit_and, hN]
    by_cases hl : lookedAt rest (j / 9) = true
    · rw [hl, Bool.and_true, Bool.and_true, ha, hb]
      by_cases hj : j / 9 ≤ n
      · rw [h _ hj hl]
      · rw [List.getElem?_eq_none (by omega), List.getElem?_eq_none (by omega)]
    · rw [Bool.not_eq_true] at hl
      rw [hl, Bool.and_false, Bool.and_false]

/-! ### one question more -/
theorem through_snoc (x : Question) : ∀ (f rest : Form) (ws : List Way), through (f ++ [x]) rest ws = (through f rest ws).bind fun vs => through [x] (rest.drop f.length) vs
  | [], rest, ws => rfl
  | y :: f, rest, ws => by
    obtain ⟨b, db, vs, key⟩ : ∃ (b : Prop) (_ : Decidable b) (vs : List Way), ∀ F : Form, through (y :: F) rest ws = if b then none else through F (rest.drop 1) vs := ⟨_, _, _, fun F => rfl⟩
    rw [List.cons_append, key, key]
    by_cases c : b
    · rw [if_pos c, if_pos c]
      rfl
    · have e : rest.drop (f.length + 1) = (rest.drop 1).drop f.length := by rw [List.drop_drop, Nat.add_comm 1]
      rw [if_neg c, if_neg c, through_snoc x f, List.length_cons, e]
theorem waysTo_succ {f : Form} {k : Nat} {x : Question} (hx : f[k]? = some x) : waysTo f (k + 1) = (waysTo f k).bind fun ws => if 300 < (onAll x (f.drop (k + 1)) k ws).length then none else some ((onAll x (f.drop (k + 1)) k ws).map (·.way)) := by
  have hk : k < f.length := (List.getElem?_eq_some_iff.mp hx).1
  unfold waysTo
  rw [take_snoc' hx, through_snoc, List.length_take, Nat.min_eq_left (Nat.le_of_lt hk), List.drop_drop, Nat.add_comm 1]
  cases e : through (f.take k) (f.drop 1) [⟨[], 0⟩] with
  | none => rfl
  | some ws =>
    have ok : WaysOk k ws := waysTo_ok (f := f) (Nat.le_of_lt hk) e
    show through [x] (f.drop (k + 1)) ws = _
    rw [through_cons ok]
    rfl
theorem waysTo_zero (f : Form) : waysTo f 0 = some [⟨[], 0⟩] := rfl
theorem waysTo_none {f : Form} : ∀ {k m : Nat}, k ≤ m → m ≤ f.length → waysTo f k = none → waysTo f m = none
  | k, m, h, hm, e => by
    induction m with
    | zero =>
      have : k = 0 := by omega
      subst this
      exact e
    | succ m ih =>
      by_cases c : k = m + 1
      · subst c; exact e
      · rw [waysTo_succ (List.getElem?_eq_getElem (show m < f.length by omega)), ih (by omega) (by omega)]
        rfl

/-- ways of a form that stands: how long, in order, what may come -/
structure WaysFit (n : Nat) (ws : List Way) : Prop where
  ok : WaysOk n ws
  le : ∀ w ∈ ws, Le8 w.came
  ne : ws ≠ []
  many : ∀ w ∈ ws, w.many ≤ n
theorem onward_fit {x : Question} {w v : Way} (hx : x.options ≤ 8) (hw : Le8 w.came) (h : v ∈ onward x w) : Le8 v.came ∧ v.many ≤ w.many + 1 := by
  unfold onward at h
  split at h
  · obtain ⟨o, ho, rfl⟩ := List.mem_map.mp h
    refine ⟨fun u hu => ?_, Nat.le_refl _⟩
    rcases List.mem_append.mp hu with z | z
    · exact hw u z
    · have := List.mem_range.mp ho
      rw [List.mem_singleton.mp z]
      omega
  · rw [List.mem_singleton] at h
    subst h
    refine ⟨fun u hu => ?_, Nat.le_succ _⟩
    rcases List.mem_append.mp hu with z | z
    · exact hw u z
    · rw [List.mem_singleton.mp z]
      exact Nat.le_refl 8
theorem onward_ne {x : Question} (hx : 1 ≤ x.options) (w : Way) : onward x w ≠ [] := by
  unfold onward
  split
  · intro z
    have := congrArg List.length z
    rw [List.length_map, List.length_range] at this
    simp at this
    omega
  · simp
theorem putK_many {w : Keyed} {m : Nat} (hw : w.way.many ≤ m) : ∀ {a : List Keyed}, (∀ y ∈ a, y.way.many ≤ m) → ∀ y ∈ putK w a, y.way.many ≤ m
  | [], _, y, h => by
    rw [putK, List.mem_singleton] at h
    rw [h]; exact hw
  | x :: l, ha, y, h => by
    rw [putK] at h
    split at h
    · rcases List.mem_cons.mp h with h | h
      · rw [h]
        exact Nat.max_le.mpr ⟨ha x (List.mem_cons_self ..), hw⟩
      · exact ha y (List.mem_cons_of_mem _ h)
    · rcases List.mem_cons.mp h with h | h
      · rw [h]; exact ha x (List.mem_cons_self ..)
      · exact putK_many hw (fun y hy => ha y (List.mem_cons_of_mem _ hy)) y h
theorem putAll_many {k : Came → List Nat} {m : Nat} : ∀ {ws : List Way} {acc : List Keyed}, (∀ w ∈ ws, w.many ≤ m) → (∀ y ∈ acc, y.way.many ≤ m) → ∀ y ∈ putAll k acc ws, y.way.many ≤ m
  | [], _, _, h, y, hy => h y hy
  | w :: ws, acc, h, ha, y, hy => putAll_many (ws := ws) (acc := putK ⟨k w.came, w⟩ acc) (fun v hv => h v (List.mem_cons_of_mem _ hv)) (putK_many (h w (List.mem_cons_self ..)) ha) y hy
theorem WaysFit.on {n : Nat} {ws : List Way} (h : WaysFit n ws) {x : Question} (h1 : 1 ≤ x.options) (h8 : x.options ≤ 8) (rest : Form) : WaysFit (n + 1) ((onAll x rest n ws).map (·.way)) := by
  refine ⟨h.ok.on x rest, fun w hw => ?_, fun z => ?_, fun w hw => ?_⟩
  · obtain ⟨y, hy, rfl⟩ := List.mem_map.mp hw
    rcases putAll_came hy with ⟨v, hv, e⟩ | ⟨z, hz, _⟩
    · obtain ⟨u, hu, hv⟩ := List.mem_flatMap.mp hv
      rw [e]
      exact (onward_fit h8 (h.le u hu) hv).1
    · cases hz
  · have z2 : (onAll x rest n ws).length = 0 := by rw [← List.length_map (f := fun y : Keyed => y.way), z]; rfl
    cases hw : ws with
    | nil => exact h.ne hw
    | cons w ws' =>
      have hne : ws.flatMap (onward x) ≠ [] := by
        rw [hw, List.flatMap_cons]
        intro z3
        exact onward_ne h1 w (List.append_eq_nil_iff.mp z3).1
      unfold onAll at z2
      cases hf : ws.flatMap (onward x) with
      | nil => exact hne hf
      | cons v vs =>
        rw [hf] at z2
        have e : putAll (keyAt rest n) [] (v :: vs) = putAll (keyAt rest n) (putK ⟨keyAt rest n v.came, v⟩ []) vs := rfl
        rw [e] at z2
        have := putAll_len (k := keyAt rest n) (ws := vs) (acc := putK ⟨keyAt rest n v.came, v⟩ [])
        rw [z2] at this
        simp [putK] at this
  · obtain ⟨y, hy, rfl⟩ := List.mem_map.mp hw
    refine putAll_many (fun v hv => ?_) (fun z hz => by cases hz) y hy
    obtain ⟨u, hu, hv⟩ := List.mem_flatMap.mp hv
    have := (onward_fit h8 (h.le u hu) hv).2
    have := h.many u hu
    omega
theorem fit_zero : WaysFit 0 [⟨[], 0⟩] := by
  refine ⟨start_ok, fun w hw v hv => ?_, by simp, fun w hw => ?_⟩
  · rw [List.mem_singleton] at hw
    rw [hw] at hv
    cases hv
  · rw [List.mem_singleton] at hw
    rw [hw]
    exact Nat.le_refl 0
theorem waysTo_fit {f : Form} (g : ∀ (i : Nat) (x : Question), f[i]? = some x → 1 ≤ x.options ∧ x.options ≤ 8) : ∀ {k : Nat} {ws : List Way}, k ≤ f.length → waysTo f k = some ws → WaysFit k ws
  | 0, ws, _, e => by
    cases e
    exact fit_zero
  | k + 1, ws, hk, e => by
    have hx : f[k]? = some f[k] := List.getElem?_eq_getElem (by omega)
    rw [waysTo_succ hx] at e
    cases e1 : waysTo f k with
    | none => rw [e1] at e; cases e
    | some vs =>
      rw [e1] at e
      have e2 : (if 300 < (onAll f[k] (f.drop (k + 1)) k vs).length then none else some ((onAll f[k] (f.drop (k + 1)) k vs).map (·.way))) = some ws := e
      split at e2
      · cases e2
      · have e3 := Option.some.inj e2
        rw [← e3]
        exact (waysTo_fit g (by omega) e1).on (g k _ hx).1 (g k _ hx).2 _
end Aj
end
section
set_option Elab.async false
set_option linter.all false
set_option maxRecDepth 100000
/-! THE HAND LAYER, for ints, bools, texts, own classes, lists, tuples, dicts, comprehensions, walks over dicts, enumerate, zip, reversed, texts, calls, loops. Paste it whole ahead of your own text; what your proof does not reach may be deleted. -/
namespace L2
open PySem PySem.Spec PyProof.Rows
/-- a key: an int or a str -/
abbrev Key := Sum Int Str
def keyIs : Key → Value → Bool
  | .inl k, v => Value.isInt k v
  | .inr x, v => Value.isStrOf x v
def keyH (w : World) : Key → Int
  | .inl k => hashInt k
  | .inr x => hashStr w x
theorem keyIs_shape : ∀ {k : Key} {v : Value}, keyIs k v = true → (∃ i t, k = Sum.inl i ∧ v = Value.int i t) ∨ (∃ x t, k = Sum.inr x ∧ v = Value.str x t)
  | .inl i, v, h => by
    obtain ⟨t, e⟩ := Value.isInt_shape (k := i) (v := v) h
    exact .inl ⟨i, t, rfl, e⟩
  | .inr x, v, h => by
    obtain ⟨t, e⟩ := Value.isStrOf_shape (x := x) (v := v) h
    exact .inr ⟨x, t, rfl, e⟩
theorem keyIs_int (i : Int) (t : Tok) : keyIs (.inl i) (.int i t) = true := by simp [keyIs, Value.isInt]
theorem keyIs_str (x : Str) (t : Tok) : keyIs (.inr x) (.str x t) = true := by simp [keyIs, Value.isStrOf]
theorem key_ll (a b : Int) : decide ((Sum.inl a : Key) = Sum.inl b) = (a == b) := by
  by_cases e : a = b
  · subst e; simp
  · have h : ¬ (Sum.inl a : Key) = Sum.inl b := fun q => e (Sum.inl.inj q)
    rw [decide_eq_false h]
    exact (beq_eq_false_iff_ne.mpr e).symm
theorem key_rr (a b : Str) : decide ((Sum.inr a : Key) = Sum.inr b) = decide (a = b) := by
  by_cases e : a = b
  · subst e; simp
  · have h : ¬ (Sum.inr a : Key) = Sum.inr b := fun q => e (Sum.inr.inj q)
    rw [decide_eq_false h, decide_eq_false e]
theorem key_lr (a : Int) (b : Str) : decide ((Sum.inl a : Key) = Sum.inr b) = false := decide_eq_false (fun q => nomatch q)
theorem key_rl (a : Str) (b : Int) : decide ((Sum.inr a : Key) = Sum.inl b) = false := decide_eq_false (fun q => nomatch q)

def mixKind (prog : Program) (w : World) : PySem.KeyKind prog w Key where
  is := keyIs
  hash := keyH w
  inj := fun v a b ha hb => by
    rcases keyIs_shape ha with ⟨i, t, rfl, rfl⟩ | ⟨x, t, rfl, rfl⟩
    · rcases keyIs_shape hb with ⟨j, u, rfl, e⟩ | ⟨y, u, rfl, e⟩
      · injection e with e1 _; rw [e1]
      · exact nomatch e
    · rcases keyIs_shape hb with ⟨j, u, rfl, e⟩ | ⟨y, u, rfl, e⟩
      · exact nomatch e
      · injection e with e1 _; rw [e1]
  byValue := fun k v h => by
    rcases keyIs_shape h with ⟨i, t, rfl, rfl⟩ | ⟨x, t, rfl, rfl⟩ <;> rfl
  pyHash := fun hv h => by
    rcases keyIs_shape hv with ⟨i, t, rfl, rfl⟩ | ⟨x, t, rfl, rfl⟩
    · exact wpAny_pyHash_int h
    · exact wpAny_pyHash_str h
  eqBool := fun hu hv h => by
    rcases keyIs_shape hu with ⟨i, t, rfl, rfl⟩ | ⟨x, t, rfl, rfl⟩
    · rcases keyIs_shape hv with ⟨j, u, rfl, rfl⟩ | ⟨y, u, rfl, rfl⟩
      · rw [key_ll] at h; exact wpAny_eqBool_int h
      · rw [key_lr] at h; exact SeqAt.EqAt.int_str i t y u _ _ _ _ h
    · rcases keyIs_shape hv with ⟨j, u, rfl, rfl⟩ | ⟨y, u, rfl, rfl⟩
      · rw [key_rl] at h; exact SeqAt.EqAt.str_int x t j u _ _ _ _ h
      · rw [key_rr] at h; exact wpAny_eqBool_str h
  «strs» := fun k x t v h => by
    rcases keyIs_shape h with ⟨i, u, rfl, e⟩ | ⟨y, u, rfl, e⟩
    · exact nomatch e
    · injection e with e1 _
      subst e1
      cases v <;> rfl

theorem mixKind_int (prog : Program) (w : World) (i : Int) (t : Tok) : (mixKind prog w).is (.inl i) (.int i t) = true := keyIs_int i t
theorem mixKind_str (prog : Program) (w : World) (x : Str) (t : Tok) : (mixKind prog w).is (.inr x) (.str x t) = true := keyIs_str x t
end L2
namespace L2
open PySem PySem.Spec PyProof.Rows
/-- a value, without the heap -/
inductive V where
  | non | bl (b : Bool) | int (i : Int) | str (x : Str) | byt (b : Array UInt8) | flt (b : UInt64) | ref (a : Addr) | ty (n : String)
  deriving DecidableEq

def RelV : V → Value → Prop
  | .non, u => u = Value.none
  | .bl b, u => u = Value.bool b
  | .int i, u => ∃ t, u = Value.int i t
  | .str x, u => ∃ t, u = Value.str x t
  | .byt b, u => ∃ t, u = Value.bytes b t
  | .flt b, u => ∃ t, u = Value.float b t
  | .ref a, u => u = Value.ref a
  | .ty n, u => u = Value.type n

abbrev Vals : List V → List Value → Prop := Paired RelV
theorem Vals.length {xs : List V} {us : List Value} (r : Vals xs us) : xs.length = us.length := Paired.length r
theorem Vals.get : ∀ {xs : List V} {us : List Value} {i : Nat} {x : V}, Vals xs us → xs[i]? = some x → ∃ u, us[i]? = some u ∧ RelV x u
  | _, _, _, _, .nil, e => by simp at e
  | _, _, 0, _, .cons r _, e => by simp at e; subst e; exact ⟨_, rfl, r⟩
  | _, _, i + 1, x, .cons _ t, e => by
    obtain ⟨u, h1, h2⟩ := Vals.get (i := i) (x := x) t (by simpa using e)
    exact ⟨u, by simpa using h1, h2⟩
theorem Vals.set {x : V} {u : Value} (r : RelV x u) : ∀ {xs : List V} {us : List Value} (i : Nat), Vals xs us → Vals (xs.set i x) (us.set i u)
  | _, _, _, .nil => .nil
  | _, _, 0, .cons _ t => .cons r t
  | _, _, i + 1, .cons q t => .cons q (Vals.set r i t)
theorem Vals.append : ∀ {xs ys : List V} {us ws : List Value}, Vals xs us → Vals ys ws → Vals (xs ++ ys) (us ++ ws)
  | _, _, _, _, .nil, s => s
  | _, _, _, _, .cons r t, s => .cons r (Vals.append t s)
theorem Vals.take : ∀ {xs : List V} {us : List Value} (n : Nat), Vals xs us → Vals (xs.take n) (us.take n)
  | _, _, 0, _ => .nil
  | _, _, _ + 1, .nil => .nil
  | _, _, n + 1, .cons r t => .cons r (Vals.take n t)
theorem Vals.drop : ∀ {xs : List V} {us : List Value} (n : Nat), Vals xs us → Vals (xs.drop n) (us.drop n)
  | _, _, 0, r => r
  | _, _, _ + 1, .nil => .nil
  | _, _, n + 1, .cons _ t => Vals.drop n t
def RelO : Option V → Option Value → Prop
  | some v, some u => RelV v u
  | none, none => True
  | _, _ => False
def KV {κ : Type} : List (κ × V) → List (κ × Value) → Prop := Paired fun (p : κ × V) (q : κ × Value) => p.1 = q.1 ∧ RelV p.2 q.2

/-- a key of a dict (00_mix): an int or a text -/
def kV : Key → V
  | .inl i => .int i
  | .inr x => .str x

/-- what stands at a tracked address -/
inductive HO where
  /-- a list -/
  | lst (xs : List V)
  /-- a tuple (never changes) -/
  | tup (xs : List V)
  /-- a dict whose keys are ints and texts; one whose keys are tuples of ints and texts (the empty one is both) -/
  | dK (kvs : List (Key × V)) | dT (kvs : List (List Key × V))
  /-- a set of ints: its members, its size -/
  | set (S : Int → Bool) (n : Nat)
  /-- an instance of the class at C, its dict at dx, its attributes -/
  | ins (C dx : Addr) (fs : List (Str × V))
  /-- the dict of the instance at x -/
  | own (x : Addr)
  /-- the dict of an exception -/
  | xd (fs : List (Str × V))
  /-- a bound method, f of x -/
  | met (f x : Addr)
  /-- a range object lo, lo + 1, .. below hi -/
  | rng (lo hi : Int)
  /-- a thing that is known to the object (the script; a dict while a loop walks it): read, never written while it is so -/
  | frz (o : Obj) (u : HO)
  /-- a code object's table -/
  | tbl (ps : Array Value)
  /-- any other thing, by what is true of its one object (a def of one's own: SetO a S n := HO.ext fun h => ..) -/
  | ext (φ : Heap → Prop)

abbrev Hp := Addr → Option HO
def upd (H : Hp) (a : Addr) (o : HO) : Hp := fun b => if b = a then some o else H b
theorem upd_same {H : Hp} {a : Addr} {o : HO} : upd H a o a = some o := by unfold upd; rw [if_pos rfl]
theorem upd_ne {H : Hp} {a b : Addr} {o : HO} (h : b ≠ a) : upd H a o b = H b := by unfold upd; rw [if_neg h]
/-- two objects of different content stand apart -/
theorem ne_of {H : Hp} {a b : Addr} {o u : HO} (h : H a = some o) (h' : H b = some u) (d : o ≠ u) : a ≠ b := by
  intro e; subst e; rw [h] at h'; exact d (Option.some.inj h')
theorem ne_of_none {H : Hp} {a b : Addr} {o : HO} (h : H a = some o) (h' : H b = none) : a ≠ b := by
  intro e; subst e; rw [h] at h'; cases h'

section
variable (P : Program) (w : World)
def ObjOk (H : Hp) (h : Heap) (a : Addr) : HO → Prop
  | .lst xs => xs.length ≤ sizeLine ∧ ∃ (its : List Value) (n : Nat), Vals xs its ∧ h.get? a = some { cls := .type "list", data := .seq its.toArray n }
  | .tup xs => xs.length ≤ sizeLine ∧ ∃ its : List Value, Vals xs its ∧ IsTup h a its.toArray
  | .dK kvs => kvs.length ≤ sizeLine ∧ (a == sysModules) = false ∧ ∃ vs, KV kvs vs ∧ h.DictOf (mixKind P w) a vs
  | .dT kvs => kvs.length ≤ sizeLine ∧ (a == sysModules) = false ∧ ∃ xs : List (List Key × Addr × Value),
      Paired (fun (p : List Key × V) (q : List Key × Addr × Value) => p.1 = q.1 ∧ H q.2.1 = some (.tup (p.1.map kV)) ∧ RelV p.2 q.2.2) kvs xs ∧
      ∃ o es ep, h.get? a = some o ∧ o.ExactDict ∧ o.data = .dict es ep ∧ es.toList = xs.map (entryOfKey (tupleKind (mixKind P w))) ∧ (xs.map (·.1)).Nodup
  | .set S n => h.SetOf (intKind P w) a S n
  | .ins C dx fs => H dx = some (.own a) ∧ fs.length ≤ 1000 ∧ dx ≠ a ∧ h.get? a = some (PySem.W.instObj C dx) ∧
      ∃ mA, h.Ns1 dx mA ∧ (∀ f, RelO (fs.lookup f) (mA f)) ∧ PySem.Within mA (fs.map (·.1))
  | .own _ => ∃ o, h.get? a = some o
  | .xd fs => ∃ mA, h.Ns1 a mA ∧ ∀ f, RelO (fs.lookup f) (mA f)
  | .rng lo hi => ∃ t u v, h.get? a = some { cls := .type "range", data := .fields #[.int lo t, .int hi u, .int 1 v] }
  | .frz o u => h.get? a = some o ∧ ObjOk H h a u
  | .tbl ps => h.get? a = some { cls := .none, data := .fields ps }
  | .met f x => h.get? a = some (PySem.W.methodObj (.ref f) (.ref x))
  | .ext φ => φ h ∧ (∃ o, h.get? a = some o) ∧ ∀ h1 h2 : Heap, φ h1 → (∀ o, h1.get? a = some o → h2.get? a = some o) → φ h2
/-- the abstract heap is held -/
def HOk (H : Hp) (h : Heap) : Prop := ∀ a o, H a = some o → ObjOk P w H h a o
end
section
variable {P : Program} {w : World} {H H' : Hp} {h h' : Heap} {a : Addr} {o : HO}
theorem ObjOk.lt (x : ObjOk P w H h a o) : a < h.objs.size := by
  cases o with
  | lst xs => obtain ⟨_, _, _, _, e⟩ := x; exact Heap.lt_size e
  | tup xs => obtain ⟨_, _, _, p⟩ := x; exact p.lt
  | dK kvs => obtain ⟨_, _, _, _, o, _, _, e, _⟩ := x; exact Heap.lt_size e
  | dT kvs => obtain ⟨_, _, _, _, o, _, _, e, _⟩ := x; exact Heap.lt_size e
  | set S n => obtain ⟨o, _, _, _, e, _⟩ := x; exact Heap.lt_size e
  | ins C dx fs => obtain ⟨_, _, _, e, _⟩ := x; exact Heap.lt_size e
  | own y => obtain ⟨_, e⟩ := x; exact Heap.lt_size e
  | xd fs => obtain ⟨_, ⟨_, _, _, e, _⟩, _⟩ := x; exact Heap.lt_size e
  | rng lo hi => obtain ⟨_, _, _, e⟩ := x; exact Heap.lt_size e
  | frz ob u => obtain ⟨e, _⟩ := x; exact Heap.lt_size e
  | tbl ps => exact Heap.lt_size (show h.get? a = some _ from x)
  | met f y => exact Heap.lt_size (show h.get? a = some _ from x)
  | ext φ => obtain ⟨_, ⟨_, e⟩, _⟩ := x; exact Heap.lt_size e
theorem Paired.mapP {α β : Type} {F G : α → β → Prop} : ∀ {l₁ : List α} {l₂ : List β}, Paired F l₁ l₂ → (∀ a b, F a b → G a b) → Paired G l₁ l₂
  | _, _, .nil, _ => .nil
  | _, _, .cons r t, f => .cons (f _ _ r) (Paired.mapP t f)
/-- what an object's description leans on: its own object, its own dict, the tuples -/
theorem ObjOk.stay (x : ObjOk P w H h a o) (k : ∀ b u, (b = a ∨ H b = some (.own a)) → h.get? b = some u → h'.get? b = some u)
    (ho : ∀ b, H b = some (.own a) → H' b = some (.own a)) (ht : ∀ b xs, H b = some (.tup xs) → H' b = some (.tup xs)) : ObjOk P w H' h' a o := by
  induction o with
  | lst xs => obtain ⟨z, its, n, r, e⟩ := x; exact ⟨z, its, n, r, k _ _ (.inl rfl) e⟩
  | tup xs => obtain ⟨z, its, r, ob, e, c⟩ := x; exact ⟨z, its, r, ob, k _ _ (.inl rfl) e, c⟩
  | dK kvs => obtain ⟨z, y, vs, r, ob, es, ep, e, c⟩ := x; exact ⟨z, y, vs, r, ob, es, ep, k _ _ (.inl rfl) e, c⟩
  | dT kvs =>
    obtain ⟨z, y, xs, r, ob, es, ep, e, c⟩ := x
    exact ⟨z, y, xs, Paired.mapP r fun p q z => ⟨z.1, ht _ _ z.2.1, z.2.2⟩, ob, es, ep, k _ _ (.inl rfl) e, c⟩
  | set S n => obtain ⟨ob, es, ep, t, e, c⟩ := x; exact ⟨ob, es, ep, t, k _ _ (.inl rfl) e, c⟩
  | ins C dx fs =>
    obtain ⟨d, z, ne, e, mA, ⟨od, es, ep, e2, c⟩, r⟩ := x
    exact ⟨ho _ d, z, ne, k _ _ (.inl rfl) e, mA, ⟨od, es, ep, k _ _ (.inr d) e2, c⟩, r⟩
  | own y => obtain ⟨ob, e⟩ := x; exact ⟨ob, k _ _ (.inl rfl) e⟩
  | xd fs => obtain ⟨mA, ⟨od, es, ep, e, c⟩, r⟩ := x; exact ⟨mA, ⟨od, es, ep, k _ _ (.inl rfl) e, c⟩, r⟩
  | rng lo hi => obtain ⟨t, u, v, e⟩ := x; exact ⟨t, u, v, k _ _ (.inl rfl) e⟩
  | frz ob u ih => obtain ⟨e, q⟩ := x; exact ⟨k _ _ (.inl rfl) e, ih q⟩
  | tbl ps =>
    have e : h.get? a = some { cls := .none, data := .fields ps } := x
    show h'.get? a = some { cls := .none, data := .fields ps }
    exact k a _ (.inl rfl) e
  | met f y =>
    have e : h.get? a = some (PySem.W.methodObj (.ref f) (.ref y)) := x
    show h'.get? a = some (PySem.W.methodObj (.ref f) (.ref y))
    exact k a _ (.inl rfl) e
  | ext φ => obtain ⟨p, ⟨o, e⟩, st⟩ := x; exact ⟨st _ _ p fun o q => k _ _ (.inl rfl) q, ⟨o, k _ _ (.inl rfl) e⟩, st⟩
theorem HOk.lt (x : HOk P w H h) (e : H a = some o) : a < h.objs.size := (x a o e).lt
theorem HOk.fresh (x : HOk P w H h) (e : h.objs.size ≤ a) : H a = none := by
  cases q : H a with
  | none => rfl
  | some u => exact absurd (Nat.lt_of_lt_of_le (x.lt q) e) (Nat.lt_irrefl _)
/-- every object of the heap is kept -/
theorem HOk.kept (x : HOk P w H h) (k : ∀ b u, h.get? b = some u → h'.get? b = some u) : HOk P w H h' := fun a o e =>
  (x a o e).stay (fun b u _ q => k b u q) (fun _ q => q) fun _ _ q => q
/-- a new object is laid and tracked -/
theorem HOk.laid (x : HOk P w H h) (k : ∀ b u, h.get? b = some u → h'.get? b = some u) (hp : h.objs.size ≤ a) (new : ObjOk P w (upd H a o) h' a o) : HOk P w (upd H a o) h' := fun b u e => by
  have hn := x.fresh hp
  by_cases hb : b = a
  · subst hb; rw [upd_same] at e; cases e; exact new
  · rw [upd_ne hb] at e
    exact (x b u e).stay (fun c v _ q => k c v q) (fun c q => by rw [upd_ne (ne_of_none q hn)]; exact q) fun c xs q => by rw [upd_ne (ne_of_none q hn)]; exact q
end
/-- what may be read as u: it is u, or a known u -/
def Rd (H : Hp) (a : Addr) (u : HO) : Prop := H a = some u ∨ ∃ o, H a = some (.frz o u)
theorem Rd.ok {P : Program} {w : World} {H : Hp} {h : Heap} {a : Addr} {u : HO} (r : Rd H a u) (x : HOk P w H h) : ObjOk P w H h a u := by
  rcases r with r | ⟨o, r⟩
  · exact x a u r
  · obtain ⟨_, q⟩ := x a _ r
    exact q
/-- what may be written -/
def Mut : Option HO → Prop
  | some (.lst _) => True
  | some (.dK _) => True
  | some (.dT _) => True
  | some (.set _ _) => True
  | some (.ins _ _ _) => True
  | some (.ext _) => True
  | _ => False
section
variable {P : Program} {w : World} {H : Hp} {h h' : Heap} {x e : Addr} {o' : HO}
/-- the object at e is changed: x itself, or the dict of the instance x -/
theorem HOk.write (ok : HOk P w H h) (mu : Mut (H x)) (he : e = x ∨ H e = some (.own x)) (k : ∀ b u, b ≠ e → h.get? b = some u → h'.get? b = some u) (heo : ∃ u, h'.get? e = some u)
    (new : ObjOk P w (upd H x o') h' x o') : HOk P w (upd H x o') h' := fun b u q => by
  have nown : ∀ c y, H c = some (.own y) → c ≠ x := fun c y r z => by subst z; rw [r] at mu; exact mu
  have ntup : ∀ c xs, H c = some (.tup xs) → c ≠ x := fun c xs r z => by subst z; rw [r] at mu; exact mu
  by_cases hb : b = x
  · subst hb; rw [upd_same] at q; cases q; exact new
  · rw [upd_ne hb] at q
    by_cases hbe : b = e
    · have q' : H b = some (.own x) := by
        rcases he with z | z
        · exact absurd (hbe.trans z) hb
        · rw [hbe]; exact z
      rw [q] at q'; cases q'
      obtain ⟨v, hv⟩ := heo
      exact ⟨v, by rw [hbe]; exact hv⟩
    · refine (ok b u q).stay (fun c v hc r => k c v ?_ r) (fun c r => by rw [upd_ne (nown c b r)]; exact r) fun c xs r => by rw [upd_ne (ntup c xs r)]; exact r
      rcases hc with rfl | hc
      · exact hbe
      · rintro rfl
        rcases he with z | z
        · exact nown c b hc z
        · rw [hc] at z; cases z; exact hb rfl
end
/-! ### kept unless tracked; of the frames at fs (the callers') the slots may change (an exception that passes writes there); of the records at ex (iterators) nothing is said -/
structure Un (fs ex : List Addr) (H H' : Hp) (h h' : Heap) : Prop where
  keep : ∀ b o, h.get? b = some o → H b = none → b ∉ fs → b ∉ ex → h'.get? b = some o
  slot : ∀ b o, h.get? b = some o → H b = none → b ∈ fs → b ∉ ex → ∃ sl, h'.get? b = some { o with slots := sl }
  free : ∀ b o, h.get? b = some o → H b = none → b ∉ ex → H' b = none
  there : ∀ b o, h.get? b = some o → b ∉ ex → ∃ o', h'.get? b = some o'
  tups : ∀ b xs, H b = some (.tup xs) → H' b = some (.tup xs)
  frzs : ∀ b o u, H b = some (.frz o u) → H' b = some (.frz o u)
  tbls : ∀ b ps, H b = some (.tbl ps) → ∃ more, H' b = some (.tbl (ps ++ more))
section
variable {fs fs' ex ex' : List Addr} {H H1 H2 : Hp} {h h1 h2 h' : Heap} {a x e : Addr} {o : HO}
theorem Un.any (u : Un fs ex H H1 h h1) {b : Addr} {ob : Obj} (q : h.get? b = some ob) (n : H b = none) (hx : b ∉ ex) : ∃ sl, h1.get? b = some { ob with slots := sl } := by
  by_cases hb : b ∈ fs
  · exact u.slot b ob q n hb hx
  · exact ⟨ob.slots, u.keep b ob q n hb hx⟩
theorem Un.kept (k : ∀ b u, h.get? b = some u → h'.get? b = some u) : Un fs ex H H h h' :=
  ⟨fun b ob q _ _ _ => k b ob q, fun b ob q _ _ _ => ⟨ob.slots, k b ob q⟩, fun _ _ _ n _ => n, fun b ob q _ => ⟨ob, k b ob q⟩, fun _ _ q => q, fun _ _ _ q => q, fun _ ps q => ⟨#[], by rw [q]; simp⟩⟩
theorem Un.refl : Un fs ex H H h h := Un.kept fun _ _ q => q
theorem Un.laid (k : ∀ b u, h.get? b = some u → h'.get? b = some u) (hp : h.objs.size ≤ a) (hn : H a = none) : Un fs ex H (upd H a o) h h' where
  keep := fun b u q _ _ _ => k b u q
  slot := fun b u q _ _ _ => ⟨u.slots, k b u q⟩
  free := fun b u q n _ => by rw [upd_ne (Nat.ne_of_lt (Nat.lt_of_lt_of_le (Heap.lt_size q) hp))]; exact n
  there := fun b u q _ => ⟨u, k b u q⟩
  tups := fun b xs q => by rw [upd_ne (ne_of_none q hn)]; exact q
  frzs := fun b u xs q => by rw [upd_ne (ne_of_none q hn)]; exact q
  tbls := fun b ps q => ⟨#[], by rw [upd_ne (ne_of_none q hn), q]; simp⟩
theorem Un.write (mu : Mut (H x)) (he : e = x ∨ H e = some (.own x)) (k : ∀ b u, b ≠ e → h.get? b = some u → h'.get? b = some u) (heo : ∃ u, h'.get? e = some u) : Un fs ex H (upd H x o) h h' := by
  have hx : ∀ b, H b = none → b ≠ x := fun b n z => by subst z; rw [n] at mu; exact mu
  have hb : ∀ b, H b = none → b ≠ e := fun b n z => by
    subst z
    rcases he with r | r
    · exact hx b n r
    · rw [n] at r; cases r
  have hm : ∀ b u, H b = some u → ¬ Mut (some u) → b ≠ x := fun b u q nm z => by subst z; rw [q] at mu; exact nm mu
  refine ⟨fun b u q n _ _ => k b u (hb b n) q, fun b u q n _ _ => ⟨u.slots, k b u (hb b n) q⟩, fun b u q n _ => by rw [upd_ne (hx b n)]; exact n, fun b u q _ => ?_,
    fun b xs q => by rw [upd_ne (hm b _ q fun z => z)]; exact q, fun b u xs q => by rw [upd_ne (hm b _ q fun z => z)]; exact q, fun b ps q => ⟨#[], by rw [upd_ne (hm b _ q fun z => z), q]; simp⟩⟩
  by_cases hbe : b = e
  · subst hbe; exact heo
  · exact ⟨u, k b u hbe q⟩
end
/-! ### the heap without what is tracked -/
def trk (h : Heap) (H : Hp) : List Addr := (List.range h.objs.size).filter fun a => (H a).isSome
def hidT (h : Heap) (H : Hp) : Heap := PySem.W.hideAll h (trk h H)
theorem hidT_size (h : Heap) (H : Hp) : (hidT h H).objs.size = h.objs.size := PySem.W.hideAll_size _ _
theorem hidT_get {h : Heap} {H : Hp} {b : Addr} {o : Obj} (e : h.get? b = some o) (n : H b = none) : (hidT h H).get? b = some o :=
  PySem.W.hideAll_get _ e fun hm => by
    have q : (H b).isSome = true := (List.mem_filter.mp hm).2
    rw [n] at q; simp at q
theorem of_hidT {h : Heap} {H : Hp} {b : Addr} {o : Obj} (e : (hidT h H).get? b = some o) : h.get? b = some o ∧ H b = none := by
  have e' : h.get? b = some o := PySem.W.of_hideAll (trk h H) e
  refine ⟨e', ?_⟩
  cases q : H b with
  | none => rfl
  | some x =>
    have hm : b ∈ trk h H := List.mem_filter.mpr ⟨List.mem_range.mpr (Heap.lt_size e'), by simp [q]⟩
    have z : (hidT h H).get? b = none := PySem.W.hideAll_none (trk h H) hm
    rw [z] at e; cases e

/-! ### OpenK's ledger, filled with every new object but one -/
end L2
namespace L2
open PySem PySem.Spec PyProof.Rows
/-- the module's facts, over the base: the heap at the law's entry without what is tracked there -/
structure Mod (K : PySem.W.Frag) (mg : Str → Option Value) (base : Heap) : Prop where
  kin : K.In base
  glob : base.Ns mainGlobals mg
  blt : ∃ mb, base.Ns builtinsNs mb ∧ ∀ x : Str, x ≠ "__name__" → mb x = bootBuiltins x
  nolimit : base.NoLimit

/-- the context: a def's body (or a comprehension's block) running. base: fixed through the whole law; s₀, H₀: the entry; outer: the frames whose slots others may change (a def's callers); stack: all frames that run;
   ex: iterators that were made ahead of the entry and are walked here (a comprehension's); fn: the names whose cells were made at the entry (a def: all; a comprehension's block: its own); calm: not within an except suite; pn: pins that every state bears; xe: what is wanted of an exception that leaves the code -/
structure Cx where
  prog : Program
  w : World
  K : PySem.W.Frag
  mg : Str → Option Value
  base : Heap
  A : Around
  N : List Str
  s_0 : Shared
  H_0 : Hp
  env : Env
  outer : List Env
  stack : List Env
  ex : List Addr
  fn : Str → Bool
  calm : Bool
  pn : List (Addr × Obj)
  xe : Value → Shared → Prop
/-- the callers' frames -/
def frs (l : List Env) : List Addr := l.filterMap (·.frame)
abbrev Cx.fs (X : Cx) : List Addr := frs X.outer

def Vis (sc : Scope) (x : Str) : Prop := sc.names.lookup x = some .local ∨ sc.names.lookup x = some .cell ∨ sc.names.lookup x = some .free
def Loc (sc : Scope) (x : Str) : Prop := sc.names.lookup x = some .local ∨ sc.names.lookup x = some .cell
def Look (env : Env) (h : Heap) (m : Str → Option Value) (x : Str) (u : Value) : Prop :=
  (env.kindOf x = some .local ∧ m x = some u) ∨ ((env.kindOf x = some .cell ∨ env.kindOf x = some .free) ∧ ∃ c, env.cells.lookup x = some c ∧ h.IsCell c (some u))

structure Cx.Ok (X : Cx) : Prop where
  mod : Mod X.K X.mg X.base
  kind : X.env.scope.kind = .function
  glob : X.env.globals = mainGlobals
  blt : X.env.builtins = builtinsNs
  above : X.s_0.heap.objs.size ≤ X.env.locals
  inj : ∀ x y c, X.env.cells.lookup x = some c → X.env.cells.lookup y = some c → x = y
  has : ∀ x, (X.env.kindOf x = some .cell ∨ X.env.kindOf x = some .free) → ∃ c, X.env.cells.lookup x = some c
  cab : ∀ x c, X.fn x = true → X.env.cells.lookup x = some c → X.s_0.heap.objs.size ≤ c
  hd : X.calm = true → X.A.handled = none
  frames : X.A.frames = some X.stack
  stk : X.stack = X.outer ∨ (X.stack = X.env :: X.outer ∧ X.env.frame = some X.env.locals)
  exf : ∀ b ∈ X.ex, b ≠ X.env.locals ∧ ∀ x c, X.env.cells.lookup x = some c → c ≠ b
  bs : ∀ b o, X.base.get? b = some o → X.s_0.heap.get? b = some o ∧ X.H_0 b = none
  bsz : X.base.objs.size ≤ X.s_0.heap.objs.size
  noex : ∀ b o, X.base.get? b = some o → b ∉ X.ex
  exfs : ∀ b ∈ X.ex, b ∉ X.fs
  funs : X.s_0.heap.FunFrames X.base X.outer
  frf : ∀ b ∈ X.fs, X.H_0 b = none

structure Inv (X : Cx) (pins : List (Addr × Obj)) (σ : List (Option V)) (H : Hp) (s : Shared) : Prop where
  ok : X.Ok
  os : s.os = X.s_0.os
  bare : AllBare s.gens
  base : Un X.fs X.ex X.H_0 H X.s_0.heap s.heap
  loc : ∃ m, s.heap.Ns X.env.locals m ∧ ∀ (i : Nat) (x : Str) (v : V), X.N[i]? = some x → σ[i]? = some (some v) → Vis X.env.scope x → ∃ u, RelV v u ∧ Look X.env s.heap m x u
  cell : ∀ x c, X.env.cells.lookup x = some c → ∃ v, s.heap.IsCell c v
  free : H X.env.locals = none
  freeC : ∀ x c, X.env.cells.lookup x = some c → H c = none
  pin : ∀ p ∈ X.pn ++ pins, s.heap.get? p.1 = some p.2 ∧ H p.1 = none ∧ p.1 ≠ X.env.locals ∧ p.1 ∉ X.fs ∧ ∀ v, p.2.data ≠ .cell v
  hok : HOk X.prog X.w H s.heap
  len : σ.length = X.N.length

section
variable {X : Cx} {pins : List (Addr × Obj)} {σ : List (Option V)} {H H' : Hp} {s : Shared} {h' : Heap}
theorem Cx.Ok.nofr (ok : X.Ok) {b : Addr} {o : Obj} (e : X.base.get? b = some o) : b ∉ X.fs := fun hb => by
  have := (ok.funs.mem hb).1
  rw [e] at this; cases this
theorem Inv.bs (I : Inv X pins σ H s) : ∀ b o, X.base.get? b = some o → s.heap.get? b = some o ∧ H b = none := fun b o e =>
  ⟨I.base.keep b o (I.ok.bs b o e).1 (I.ok.bs b o e).2 (I.ok.nofr e) (I.ok.noex b o e), I.base.free b o (I.ok.bs b o e).1 (I.ok.bs b o e).2 (I.ok.noex b o e)⟩
theorem Inv.bk (I : Inv X pins σ H s) : ∀ b o, X.base.get? b = some o → s.heap.get? b = some o := fun b o e => (I.bs b o e).1
theorem Inv.mod (I : Inv X pins σ H s) : Mod X.K X.mg X.base := I.ok.mod
theorem Inv.kIn (I : Inv X pins σ H s) : X.K.In s.heap := I.ok.mod.kin.keeps I.bk
theorem Inv.lt (I : Inv X pins σ H s) : X.env.locals < s.heap.objs.size := let ⟨_, hn, _⟩ := I.loc; hn.lt
theorem Inv.sz (I : Inv X pins σ H s) : X.s_0.heap.objs.size ≤ s.heap.objs.size := Nat.le_trans I.ok.above (Nat.le_of_lt I.lt)
theorem Inv.nofs (I : Inv X pins σ H s) {a : Addr} (h : s.heap.objs.size ≤ a) : a ∉ X.fs := fun hb => by
  obtain ⟨_, o, ho, _⟩ := I.ok.funs.mem hb
  exact absurd (Nat.lt_of_lt_of_le (Heap.lt_size ho) (Nat.le_trans I.sz h)) (Nat.lt_irrefl _)
theorem Inv.cne (I : Inv X pins σ H s) : ∀ x c, X.env.cells.lookup x = some c → c ≠ X.env.locals := fun x c e z => by
  obtain ⟨v, o, ho, hd⟩ := I.cell x c e
  obtain ⟨m, ⟨o', es, ep, ho', hd', _⟩, _⟩ := I.loc
  rw [z, ho'] at ho; cases ho; rw [hd'] at hd; cases hd
theorem Inv.funs (I : Inv X pins σ H s) : s.heap.FunFrames X.base X.outer := by
  have all : ∀ (l : List Env), (∀ b ∈ frs l, b ∈ X.fs) → X.s_0.heap.FunFrames X.base l → s.heap.FunFrames X.base l := by
    intro l
    induction l with
    | nil => intro _ _; trivial
    | cons env r ih =>
      intro hs hl
      obtain ⟨hk, ⟨L, o, hf, hn, ho, hd⟩, hr⟩ := hl
      have hL : L ∈ X.fs := hs L (by unfold frs; rw [List.filterMap_cons, hf]; exact List.mem_cons_self)
      obtain ⟨sl, e⟩ := I.base.slot L o ho (I.ok.frf L hL) hL fun z => I.ok.exfs L z hL
      exact ⟨hk, ⟨L, _, hf, hn, e, hd⟩, ih (fun b hb => hs b (by unfold frs; rw [List.filterMap_cons, hf]; exact List.mem_cons_of_mem _ hb)) hr⟩
  exact all X.outer (fun _ hb => hb) I.ok.funs

/-- the frames that run, for a call -/
theorem Inv.stack (I : Inv X pins σ H s) : s.heap.FunFrames X.base X.stack := by
  rcases I.ok.stk with e | ⟨e, hf⟩
  · rw [e]; exact I.funs
  · rw [e]
    obtain ⟨m, hn, _⟩ := I.loc
    refine .cons (by rw [I.ok.kind]; decide) hf hn ?_ I.funs
    exact Heap.get?_none_of_le (Nat.le_trans I.ok.bsz I.ok.above)
theorem Inv.stkSub (I : Inv X pins σ H s) : ∀ b ∈ frs X.stack, b ∈ X.env.locals :: X.fs := fun b hb => by
  rcases I.ok.stk with e | ⟨e, hf⟩
  · rw [e] at hb; exact List.mem_cons_of_mem _ hb
  · rw [e] at hb
    unfold frs at hb
    rw [List.filterMap_cons, hf] at hb
    exact hb
theorem Inv.stkFree (I : Inv X pins σ H s) : ∀ b ∈ frs X.stack, H b = none := fun b hb => by
  rcases List.mem_cons.mp (I.stkSub b hb) with e | hb
  · rw [e]; exact I.free
  · obtain ⟨_, o, ho, _⟩ := I.ok.funs.mem hb
    exact I.base.free b o ho (I.ok.frf b hb) fun z => I.ok.exfs b z hb

/-- THE STEP: the untracked objects but the frame and the records at ch are kept (the callers' frames up to slots), the frame's map is kept, the new abstract heap is held -/
theorem Inv.step {g' : Array GenState} {t' : Nat} {d' : Drawn} {ch : List Addr} (I : Inv X pins σ H s)
    (hch : ∀ b ∈ ch, (b ∈ X.ex ∨ X.s_0.heap.objs.size ≤ b) ∧ b ≠ X.env.locals ∧ (∀ x c, X.env.cells.lookup x = some c → c ≠ b) ∧ ∀ p ∈ X.pn ++ pins, p.1 ≠ b)
    (keep : ∀ b o, b ≠ X.env.locals → b ∉ X.fs → b ∉ ch → s.heap.get? b = some o → H b = none → h'.get? b = some o)
    (slot : ∀ b o, b ≠ X.env.locals → b ∈ X.fs → b ∉ ch → s.heap.get? b = some o → H b = none → ∃ sl, h'.get? b = some { o with slots := sl }) (free : ∀ b o, b ∉ ch → s.heap.get? b = some o → H b = none → H' b = none)
    (there : ∀ b o, b ∉ ch → s.heap.get? b = some o → ∃ o', h'.get? b = some o')
    (tups : ∀ b xs, H b = some (.tup xs) → H' b = some (.tup xs)) (frzs : ∀ b o u, H b = some (.frz o u) → H' b = some (.frz o u)) (tbls : ∀ b ps, H b = some (.tbl ps) → ∃ more, H' b = some (.tbl (ps ++ more)))
    (ns : ∀ m, s.heap.Ns X.env.locals m → h'.Ns X.env.locals m) (hok : HOk X.prog X.w H' h') (hg : AllBare g') :
    Inv X pins σ H' { s with heap := h', gens := g', drawn := d', toks := t' } := by
  have neL : ∀ b o, X.s_0.heap.get? b = some o → b ≠ X.env.locals := fun b o e => Nat.ne_of_lt (Nat.lt_of_lt_of_le (Heap.lt_size e) I.ok.above)
  have neC : ∀ b o, X.s_0.heap.get? b = some o → b ∉ X.ex → b ∉ ch := fun b o e hx hb => by
    rcases (hch b hb).1 with z | z
    · exact hx z
    · exact absurd (Nat.lt_of_lt_of_le (Heap.lt_size e) z) (Nat.lt_irrefl _)
  have cellK : ∀ x c, X.env.cells.lookup x = some c → ∀ v, s.heap.IsCell c v → h'.IsCell c v := fun x c e v ⟨o, ho, hd⟩ => by
    have nch : c ∉ ch := fun z => (hch c z).2.2.1 x c e rfl
    by_cases hc : c ∈ X.fs
    · obtain ⟨sl, q⟩ := slot c o (I.cne x c e) hc nch ho (I.freeC x c e)
      exact ⟨_, q, hd⟩
    · exact ⟨o, keep c o (I.cne x c e) hc nch ho (I.freeC x c e), hd⟩
  refine ⟨I.ok, I.os, hg, ⟨fun b o e n hb hx => ?_, fun b o e n hb hx => ?_, fun b o e n hx => ?_, fun b o e hx => ?_, fun b xs e => tups b xs (I.base.tups b xs e), fun b o xs e => frzs b o xs (I.base.frzs b o xs e), fun b ps e => ?_⟩, ?_, fun x c e => ?_, ?_, fun x c e => ?_, fun p hp => ?_, hok, I.len⟩
  · exact keep b o (neL b o e) hb (neC b o e hx) (I.base.keep b o e n hb hx) (I.base.free b o e n hx)
  · obtain ⟨sl, e1⟩ := I.base.slot b o e n hb hx
    obtain ⟨sl', e2⟩ := slot b _ (neL b o e) hb (neC b o e hx) e1 (I.base.free b o e n hx)
    exact ⟨sl', e2⟩
  · obtain ⟨o', e1⟩ := I.base.there b o e hx
    exact free b o' (neC b o e hx) e1 (I.base.free b o e n hx)
  · obtain ⟨o', e1⟩ := I.base.there b o e hx
    exact there b o' (neC b o e hx) e1
  · obtain ⟨m1, e1⟩ := I.base.tbls b ps e
    obtain ⟨m2, e2⟩ := tbls b _ e1
    exact ⟨m1 ++ m2, by rw [e2, Array.append_assoc]⟩
  · obtain ⟨m, hn, hl⟩ := I.loc
    refine ⟨m, ns m hn, fun i x v e1 e2 e3 => ?_⟩
    obtain ⟨u, r, l⟩ := hl i x v e1 e2 e3
    refine ⟨u, r, ?_⟩
    rcases l with l | ⟨k, c, e, z⟩
    · exact .inl l
    · exact .inr ⟨k, c, e, cellK x c e _ z⟩
  · obtain ⟨v, z⟩ := I.cell x c e
    exact ⟨v, cellK x c e v z⟩
  · obtain ⟨m, ⟨o, _, _, ho, _⟩, _⟩ := I.loc
    exact free _ o (fun z => (hch _ z).2.1 rfl) ho I.free
  · obtain ⟨v, o, ho, hd⟩ := I.cell x c e
    exact free c o (fun z => (hch c z).2.2.1 x c e rfl) ho (I.freeC x c e)
  · obtain ⟨e, n, ne, nf, d⟩ := I.pin p hp
    have nch : p.1 ∉ ch := fun z => (hch p.1 z).2.2.2 p hp rfl
    exact ⟨keep p.1 p.2 ne nf nch e n, free p.1 p.2 nch e n, ne, nf, d⟩
/-- .. where the frame's own object is kept too -/
theorem Inv.un {t' : Nat} (I : Inv X pins σ H s) (u : Un X.fs [] H H' s.heap h') (hok : HOk X.prog X.w H' h') : Inv X pins σ H' { s with heap := h', toks := t' } := by
  obtain ⟨m, ⟨o, es, ep, ho, r⟩, _⟩ := id I.loc
  obtain ⟨sl, hL⟩ := u.any ho I.free (by simp)
  exact I.step (g' := s.gens) (d' := s.drawn) (ch := []) (fun _ z => nomatch z) (fun b o _ hb _ e n => u.keep b o e n hb (by simp)) (fun b o _ hb _ e n => u.slot b o e n hb (by simp)) (fun b o _ e n => u.free b o e n (by simp)) (fun b o _ e => u.there b o e (by simp)) u.tups u.frzs u.tbls (fun m' hm => by
    obtain ⟨o', es', ep', ho', r'⟩ := hm
    rw [ho] at ho'; cases ho'
    exact ⟨_, es', ep', hL, r'⟩) hok I.bare
/-- behind a call (or a comprehension's block): the slots of this frame may have changed too, the records at ch may have turned -/
theorem Inv.call {g' : Array GenState} {t' : Nat} {d' : Drawn} {ch : List Addr} (I : Inv X pins σ H s) (u : Un (frs X.stack) ch H H' s.heap h') (hok : HOk X.prog X.w H' h') (hg : AllBare g')
    (hch : ∀ b ∈ ch, (b ∈ X.ex ∨ X.s_0.heap.objs.size ≤ b) ∧ b ≠ X.env.locals ∧ (∀ x c, X.env.cells.lookup x = some c → c ≠ b) ∧ ∀ p ∈ X.pn ++ pins, p.1 ≠ b) :
    Inv X pins σ H' { s with heap := h', gens := g', drawn := d', toks := t' } := by
  obtain ⟨m, ⟨o, es, ep, ho, r⟩, _⟩ := id I.loc
  obtain ⟨sl, hL⟩ := u.any ho I.free fun z => (hch _ z).2.1 rfl
  exact I.step (ch := ch) hch (fun b o hL hb hc e n => u.keep b o e n (fun z => (List.mem_cons.mp (I.stkSub b z)).elim hL hb) hc) (fun b o _ _ hc e n => u.any e n hc) (fun b o hc e n => u.free b o e n hc) (fun b o hc e => u.there b o e hc) u.tups u.frzs u.tbls (fun m' hm => by
    obtain ⟨o', es', ep', ho', r'⟩ := hm
    rw [ho] at ho'; cases ho'
    exact ⟨_, es', ep', hL, r'⟩) hok hg
/-- an untracked record of ours (an iterator) has turned -/
theorem Inv.turned {t' : Nat} {it : Addr} (I : Inv X pins σ H s) (k : ∀ b o, b ≠ it → s.heap.get? b = some o → h'.get? b = some o) (hn : H it = none) (hL : it ≠ X.env.locals)
    (h1 : it ∈ X.ex ∨ X.s_0.heap.objs.size ≤ it) (h2 : ∀ x c, X.env.cells.lookup x = some c → c ≠ it) (h3 : ∀ p ∈ X.pn ++ pins, p.1 ≠ it) : Inv X pins σ H { s with heap := h', toks := t' } := by
  have nit : ∀ b u, H b = some u → b ≠ it := fun b u e z => by rw [z, hn] at e; cases e
  refine I.step (g' := s.gens) (d' := s.drawn) (ch := [it]) (fun b hb => ?_) (fun b o _ _ hc e _ => k b o (fun z => hc (by simp [z])) e) (fun b o _ _ hc e _ => ⟨o.slots, k b o (fun z => hc (by simp [z])) e⟩) (fun _ _ _ _ n => n)
    (fun b o hc e => ⟨o, k b o (fun z => hc (by simp [z])) e⟩) (fun _ _ e => e) (fun _ _ _ e => e) (fun b ps e => ⟨#[], by rw [e]; simp⟩) (fun m hm => ?_) (fun b u e => ?_) I.bare
  · have e : b = it := by simpa using hb
    subst e
    exact ⟨h1, hL, h2, h3⟩
  · obtain ⟨o, es, ep, ho, r⟩ := hm
    exact ⟨o, es, ep, k _ o (Ne.symm hL) ho, r⟩
  · refine (I.hok b u e).stay (fun c v hc q => k c v ?_ q) (fun _ q => q) fun _ _ q => q
    rcases hc with z | z
    · rw [z]; exact nit b u e
    · exact nit c _ z
theorem Inv.tok (I : Inv X pins σ H s) (t : Nat) : Inv X pins σ H { s with toks := t } := I.un (h' := s.heap) (t' := t) Un.refl I.hok
/-- all objects kept -/
theorem Inv.kept {t' : Nat} (I : Inv X pins σ H s) (k : ∀ b u, s.heap.get? b = some u → h'.get? b = some u) : Inv X pins σ H { s with heap := h', toks := t' } := I.un (Un.kept k) (I.hok.kept k)
/-- a new object laid and tracked -/
theorem Inv.laid {a : Addr} {o : HO} {t' : Nat} (I : Inv X pins σ H s) (k : ∀ b u, s.heap.get? b = some u → h'.get? b = some u) (hp : s.heap.objs.size ≤ a) (new : ObjOk X.prog X.w (upd H a o) h' a o) :
    Inv X pins σ (upd H a o) { s with heap := h', toks := t' } := I.un (Un.laid k hp (I.hok.fresh hp)) (I.hok.laid k hp new)
/-- an object written -/
theorem Inv.write {x e : Addr} {o : HO} {t' : Nat} (I : Inv X pins σ H s) (mu : Mut (H x)) (he : e = x ∨ H e = some (.own x)) (k : ∀ b u, b ≠ e → s.heap.get? b = some u → h'.get? b = some u) (heo : ∃ u, h'.get? e = some u)
    (new : ObjOk X.prog X.w (upd H x o) h' x o) : Inv X pins σ (upd H x o) { s with heap := h', toks := t' } := I.un (Un.write mu he k heo) (I.hok.write mu he k heo new)
/-- forgetting slots, pins -/
theorem Inv.weak {σ' : List (Option V)} (I : Inv X pins σ H s) (hl : σ'.length = σ.length) (w : ∀ (i : Nat) v, σ'[i]? = some (some v) → σ[i]? = some (some v)) : Inv X pins σ' H s :=
  ⟨I.ok, I.os, I.bare, I.base, let ⟨m, hn, hl'⟩ := I.loc; ⟨m, hn, fun i x v e1 e2 e3 => hl' i x v e1 (w i v e2) e3⟩, I.cell, I.free, I.freeC, I.pin, I.hok, hl.trans I.len⟩
theorem Inv.pins_of {pins' : List (Addr × Obj)} (I : Inv X pins σ H s) (h : ∀ p ∈ pins', s.heap.get? p.1 = some p.2 ∧ H p.1 = none ∧ p.1 ≠ X.env.locals ∧ p.1 ∉ X.fs ∧ ∀ v, p.2.data ≠ .cell v) : Inv X pins' σ H s :=
  ⟨I.ok, I.os, I.bare, I.base, I.loc, I.cell, I.free, I.freeC, fun p hp => (List.mem_append.mp hp).elim (fun z => I.pin p (List.mem_append_left _ z)) (h p), I.hok, I.len⟩

theorem nodup_ix {N : List Str} (hN : N.Nodup) {i j : Nat} {x : Str} (a : N[i]? = some x) (b : N[j]? = some x) : i = j := by
  obtain ⟨h1, e1⟩ := List.getElem?_eq_some_iff.mp a
  obtain ⟨h2, e2⟩ := List.getElem?_eq_some_iff.mp b
  exact (List.getElem_inj hN).mp (e1.trans e2.symm)

/-- a name is stored; what changed -/
theorem store_ok2 {M : Model} {A : Around} {E : Value → Shared → Prop} {i : Nat} {x : Str} {v : V} {u : Value} {Q : Unit → Shared → Prop} (I : Inv X pins σ H s) (hN : X.N.Nodup) (hi : X.N[i]? = some x) (hx : Loc X.env.scope x) (r : RelV v u)
    (h : ∀ s', Inv X pins (σ.set i (some v)) H s' → (∃ a, Heap.SameBut a s.heap s'.heap ∧ (a = X.env.locals ∨ X.env.cells.lookup x = some a)) → Q () s') (hf : X.fn x = true ∨ X.env.scope.names.lookup x = some .local := by first | exact .inl rfl | exact .inr rfl | assumption) : wpAny M A (storeName X.env x u) Q E s := by
  obtain ⟨m, hn, hl⟩ := id I.loc
  have hcls : (X.env.scope.kind == .class || (X.env.scope.kind == .module && X.env.locals != X.env.globals)) = false := by rw [I.ok.kind]; rfl
  have hiσ : i < σ.length := by rw [I.len]; exact (List.getElem?_eq_some_iff.mp hi).1
  have cne := I.cne
  have tracked : ∀ {a : Addr} {h' : Heap}, (∃ o, s.heap.get? a = some o ∧ H a = none) → Heap.SameBut a s.heap h' → HOk X.prog X.w H h' := fun {a h'} ha hs b ob e => by
    obtain ⟨_, _, hfree⟩ := ha
    refine (I.hok b ob e).stay (fun c w' hc q => (hs.2 c ?_).trans q) (fun _ q => q) fun _ _ q => q
    rintro rfl
    rcases hc with rfl | hc
    · rw [hfree] at e; cases e
    · rw [hfree] at hc; cases hc
  rcases hx with hk | hk
  · refine wpAny_storeName_local hk hn (fun h' hn' hs => ?_) hcls
    obtain ⟨oL, _, _, hoL, _⟩ := id hn
    refine h _ ⟨I.ok, I.os, I.bare, ⟨fun b o e n hb hx => ?_, fun b o e n hb hx => ?_, I.base.free, fun b o e hx => ?_, I.base.tups, I.base.frzs, I.base.tbls⟩, ⟨_, hn', fun j y v' e1 e2 e3 => ?_⟩, fun y c e => ?_, I.free, I.freeC, fun p hp => ?_, tracked ⟨oL, hoL, I.free⟩ hs, by simpa using I.len⟩ ⟨_, hs, .inl rfl⟩
    · exact (hs.2 b (Nat.ne_of_lt (Nat.lt_of_lt_of_le (Heap.lt_size e) I.ok.above))).trans (I.base.keep b o e n hb hx)
    · obtain ⟨sl, e1⟩ := I.base.slot b o e n hb hx
      exact ⟨sl, (hs.2 b (Nat.ne_of_lt (Nat.lt_of_lt_of_le (Heap.lt_size e) I.ok.above))).trans e1⟩
    · obtain ⟨o', e1⟩ := I.base.there b o e hx
      exact ⟨o', (hs.2 b (Nat.ne_of_lt (Nat.lt_of_lt_of_le (Heap.lt_size e) I.ok.above))).trans e1⟩
    · by_cases hj : j = i
      · subst hj
        rw [hi] at e1; cases e1
        rw [List.getElem?_set_self hiσ] at e2
        cases e2
        exact ⟨u, r, .inl ⟨hk, by simp⟩⟩
      · rw [List.getElem?_set_ne (Ne.symm hj)] at e2
        obtain ⟨u', r', q⟩ := hl j y v' e1 e2 e3
        refine ⟨u', r', ?_⟩
        rcases q with ⟨k, e⟩ | ⟨k, c, e, z⟩
        · refine .inl ⟨k, ?_⟩
          have : y ≠ x := fun e => hj (nodup_ix hN e1 (e ▸ hi))
          simp [this, e]
        · exact .inr ⟨k, c, e, z.sameBut hs (cne y c e)⟩
    · obtain ⟨w', z⟩ := I.cell y c e
      exact ⟨w', z.sameBut hs (cne y c e)⟩
    · obtain ⟨e, n, ne, nf, d⟩ := I.pin p hp
      exact ⟨(hs.2 p.1 ne).trans e, n, ne, nf, d⟩
  · have hfn : X.fn x = true := by
      rcases hf with z | z
      · exact z
      · rw [z] at hk; cases hk
    obtain ⟨c, hc⟩ := I.ok.has x (.inl hk)
    obtain ⟨w', z⟩ := I.cell x c hc
    refine wpAny_storeName_cell I.ok.kind hk hc z (fun h' hc' hs => ?_)
    obtain ⟨oc, hoc, hocd⟩ := id z
    refine h { s with heap := h' } ⟨I.ok, I.os, I.bare, ⟨fun b o e n hb hx => ?_, fun b o e n hb hx => ?_, I.base.free, fun b o e hx => ?_, I.base.tups, I.base.frzs, I.base.tbls⟩, ⟨m, hn.sameBut hs (Ne.symm (cne x c hc)), fun j y v' e1 e2 e3 => ?_⟩, fun y c' e => ?_, I.free, I.freeC, fun p hp => ?_, tracked ⟨oc, hoc, I.freeC x c hc⟩ hs, by simpa using I.len⟩ ⟨c, hs, .inr hc⟩
    · exact (hs.2 b (Nat.ne_of_lt (Nat.lt_of_lt_of_le (Heap.lt_size e) (I.ok.cab x c hfn hc)))).trans (I.base.keep b o e n hb hx)
    · obtain ⟨sl, e1⟩ := I.base.slot b o e n hb hx
      exact ⟨sl, (hs.2 b (Nat.ne_of_lt (Nat.lt_of_lt_of_le (Heap.lt_size e) (I.ok.cab x c hfn hc)))).trans e1⟩
    · obtain ⟨o', e1⟩ := I.base.there b o e hx
      exact ⟨o', (hs.2 b (Nat.ne_of_lt (Nat.lt_of_lt_of_le (Heap.lt_size e) (I.ok.cab x c hfn hc)))).trans e1⟩
    · by_cases hj : j = i
      · subst hj
        rw [hi] at e1; cases e1
        rw [List.getElem?_set_self hiσ] at e2
        cases e2
        exact ⟨u, r, .inr ⟨.inl hk, c, hc, hc'⟩⟩
      · rw [List.getElem?_set_ne (Ne.symm hj)] at e2
        obtain ⟨u', r', q⟩ := hl j y v' e1 e2 e3
        refine ⟨u', r', ?_⟩
        rcases q with q | ⟨k, c', e, z'⟩
        · exact .inl q
        · refine .inr ⟨k, c', e, z'.sameBut hs ?_⟩
          rintro rfl
          exact hj (nodup_ix hN e1 (I.ok.inj _ _ _ e hc ▸ hi))
    · by_cases hcc : c' = c
      · subst hcc; exact ⟨_, hc'⟩
      · obtain ⟨w2, z2⟩ := I.cell y c' e
        exact ⟨w2, z2.sameBut hs hcc⟩
    · obtain ⟨e, n, ne, nf, d⟩ := I.pin p hp
      refine ⟨(hs.2 p.1 ?_).trans e, n, ne, nf, d⟩
      intro q
      rw [q, hoc] at e
      have q' : oc = p.2 := Option.some.inj e
      exact d w' (by rw [← q']; exact hocd)
theorem store_ok {M : Model} {A : Around} {E : Value → Shared → Prop} {i : Nat} {x : Str} {v : V} {u : Value} {Q : Unit → Shared → Prop} (I : Inv X pins σ H s) (hN : X.N.Nodup) (hi : X.N[i]? = some x) (hx : Loc X.env.scope x) (r : RelV v u)
    (h : ∀ s', Inv X pins (σ.set i (some v)) H s' → Q () s') (hf : X.fn x = true ∨ X.env.scope.names.lookup x = some .local := by first | exact .inl rfl | exact .inr rfl | assumption) : wpAny M A (storeName X.env x u) Q E s :=
  store_ok2 I hN hi hx r (fun s' I' _ => h s' I') hf
/-- behind a call or a block, the state as it is -/
theorem Inv.call' {s' : Shared} {ch : List Addr} (I : Inv X pins σ H s) (ho : s'.os = s.os) (u : Un (frs X.stack) ch H H' s.heap s'.heap) (hok : HOk X.prog X.w H' s'.heap) (hg : AllBare s'.gens)
    (hch : ∀ b ∈ ch, (b ∈ X.ex ∨ X.s_0.heap.objs.size ≤ b) ∧ b ≠ X.env.locals ∧ (∀ x c, X.env.cells.lookup x = some c → c ≠ b) ∧ ∀ p ∈ X.pn ++ pins, p.1 ≠ b) : Inv X pins σ H' s' := by
  obtain ⟨h', g', d', t', o'⟩ := s'
  have e : o' = s.os := ho
  subst e
  exact I.call (g' := g') (t' := t') (d' := d') u hok hg hch
end
/-! ### the judgements -/
/-- an exception: its class, its own dict's address (where it has one), the abstract heap behind it -/
abbrev XK := Value → Option Addr → Hp → Prop
abbrev St := List (Option V)
abbrev VK := V → Hp → Prop
/-- an expression's reading; a test's; an argument list's -/
abbrev TE := St → Hp → VK → Prop
abbrev TT := St → Hp → (Bool → Hp → Prop) → Prop
abbrev TA := St → Hp → (List V → Hp → Prop) → Prop
/-- what is wanted behind a statement -/
structure Ends where
  nx : St → Hp → Prop
  rt : VK
  bk : St → Hp → Prop := fun _ _ => False
  ct : St → Hp → Prop := fun _ _ => False
abbrev TS := Ends → St → Hp → Prop

def EP (X : Cx) (pins : List (Addr × Obj)) (σ : St) (Q : VK) (u : Value) (s' : Shared) : Prop := ∃ v H', Inv X pins σ H' s' ∧ RelV v u ∧ Q v H'
def TP (X : Cx) (pins : List (Addr × Obj)) (σ : St) (Q : Bool → Hp → Prop) (b : Bool) (s' : Shared) : Prop := ∃ H', Inv X pins σ H' s' ∧ Q b H'
def AP (X : Cx) (pins : List (Addr × Obj)) (σ : St) (Q : List V → Hp → Prop) (us : List Value) (s' : Shared) : Prop := ∃ vs H', Inv X pins σ H' s' ∧ Vals vs us ∧ Q vs H'
def SP (X : Cx) (pins : List (Addr × Obj)) (D : Ends) (f : Flow) (s' : Shared) : Prop :=
  match f with
  | .next => ∃ σ' H', Inv X pins σ' H' s' ∧ D.nx σ' H'
  | .brk => ∃ σ' H', Inv X pins σ' H' s' ∧ D.bk σ' H'
  | .cont => ∃ σ' H', Inv X pins σ' H' s' ∧ D.ct σ' H'
  | .ret u => ∃ v σ' H', Inv X pins σ' H' s' ∧ RelV v u ∧ D.rt v H'

def PE (X : Cx) (e : Expr) (t : TE) : Prop :=
  ∀ (pins : List (Addr × Obj)) (s : Shared) (σ : St) (H : Hp) (Q : VK), Inv X pins σ H s → t σ H Q → wpAny (model X.prog X.w) X.A (eval e X.env) (EP X pins σ Q) X.xe s
def PT (X : Cx) (e : Expr) (t : TT) : Prop :=
  ∀ (pins : List (Addr × Obj)) (s : Shared) (σ : St) (H : Hp) (Q : Bool → Hp → Prop), Inv X pins σ H s → t σ H Q → wpAny (model X.prog X.w) X.A (isTrue e X.env (eval e X.env)) (TP X pins σ Q) X.xe s
/-- a test whatever its 'whole' is (and, or) -/
def PW (X : Cx) (e : Expr) (t : TT) : Prop :=
  ∀ (whole : Sem Value) (pins : List (Addr × Obj)) (s : Shared) (σ : St) (H : Hp) (Q : Bool → Hp → Prop), Inv X pins σ H s → t σ H Q → wpAny (model X.prog X.w) X.A (isTrue e X.env whole) (TP X pins σ Q) X.xe s
theorem PW.pt {X : Cx} {e : Expr} {t : TT} (h : PW X e t) : PT X e t := h _
/-- an argument list (no star), from the left -/
def PA (X : Cx) (es : List Expr) (t : TA) : Prop :=
  ∀ (pos : Pos) (pins : List (Addr × Obj)) (s : Shared) (σ : St) (H : Hp) (Q : List V → Hp → Prop), Inv X pins σ H s → t σ H Q → wpAny (model X.prog X.w) X.A (spliced (backTo pos (starEach es X.env))) (AP X pins σ Q) X.xe s
def PS (X : Cx) (st : Stmt) (t : TS) : Prop :=
  ∀ (pins : List (Addr × Obj)) (s : Shared) (σ : St) (H : Hp) (D : Ends), Inv X pins σ H s → t D σ H → wpAny (model X.prog X.w) X.A (exec st X.env) (SP X pins D) X.xe s
def PSs (X : Cx) (st : List Stmt) (t : TS) : Prop :=
  ∀ (pins : List (Addr × Obj)) (s : Shared) (σ : St) (H : Hp) (D : Ends), Inv X pins σ H s → t D σ H → wpAny (model X.prog X.w) X.A (execs st X.env) (SP X pins D) X.xe s
/-- weaken the end -/
theorem thn {α : Type} {t : Sem α} {Q Q' : α → Shared → Prop} {M : Model} {A : Around} {E : Value → Shared → Prop} {s : Shared} (h : wpAny M A t Q E s) (hQ : ∀ a s, Q a s → Q' a s) : wpAny M A t Q' E s := wpAny_mono h hQ fun _ _ x => x
end L2
namespace L2
open PySem PySem.Spec PyProof.Rows
section
variable {X : Cx}
/-! ### names and constants -/
def tVar (i : Nat) : TE := fun σ H Q => ∃ v, σ[i]? = some (some v) ∧ Q v H
def tC (v : V) : TE := fun _ H Q => Q v H
theorem pe_var {i : Nat} {x : Str} {pos : Pos} (hN : X.N[i]? = some x) (hv : Vis X.env.scope x) (hd : (x == ("__debug__" : Str)) = false := by decide) (hcd : (x == ("__classdict__" : Str)) = false := by decide) : PE X (.Name x pos) (tVar i) := by
  intro pins s σ H Q I h
  obtain ⟨v, e, h⟩ := h
  obtain ⟨m, hn, hl⟩ := I.loc
  obtain ⟨u, r, l⟩ := hl i x v hN e hv
  have fin : EP X pins σ Q u s := ⟨v, H, I, r, h⟩
  rcases l with ⟨hk, hm⟩ | ⟨hk, c, hc, hcell⟩
  · exact wpAny_Name (wpAny_loadName_local I.ok.kind hk hn hm fin) hd
  · rcases hk with hk | hk
    · exact wpAny_Name (wpAny_loadName_cell I.ok.kind hk hc hcell fin) hd
    · exact wpAny_Name (wpAny_loadName_free I.ok.kind hk hc hcell fin hcd) hd
theorem pe_int {i j pos} : PE X (.Constant (.int i) j pos) (tC (.int i)) := fun _ _ _ H _ I h => wpAny_Constant_int ⟨.int i, H, I.tok _, ⟨_, rfl⟩, h⟩
theorem pe_bl {b j pos} : PE X (.Constant (.bool b) j pos) (tC (.bl b)) := fun _ _ _ H _ I h => Constant_bool ⟨.bl b, H, I, rfl, h⟩
theorem pe_non {j pos} : PE X (.Constant .none j pos) (tC .non) := fun _ _ _ H _ I h => Constant_none ⟨.non, H, I, rfl, h⟩
/-- a global name of the def -/
def Gl (X : Cx) (x : Str) : Prop := X.env.kindOf x = some .globalImplicit
theorem ld_glob {E : Value → Shared → Prop} {pins : List (Addr × Obj)} {s : Shared} {σ : St} {H : Hp} {x : Str} {u : Value} {pos : Pos} {Q : Value → Shared → Prop} (I : Inv X pins σ H s) (hg : Gl X x) (hm : X.mg x = some u) (h : Q u s)
    (hd : (x == ("__debug__" : Str)) = false := by decide) : wpAny (model X.prog X.w) X.A (eval (.Name x pos) X.env) Q E s :=
  Calls.Name_function_global I.ok.kind hg (Calls.loadGlobal_global (by rw [I.ok.glob]; exact I.mod.glob.keeps I.bk) hm h) hd
theorem ld_blt {E : Value → Shared → Prop} {pins : List (Addr × Obj)} {s : Shared} {σ : St} {H : Hp} {x : Str} {u : Value} {pos : Pos} {Q : Value → Shared → Prop} (I : Inv X pins σ H s) (hg : Gl X x) (hm : X.mg x = none) (hv : bootBuiltins x = some u) (h : Q u s)
    (hn : x ≠ "__name__" := by decide) (hd : (x == ("__debug__" : Str)) = false := by decide) : wpAny (model X.prog X.w) X.A (eval (.Name x pos) X.env) Q E s := by
  obtain ⟨mb, h1, h2⟩ := I.mod.blt
  exact Calls.Name_function_global I.ok.kind hg (Calls.loadGlobal_builtin (by rw [I.ok.glob]; exact I.mod.glob.keeps I.bk) hm (by rw [I.ok.blt]; exact h1.keeps I.bk) ((h2 x hn).trans hv) h) hd
/-- a module's constant, a class, a function, as a value -/
theorem pe_glob {x : Str} {v : V} {u : Value} {pos : Pos} (hg : Gl X x) (hm : X.mg x = some u) (r : RelV v u) (hd : (x == ("__debug__" : Str)) = false := by decide) : PE X (.Name x pos) (tC v) :=
  fun _ _ _ H _ I h => ld_glob I hg hm ⟨v, H, I, r, h⟩ hd
/-! ### arithmetic -/
variable {a b : Expr} {ta tb : TE} {pos : Pos}
/-! ### comparisons -/
/-- a comparison as a value, as a test -/
def tB (t : TE) : TT := fun σ H Q => t σ H fun x H1 => ∃ c, x = .bl c ∧ Q c H1
/-- an expression whose value is a bool, as a test -/
theorem pt_val {e : Expr} {t : TE} (h : PE X e t) (he : ∀ whole, isTrue e X.env whole = (do let v ← whole; standAt e.pos; holding [v] (truthy v)) := by intro _; rfl) : PT X e (tB t) := by
  intro pins s σ H Q I hw
  refine isTrue_plain (thn (h pins s σ H _ I hw) fun v s1 ⟨x, H1, I1, r1, q1⟩ => ?_) (he _)
  obtain ⟨d, rfl, q⟩ := q1
  cases r1
  exact wpAny_truthy_bool ⟨H1, I1, q⟩

/-! ### and, or, not -/
variable {tA tB' : TT} {rest : List Expr}
def tAnd (t u : TT) : TT := fun σ H Q => t σ H fun c H1 => if c = true then u σ H1 Q else Q false H1
def tOr (t u : TT) : TT := fun σ H Q => t σ H fun c H1 => if c = true then Q true H1 else u σ H1 Q
def tNot (t : TT) : TT := fun σ H Q => t σ H fun c H1 => Q (!c) H1
theorem pw_and1 (ha : PT X a tA) : PW X (.BoolOp .And [a] pos) tA := by
  intro wh pins s σ H Q I h
  refine isTrue_and (thn (ha pins s σ H Q I h) fun c s1 e => ?_)
  cases c with
  | true => exact isTrue_and_nil e
  | false => exact e
theorem pw_or1 (ha : PT X a tA) : PW X (.BoolOp .Or [a] pos) tA := by
  intro wh pins s σ H Q I h
  refine isTrue_or (thn (ha pins s σ H Q I h) fun c s1 e => ?_)
  cases c with
  | false => exact isTrue_or_nil e
  | true => exact e
theorem pw_and (ha : PT X a tA) (hb : PW X (.BoolOp .And (b :: rest) pos) tB') : PW X (.BoolOp .And (a :: b :: rest) pos) (tAnd tA tB') := by
  intro wh pins s σ H Q I h
  refine isTrue_and (thn (ha pins s σ H _ I h) fun c s1 ⟨H1, I1, q1⟩ => ?_)
  cases c with
  | true => exact hb wh pins s1 σ H1 Q I1 q1
  | false => exact ⟨H1, I1, q1⟩
theorem pw_or (ha : PT X a tA) (hb : PW X (.BoolOp .Or (b :: rest) pos) tB') : PW X (.BoolOp .Or (a :: b :: rest) pos) (tOr tA tB') := by
  intro wh pins s σ H Q I h
  refine isTrue_or (thn (ha pins s σ H _ I h) fun c s1 ⟨H1, I1, q1⟩ => ?_)
  cases c with
  | true => exact ⟨H1, I1, q1⟩
  | false => exact hb wh pins s1 σ H1 Q I1 q1
theorem pt_not (ha : PT X a tA) : PT X (.UnaryOp .Not a pos) (tNot tA) := by
  intro pins s σ H Q I h
  exact isTrue_not (ha pins s σ H (fun c H1 => Q (!c) H1) I h)
/-- .. as values (bools) -/
def tAndV (ta tb : TE) : TE := fun σ H Q => ta σ H fun x H1 => ∃ c, x = .bl c ∧ if c = true then tb σ H1 Q else Q (.bl false) H1
theorem pe_one {op} {t : TE} (h : PE X a t) : PE X (.BoolOp op [a] pos) t := fun pins s σ H Q I hw => BoolOp_one (h pins s σ H Q I hw)
theorem pe_and (ha : PE X a ta) (hb : PE X (.BoolOp .And (b :: rest) pos) tb) : PE X (.BoolOp .And (a :: b :: rest) pos) (tAndV ta tb) := by
  intro pins s σ H Q I h
  refine BoolOp_and (thn (ha pins s σ H _ I h) fun v s1 ⟨x, H1, I1, r1, q1⟩ => ?_)
  obtain ⟨c, rfl, q1⟩ := q1
  cases r1
  refine wpAny_truthy_bool ?_
  cases c with
  | true => exact hb pins s1 σ H1 Q I1 q1
  | false => exact ⟨.bl false, H1, I1, rfl, q1⟩
end
end L2
namespace L2
open PySem PySem.Spec PyProof.Rows
/-! ### a list, a tuple that is read: tracked, frozen, or an object of the module -/
def SqL (K : PySem.W.Frag) (H : Hp) (a : Addr) (xs : List V) : Prop :=
  Rd H a (.lst xs) ∨
    ∃ (o : Obj) (its : Array Value) (n : Nat), K.lookup a = some o ∧ o.cls = .type "list" ∧ o.dict = none ∧ o.data = .seq its n ∧ its.size ≤ sizeLine ∧ Vals xs its.toList
def SqT (K : PySem.W.Frag) (H : Hp) (a : Addr) (xs : List V) : Prop :=
  Rd H a (.tup xs) ∨
    ∃ (o : Obj) (its : Array Value) (n : Nat), K.lookup a = some o ∧ o.cls = .type "tuple" ∧ o.data = .seq its n ∧ its.size ≤ sizeLine ∧ Vals xs its.toList
def absV : Value → Option V
  | .none => some .non
  | .bool b => some (.bl b)
  | .int i _ => some (.int i)
  | .str x _ => some (.str x)
  | .bytes b _ => some (.byt b)
  | .float b _ => some (.flt b)
  | .ref a => some (.ref a)
  | .type n => some (.ty n)
  | _ => none
theorem RelV.abs {x : V} {u : Value} (r : RelV x u) : absV u = some x := by
  cases x with
  | non => cases r; rfl
  | bl _ => cases r; rfl
  | int _ => obtain ⟨t, rfl⟩ := r; rfl
  | str _ => obtain ⟨t, rfl⟩ := r; rfl
  | byt _ => obtain ⟨t, rfl⟩ := r; rfl
  | flt _ => obtain ⟨t, rfl⟩ := r; rfl
  | ref _ => cases r; rfl
  | ty _ => cases r; rfl
theorem RelV.inj {x y : V} {u : Value} (r : RelV x u) (q : RelV y u) : x = y := Option.some.inj (r.abs.symm.trans q.abs)
theorem Vals.inj : ∀ {xs ys : List V} {us : List Value}, Vals xs us → Vals ys us → xs = ys
  | _, _, _, .nil, .nil => rfl
  | _, _, _, .cons r t, .cons r' t' => by rw [r.inj r', Vals.inj t t']
section
variable {X : Cx} {pins : List (Addr × Obj)} {σ : St} {H : Hp} {s : Shared} {a : Addr} {xs ys : List V}
theorem SqL.of {K : PySem.W.Frag} (h : H a = some (.lst xs)) : SqL K H a xs := .inl (.inl h)
theorem SqT.of {K : PySem.W.Frag} (h : H a = some (.tup xs)) : SqT K H a xs := .inl (.inl h)
theorem Inv.list (I : Inv X pins σ H s) (h : SqL X.K H a xs) : ∃ its : List Value, Vals xs its ∧ PlainL s.heap a its.toArray ∧ xs.length ≤ sizeLine := by
  rcases h with h | ⟨o, its, n, hk, hc, hd, hs, hz, r⟩
  · obtain ⟨z, its, n, r, e⟩ := h.ok I.hok
    exact ⟨its, r, ⟨_, n, e, rfl, rfl, rfl⟩, z⟩
  · refine ⟨its.toList, r, ⟨o, n, I.kIn a o hk, hc, hd, by simpa using hs⟩, ?_⟩
    have e := r.length
    simp only [Array.length_toList] at e
    omega
theorem Inv.tuple (I : Inv X pins σ H s) (h : SqT X.K H a xs) : ∃ its : List Value, Vals xs its ∧ IsTup s.heap a its.toArray ∧ xs.length ≤ sizeLine := by
  rcases h with h | ⟨o, its, n, hk, hc, hs, hz, r⟩
  · obtain ⟨z, its, r, p⟩ := h.ok I.hok
    exact ⟨its, r, p, z⟩
  · refine ⟨its.toList, r, ⟨o, I.kIn a o hk, hc, n, by simpa using hs⟩, ?_⟩
    have e := r.length
    simp only [Array.length_toList] at e
    omega
theorem Inv.list_inj (I : Inv X pins σ H s) (h : SqL X.K H a xs) (h' : SqL X.K H a ys) : xs = ys := by
  obtain ⟨its, r, ⟨o, n, e, _, _, d⟩, _⟩ := I.list h
  obtain ⟨its', r', ⟨o', n', e', _, _, d'⟩, _⟩ := I.list h'
  rw [e] at e'; cases e'
  rw [d] at d'
  injection d' with d1 _
  have : its = its' := by simpa using congrArg Array.toList d1
  subst this
  exact r.inj r'
end
/-! ### another wish about exceptions -/
abbrev Cx.wish (X : Cx) (E : Value → Shared → Prop) : Cx := { X with xe := E }
/-- no exception leaves -/
abbrev Cx.nox (X : Cx) : Cx := X.wish fun _ _ => False
theorem Cx.Ok.wish {X : Cx} (ok : X.Ok) (E : Value → Shared → Prop) : (X.wish E).Ok :=
  ⟨ok.mod, ok.kind, ok.glob, ok.blt, ok.above, ok.inj, ok.has, ok.cab, ok.hd, ok.frames, ok.stk, ok.exf, ok.bs, ok.bsz, ok.noex, ok.exfs, ok.funs, ok.frf⟩
theorem Cx.Ok.unwish {X : Cx} {E : Value → Shared → Prop} (ok : (X.wish E).Ok) : X.Ok :=
  ⟨ok.mod, ok.kind, ok.glob, ok.blt, ok.above, ok.inj, ok.has, ok.cab, ok.hd, ok.frames, ok.stk, ok.exf, ok.bs, ok.bsz, ok.noex, ok.exfs, ok.funs, ok.frf⟩
section
variable {X : Cx} {pins : List (Addr × Obj)} {σ : St} {H : Hp} {s : Shared} {E : Value → Shared → Prop}
theorem Inv.wish (I : Inv X pins σ H s) (E : Value → Shared → Prop) : Inv (X.wish E) pins σ H s := ⟨I.ok.wish E, I.os, I.bare, I.base, I.loc, I.cell, I.free, I.freeC, I.pin, I.hok, I.len⟩
theorem Inv.unwish (I : Inv (X.wish E) pins σ H s) : Inv X pins σ H s := ⟨I.ok.unwish, I.os, I.bare, I.base, I.loc, I.cell, I.free, I.freeC, I.pin, I.hok, I.len⟩
theorem SP.unwish {D : Ends} {f : Flow} {s' : Shared} (h : SP (X.wish E) pins D f s') : SP X pins D f s' := by
  cases f with
  | next => obtain ⟨σ', H', I, q⟩ := h; exact ⟨σ', H', I.unwish, q⟩
  | brk => obtain ⟨σ', H', I, q⟩ := h; exact ⟨σ', H', I.unwish, q⟩
  | cont => obtain ⟨σ', H', I, q⟩ := h; exact ⟨σ', H', I.unwish, q⟩
  | ret u => obtain ⟨v, σ', H', I, r, q⟩ := h; exact ⟨v, σ', H', I.unwish, r, q⟩
theorem PSs.nox {st : List Stmt} {t : TS} (h : PSs X.nox st t) : PSs X st t := fun pins s σ H D I hw =>
  wpAny_mono (h pins s σ H D (I.wish _) hw) (fun _ _ q => q.unwish) fun _ _ z => False.elim z
end
/-! ### blocks and small statements -/
section
variable {X : Cx} {st : Stmt} {rest : List Stmt} {t u : TS} {e : Expr} {te : TE} {pos : Pos}
def tNext : TS := fun D σ H => D.nx σ H
def tSeq (t u : TS) : TS := fun D σ H => t { D with nx := u D } σ H
theorem pss_nil : PSs X [] tNext := fun _ _ σ H _ I h => wpAny_execs_nil ⟨σ, H, I, h⟩
theorem pss_cons (h1 : PS X st t) (h2 : PSs X rest u) : PSs X (st :: rest) (tSeq t u) := by
  intro pins s σ H D I h
  refine wpAny_execs_cons (thn (h1 pins s σ H { D with nx := u D } I h) fun f s1 q => ?_)
  cases f with
  | next =>
    obtain ⟨σ', H', I', q⟩ := q
    exact h2 pins s1 σ' H' D I' q
  | ret v => exact q
  | brk => exact q
  | cont => exact q
theorem pss_one (h1 : PS X st t) : PSs X [st] t := by
  intro pins s σ H D I h
  refine wpAny_execs_cons (thn (h1 pins s σ H D I h) fun f s1 q => ?_)
  cases f with
  | next => exact wpAny_execs_nil q
  | ret v => exact q
  | brk => exact q
  | cont => exact q
/-- in a def's body nothing is shown -/
theorem Inv.quiet {pins : List (Addr × Obj)} {σ : St} {H : Hp} {s : Shared} (I : Inv X pins σ H s) : interactive X.env = false := by simp [interactive, I.ok.kind]
/-- an expression whose value is dropped -/
def tDrop (te : TE) : TS := fun D σ H => te σ H fun _ H1 => D.nx σ H1
theorem ps_expr (he : PE X e te) (hs : swapsWith e none pos.line X.env = pure false := by rfl) : PS X (.Expr e pos) (tDrop te) := by
  intro pins s σ H D I h
  exact wpAny_Expr_any (thn (he pins s σ H _ I h) fun v s1 ⟨x, H1, I1, r1, q1⟩ => ⟨σ, H1, I1, q1⟩) I.quiet hs
def tRet (te : TE) : TS := fun D σ H => te σ H D.rt
theorem ps_ret (he : PE X e te) : PS X (.Return (some e) pos) (tRet te) := by
  intro pins s σ H D I h
  exact wpAny_Return_some (thn (he pins s σ H _ I h) fun v s1 ⟨x, H1, I1, r1, q1⟩ => ⟨x, σ, H1, I1, r1, q1⟩)
def tIfS (c : TT) (t u : TS) : TS := fun D σ H => c σ H fun b H1 => if b = true then t D σ H1 else u D σ H1
theorem ps_if {c : Expr} {a b : List Stmt} {tc : TT} (hc : PT X c tc) (ha : PSs X a t) (hb : PSs X b u) : PS X (.If c a b pos) (tIfS tc t u) := by
  intro pins s σ H D I h
  refine wpAny_If (thn (hc pins s σ H _ I h) fun d s1 ⟨H1, I1, q1⟩ => ?_)
  cases d with
  | true => exact ha pins s1 σ H1 D I1 q1
  | false => exact hb pins s1 σ H1 D I1 q1
end
/-! ### targets -/
abbrev TG := V → St → Hp → (St → Hp → Prop) → Prop
abbrev TGs := List V → St → Hp → (St → Hp → Prop) → Prop
def PG (X : Cx) (target : Expr) (t : TG) : Prop :=
  ∀ (pins : List (Addr × Obj)) (s : Shared) (σ : St) (H : Hp) (v : V) (u : Value) (Q : St → Hp → Prop), Inv X pins σ H s → RelV v u → t v σ H Q →
    wpAny (model X.prog X.w) X.A (assign target X.env u) (fun _ s' => ∃ σ' H', Inv X pins σ' H' s' ∧ Q σ' H') X.xe s
/-- several targets, one after another -/
def PGs (X : Cx) (ts : List Expr) (t : TGs) : Prop :=
  ∀ (pins : List (Addr × Obj)) (s : Shared) (σ : St) (H : Hp) (vs : List V) (us : List Value) (Q : St → Hp → Prop), Inv X pins σ H s → Vals vs us → t vs σ H Q →
    wpAny (model X.prog X.w) X.A (assignInOrder ((assignEach ts X.env).map (·.2)) us) (fun _ s' => ∃ σ' H', Inv X pins σ' H' s' ∧ Q σ' H') X.xe s
/-- o[i] = v, by values -/
abbrev TSet := V → V → V → Hp → (Hp → Prop) → Prop
def PSet (X : Cx) (t : TSet) : Prop :=
  ∀ (pins : List (Addr × Obj)) (s : Shared) (σ : St) (H : Hp) (o i v : V) (ov iv u : Value) (Q : Hp → Prop), Inv X pins σ H s → RelV o ov → RelV i iv → RelV v u → t o i v H Q →
    wpAny (model X.prog X.w) X.A (setItem ov iv u) (fun _ s' => ∃ H', Inv X pins σ H' s' ∧ Q H') X.xe s
section
variable {X : Cx} {pos : Pos}
def gName (i : Nat) : TG := fun v σ H Q => Q (σ.set i (some v)) H
theorem pg_name {i : Nat} {x : Str} (hN : X.N.Nodup) (hi : X.N[i]? = some x) (hx : Loc X.env.scope x) (hf : X.fn x = true ∨ X.env.scope.names.lookup x = some .local := by first | exact .inl rfl | exact .inr rfl | assumption) : PG X (.Name x pos) (gName i) := by
  intro pins s σ H v u Q I r h
  exact wpAny_assign_Name (store_ok I hN hi hx r (fun s' I' => ⟨_, H, I', h⟩) hf)
def gNil : TGs := fun vs σ H Q => vs = [] ∧ Q σ H
def gCons (t : TG) (u : TGs) : TGs := fun vs σ H Q => ∃ v r, vs = v :: r ∧ t v σ H fun σ' H' => u r σ' H' Q
theorem pgs_nil : PGs X [] gNil := by
  intro pins s σ H vs us Q I r h
  obtain ⟨e, h⟩ := h
  subst e
  cases r
  exact assignInOrder_nil ⟨σ, H, I, h⟩
theorem pgs_cons {e : Expr} {es : List Expr} {t : TG} {u : TGs} (h1 : PG X e t) (h2 : PGs X es u)
    (hs : (assignEach (e :: es) X.env).map (·.2) = assign e X.env :: (assignEach es X.env).map (·.2) := by rfl) : PGs X (e :: es) (gCons t u) := by
  intro pins s σ H vs us Q I r h
  obtain ⟨v, vr, e1, h⟩ := h
  subst e1
  cases r with
  | cons r rr =>
    rw [hs]
    refine assignInOrder_cons (thn (h1 pins s σ H _ _ _ I r h) fun _ s1 ⟨σ1, H1, I1, q1⟩ => ?_)
    exact h2 pins s1 σ1 H1 _ _ Q I1 rr q1
/-- (a, b, ..) = a tuple of that length -/
def gTup (K : PySem.W.Frag) (n : Nat) (t : TGs) : TG := fun v σ H Q => ∃ a xs, v = .ref a ∧ SqT K H a xs ∧ xs.length = n ∧ t xs σ H Q
theorem pg_tup {es : List Expr} {k : Nat} {t : TGs} {n : Nat} (hc : X.calm = true) (h : PGs X es t)
    (hn : (assignEach es X.env).length = n := by rfl) (hst : (assignEach es X.env).findIdx? (·.1) = none := by rfl) : PG X (.Tuple es k pos) (gTup X.K n t) := by
  intro pins s σ H v u Q I r hw
  obtain ⟨a, xs, e1, hq, hl, hw⟩ := hw
  subst e1
  cases r
  obtain ⟨its, rv, ht, hz⟩ := I.tuple hq
  refine assign_Tuple_tuple (I.ok.hd hc) ht (by simp [hn, ← hl, rv.length]) hst fun h' hx => ?_
  have I1 : Inv X pins σ H { s with heap := h' } := I.kept (t' := s.toks) fun b o e => hx b o (Nat.ne_of_lt (Heap.lt_size e)) e
  exact h pins _ σ H xs _ Q I1 (by simpa using rv) hw
/-- o[i] = .. -/
def gSub (to ti : TE) (t : TSet) : TG := fun v σ H Q => to σ H fun o H1 => ti σ H1 fun i H2 => t o i v H2 fun H3 => Q σ H3
theorem pg_sub {o i : Expr} {to ti : TE} {t : TSet} (ho : PE X o to) (hi : PE X i ti) (hs : PSet X t)
    (ha : ∀ v, assign (.Subscript o i pos) X.env v = (do
      let ov ← holding [v] (eval o X.env)
      let iv ← holding [v, ov] (eval i X.env)
      standAt pos
      holding [v, ov, iv] (setItem ov iv v)
      release [v, ov, iv] []) := by intro _; rfl) : PG X (.Subscript o i pos) (gSub to ti t) := by
  intro pins s σ H v u Q I r h
  rw [ha]
  refine wpAny_bind (wpAny_holding (thn (ho pins s σ H _ I h) fun ov s1 ⟨x, H1, I1, r1, q1⟩ => ?_))
  refine wpAny_bind (wpAny_holding (thn (hi pins s1 σ H1 _ I1 q1) fun iv s2 ⟨y, H2, I2, r2, q2⟩ => ?_))
  refine wpAny_bind (wpAny_standAt (wpAny_bind (wpAny_holding (thn (hs pins s2 σ H2 x y v ov iv u _ I2 r1 r2 r q2) fun _ s3 ⟨H3, I3, q3⟩ => ?_))))
  exact wpAny_release ⟨σ, H3, I3, q3⟩
/-- target = value -/
def tAsg (te : TE) (g : TG) : TS := fun D σ H => te σ H fun x H1 => g x σ H1 D.nx
theorem ps_asg {tg e : Expr} {te : TE} {g : TG} (he : PE X e te) (hg : PG X tg g) (hs : swapsWithSole [tg] e pos.line X.env = pure false := by rfl) (hw : swappedStores [tg] e X.env = pure none := by rfl)
    (h1 : (assignEach [tg] X.env).map (·.2) = [assign tg X.env] := by rfl) : PS X (.Assign [tg] e pos) (tAsg te g) := by
  intro pins s σ H D I h
  refine wpAny_Assign_stores (thn (he pins s σ H _ I h) fun v s1 ⟨x, H1, I1, r1, q1⟩ => ?_) hs hw
  rw [h1]
  exact thn (hg pins s1 σ H1 x v _ I1 r1 q1) fun _ s2 q => q
/-- name = value -/
theorem ps_set {i : Nat} {x : Str} {e : Expr} {te : TE} {pos' : Pos} (hN : X.N.Nodup) (hi : X.N[i]? = some x) (hx : Loc X.env.scope x) (he : PE X e te) (hs : swapsWith e (some (.Name x pos')) pos.line X.env = pure false := by rfl) (hf : X.fn x = true ∨ X.env.scope.names.lookup x = some .local := by first | exact .inl rfl | exact .inr rfl | assumption) :
    PS X (.Assign [.Name x pos'] e pos) (tAsg te (gName i)) := by
  intro pins s σ H D I h
  refine wpAny_Assign_Name (thn (he pins s σ H _ I h) fun v s1 ⟨y, H1, I1, r1, q1⟩ => ?_) hs
  exact store_ok I1 hN hi hx r1 (fun s2 I2 => ⟨_, H1, I2, q1⟩) hf
end
/-! ### while -/
section
variable {X : Cx} {pos : Pos}
/-- the invariant W with its measure -/
def tWhile (c : TT) (tb : TS) : TS := fun D σ H => ∃ W : Nat → St → Hp → Prop, (∃ m, W m σ H) ∧ ∀ m σ H, W m σ H →
  c σ H fun b H1 => if b = true then ∃ N : St → Hp → Prop, (∀ σ' H', N σ' H' → ∃ m', m' < m ∧ W m' σ' H') ∧ tb { D with nx := N, ct := N, bk := D.nx } σ H1 else D.nx σ H1
theorem ps_while {c : Expr} {body : List Stmt} {tc : TT} {tb : TS} (hp : PassesOwn (model X.prog X.w) X.A X.env X.xe) (hc : PT X c tc) (hb : PSs X body tb) : PS X (.While c body [] pos) (tWhile tc tb) := by
  intro pins s σ H D I h
  obtain ⟨W, ⟨m0, w0⟩, turn⟩ := h
  refine wpAny_While (codeAny_whileLoop (fun n s' => ∃ σ' H', Inv X pins σ' H' s' ∧ W n σ' H') ?_ m0 ⟨σ, H, I, w0⟩)
  rintro n s1 ⟨σ1, H1, I1, w1⟩
  refine wpAny_passesOwn hp (thn (hc pins s1 σ1 H1 _ I1 (turn n σ1 H1 w1)) fun b s2 ⟨H2, I2, q2⟩ => ?_)
  cases b with
  | true =>
    obtain ⟨N, hN, q2⟩ := q2
    rw [if_pos rfl]
    refine wpAny_passesOwn hp (thn (hb pins s2 σ1 H2 _ I2 q2) fun f s3 q3 => ?_)
    cases f with
    | next =>
      obtain ⟨σ3, H3, I3, n3⟩ := q3
      obtain ⟨m', hm, w3⟩ := hN σ3 H3 n3
      exact ⟨m', hm, σ3, H3, I3, w3⟩
    | cont =>
      obtain ⟨σ3, H3, I3, n3⟩ := q3
      obtain ⟨m', hm, w3⟩ := hN σ3 H3 n3
      exact ⟨m', hm, σ3, H3, I3, w3⟩
    | brk => exact q3
    | ret v => exact q3
  | false =>
    rw [if_neg Bool.false_ne_true]
    exact wpAny_execs_nil ⟨σ1, H2, I2, q2⟩
end
/-! ### what a loop or a comprehension walks -/
/-- at turn i: it yields x (the heap may grow), or it stops -/
structure It where
  go : Nat → Hp → Prop
  yld : Nat → Hp → V → Hp → Prop
  stop : Nat → Hp → Prop
/-- the iterator's own objects may turn: they are not the frame's, not pinned, younger than the entry (or a comprehension's own) -/
def FpOk (X : Cx) (pins : List (Addr × Obj)) (H : Hp) (b : Addr) : Prop :=
  H b = none ∧ b ≠ X.env.locals ∧ b ∉ X.fs ∧ (b ∈ X.ex ∨ X.s_0.heap.objs.size ≤ b) ∧ (∀ x c, X.env.cells.lookup x = some c → c ≠ b) ∧ ∀ p ∈ X.pn ++ pins, p.1 ≠ b
theorem Inv.fpOk {X : Cx} {pins : List (Addr × Obj)} {σ : St} {H H' : Hp} {s : Shared} {b : Addr} (I : Inv X pins σ H s) (hb : s.heap.objs.size ≤ b) (hn : H' b = none) : FpOk X pins H' b := by
  refine ⟨hn, Nat.ne_of_gt (Nat.lt_of_lt_of_le I.lt hb), I.nofs hb, .inr (Nat.le_trans I.sz hb), fun x c e z => ?_, fun p hp z => ?_⟩
  · obtain ⟨v, q⟩ := I.cell x c e
    exact absurd (Nat.lt_of_lt_of_le q.lt (by rw [z]; exact hb)) (Nat.lt_irrefl _)
  · exact absurd (Nat.lt_of_lt_of_le (Heap.lt_size (I.pin p hp).1) (by rw [z]; exact hb)) (Nat.lt_irrefl _)
structure Turn (P : Program) (w : World) (K : PySem.W.Frag) (tg : Expr) (J : It) (fp : List Addr) (it : Addr) (tn : Nat → Heap → Prop) : Prop where
  mem : it ∈ fp
  obj : ∀ i h, tn i h → ∀ b ∈ fp, ∃ o, h.get? b = some o ∧ ∀ v, o.data ≠ .cell v
  keep : ∀ i h h', tn i h → (∀ b ∈ fp, ∀ o, h.get? b = some o → h'.get? b = some o) → tn i h'
  item : ∀ (X : Cx), X.prog = P → X.w = w → X.K = K → X.calm = true → ∀ (i : Nat) (pins : List (Addr × Obj)) (s : Shared) (σ : St) (H : Hp) (E : Value → Shared → Prop), Inv X pins σ H s → (∀ b ∈ fp, FpOk X pins H b) → tn i s.heap → J.go i H →
    wpAny (model P w) X.A (pyNext (.ref it)) (fun r s1 => ∃ u, r = some u ∧
      wpAny (model P w) X.A (letOwnedTupleGo tg (.ref it) u) (fun _ s2 => ∃ x H', Inv X pins σ H' s2 ∧ RelV x u ∧ J.yld i H x H' ∧ tn (i + 1) s2.heap ∧ ∀ b ∈ fp, H' b = none) E s1) E s
  done : ∀ (X : Cx), X.prog = P → X.w = w → X.K = K → X.calm = true → ∀ (i : Nat) (pins : List (Addr × Obj)) (s : Shared) (σ : St) (H : Hp) (E : Value → Shared → Prop), Inv X pins σ H s → (∀ b ∈ fp, FpOk X pins H b) → tn i s.heap → J.stop i H →
    wpAny (model P w) X.A (pyNext (.ref it)) (fun r s1 => r = none ∧ Inv X pins σ H s1) E s
  self : ∀ (A : Around) (i : Nat) (s : Shared) (Q : Value → Shared → Prop) (E : Value → Shared → Prop), tn i s.heap → Q (.ref it) s → wpAny (model P w) A (pyIter (.ref it)) Q E s
abbrev TI := St → Hp → (It → Hp → Prop) → Prop
/-- an iterator has come -/
def PIE (X : Cx) (pins : List (Addr × Obj)) (σ : St) (tg : Expr) (R : It → Hp → Prop) (itv : Value) (s2 : Shared) : Prop :=
  ∃ (it : Addr) (fp : List Addr) (tn : Nat → Heap → Prop) (J : It) (H' : Hp), itv = .ref it ∧ Inv X pins σ H' s2 ∧ Turn X.prog X.w X.K tg J fp it tn ∧ tn 0 s2.heap ∧ (∀ b ∈ fp, FpOk X pins H' b) ∧ R J H'
def PI (X : Cx) (tg iter : Expr) (wi : TI) : Prop :=
  ∀ (pins : List (Addr × Obj)) (s : Shared) (σ : St) (H : Hp) (R : It → Hp → Prop), Inv X pins σ H s → wi σ H R →
    wpAny (model X.prog X.w) X.A (eval iter X.env) (fun v s1 => wpAny (model X.prog X.w) X.A (pyIter v) (PIE X pins σ tg R) X.xe s1) X.xe s

/-- the step ahead of the store is nothing for an iterator that keeps no tuple -/
theorem go_of {M : Model} {A : Around} {E : Value → Shared → Prop} {s : Shared} {tg : Expr} {it : Addr} {u : Value} {o : Obj} {n : String} {vs : Array Value} {Q : Unit → Shared → Prop} (ho : s.heap.get? it = some o) (hc : o.cls = .type n) (hd : o.data = .fields vs)
    (hn : ["enumerate", "zip", "dict_itemiterator", "dict_reverseitemiterator", "odict_iterator", "itertools.zip_longest", "itertools.pairwise"].contains n = false) (hQ : Q () s) : wpAny M A (letOwnedTupleGo tg (.ref it) u) Q E s := by
  unfold letOwnedTupleGo
  cases tg <;> first
    | exact wpAny_pure hQ
    | (cases u <;> first
        | exact wpAny_pure hQ
        | (refine wpAny_bind (wpAny_load ho ?_)
           rw [hc, hd]
           show wpAny M A (if (["enumerate", "zip", "dict_itemiterator", "dict_reverseitemiterator", "odict_iterator", "itertools.zip_longest", "itertools.pairwise"].contains n && vs[0]? == some (rawInt _)) = true then _ else _) Q E s
           rw [if_neg (by intro h; rw [hn, Bool.false_and] at h; cases h)]
           exact wpAny_pure hQ))

/-- the list at a, as it stands at each turn (a loop may append to it) -/
def Itl (K : PySem.W.Frag) (a : Addr) : It :=
  ⟨fun i H => ∃ xs x, SqL K H a xs ∧ xs[i]? = some x, fun i H x H' => H' = H ∧ ∀ xs, SqL K H a xs → xs[i]? = some x, fun i H => ∃ xs, SqL K H a xs ∧ xs.length ≤ i⟩
/-- lo, lo + 1, .. (n of them) -/
def Itr (lo : Int) (n : Nat) : It := ⟨fun i _ => i < n, fun i H x H' => H' = H ∧ x = .int (lo + i), fun i _ => n ≤ i⟩
theorem turn_list {P : Program} {w : World} {K : PySem.W.Frag} {tg : Expr} (a it : Addr) : Turn P w K tg (Itl K a) [it] it (fun i h => h.IsListIter it a i) where
  mem := by simp
  obj := fun i h st b hb => by
    have e : b = it := by simpa using hb
    subst e
    obtain ⟨o, e, c, d⟩ := st
    exact ⟨o, e, fun v z => by rw [d] at z; cases z⟩
  keep := fun i h h' st k => st.at fun o e => k it (by simp) o e
  item := by
    intro X hP hw hK hc i pins s σ H E I hf st hg
    subst hP hw hK
    obtain ⟨xs, x, hq, hx⟩ := hg
    obtain ⟨its, rv, p, hz⟩ := I.list hq
    obtain ⟨u, hu, ru⟩ := rv.get hx
    obtain ⟨f0, f1, f2, f3, f4, f5⟩ := hf it (by simp)
    refine wpAny_pyNext_list_item st p.isList (x := u) (by simpa using hu) fun h' st' sb => ?_
    have I1 : Inv X pins σ H { s with heap := h' } := I.turned (t' := s.toks) (fun b o hb e => (sb.2 b hb).trans e) f0 f1 f3 f4 f5
    obtain ⟨o, e, c, d⟩ := id st'
    exact ⟨u, rfl, go_of (s := { s with heap := h' }) e c d (by decide) ⟨x, H, I1, ru, ⟨rfl, fun ys hy => by rw [I.list_inj hy hq]; exact hx⟩, st', fun b hb => (hf b hb).1⟩⟩
  done := by
    intro X hP hw hK hc i pins s σ H E I hf st hg
    subst hP hw hK
    obtain ⟨xs, hq, hx⟩ := hg
    obtain ⟨its, rv, p, hz⟩ := I.list hq
    obtain ⟨f0, f1, f2, f3, f4, f5⟩ := hf it (by simp)
    have hl := rv.length
    exact wpAny_pyNext_list_end (I.ok.hd hc) st p.isList (by simp; omega) fun h' eb => ⟨rfl, I.turned (t' := s.toks) (fun b o hb e => eb b o hb e) f0 f1 f3 f4 f5⟩
  self := fun _ _ _ _ _ st h => wpAny_pyIter_listiter st h
theorem turn_range {P : Program} {w : World} {K : PySem.W.Frag} {tg : Expr} (it : Addr) (lo : Int) (n : Nat) : Turn P w K tg (Itr lo n) [it] it (fun i h => IsRangeIter h it (lo + (i : Nat) * 1) ((n : Int) - (i : Nat)) 1) where
  mem := by simp
  obj := fun i h st b hb => by
    have e : b = it := by simpa using hb
    subst e
    exact ⟨_, st, fun v z => by
      have z' : Data.fields _ = Data.cell v := z
      cases z'⟩
  keep := fun i h h' st k => k it (by simp) _ st
  item := by
    intro X hP hw hK hc i pins s σ H E I hf st hg
    subst hP hw hK
    obtain ⟨f0, f1, f2, f3, f4, f5⟩ := hf it (by simp)
    have W := Walks.range (prog := X.prog) (w := X.w) (I.ok.hd hc) it lo 1 n
    refine W.item i s _ _ hg st fun v h' tk hv st' kk => ?_
    obtain ⟨t, rfl⟩ := hv
    have I1 : Inv X pins σ H { s with heap := h', toks := tk } := I.turned (fun b o hb e => kk b o (by simpa using hb) e) f0 f1 f3 f4 f5
    refine ⟨_, rfl, go_of (s := { s with heap := h', toks := tk }) (n := "range_iterator") st' rfl rfl (by decide) ⟨.int (lo + i), H, I1, ⟨t, ?_⟩, ⟨rfl, rfl⟩, st', fun b hb => (hf b hb).1⟩⟩
    rw [Int.mul_one]
  done := by
    intro X hP hw hK hc i pins s σ H E I hf st hg
    subst hP hw hK
    obtain ⟨f0, f1, f2, f3, f4, f5⟩ := hf it (by simp)
    exact wpAny_pyNext_range_end (I.ok.hd hc) st (by have : n ≤ i := hg; omega) fun h' eb => ⟨rfl, I.turned (t' := s.toks) (fun b o hb e => eb b o hb e) f0 f1 f3 f4 f5⟩
  self := fun _ _ _ _ _ st h => wpAny_pyIter_rangeiter st h
end L2
namespace L2
open PySem PySem.Spec PyProof.Rows
section
variable {X : Cx} {tg : Expr}
def iList (K : PySem.W.Frag) (tl : TE) : TI := fun σ H R => tl σ H fun x H1 => ∃ a, x = .ref a ∧ (∃ xs, SqL K H1 a xs) ∧ R (Itl K a) H1
theorem pi_list {l : Expr} {tl : TE} (hl : PE X l tl) : PI X tg l (iList X.K tl) := by
  intro pins s σ H R I h
  refine thn (hl pins s σ H _ I h) fun v s1 ⟨x, H1, I1, r1, q1⟩ => ?_
  obtain ⟨a, e, ⟨xs, hq⟩, q⟩ := q1
  subst e
  cases r1
  obtain ⟨its, rv, p, hz⟩ := I1.list hq
  refine wpAny_pyIter_list p.isList ?_
  refine ⟨s1.heap.objs.size, [s1.heap.objs.size], _, _, H1, rfl, I1.kept (t' := s1.toks) fun b o e => Heap.get?_push_of_some _ e, turn_list a _, ⟨_, Heap.get?_push_size _ rfl, rfl, rfl⟩, fun b hb => ?_, q⟩
  have e : b = s1.heap.objs.size := by simpa using hb
  subst e
  exact I1.fpOk (Nat.le_refl _) (I1.hok.fresh (Nat.le_refl _))
/-- a range object just made, walked -/
theorem range_it {pins : List (Addr × Obj)} {σ : St} {H : Hp} {s : Shared} {R : It → Hp → Prop} {E : Value → Shared → Prop} {lo hi : Int} {t u v : Tok} {tk : Nat} (I : Inv X pins σ H s) (h1 : -(2 ^ 62) ≤ lo) (h2 : lo < 2 ^ 62) (h3 : -(2 ^ 62) ≤ hi) (h4 : hi < 2 ^ 62)
    (q : R (Itr lo (hi - lo).toNat) H) : wpAny (model X.prog X.w) X.A (pyIter (.ref s.heap.objs.size)) (PIE X pins σ tg R) E { s with heap := s.heap.push { cls := .type "range", data := .fields #[.int lo t, .int hi u, .int 1 v] }, toks := tk } := by
  refine wpAny_pyIter_range (IsRange.new ..) (small_one h1 h2 h3 h4) ?_
  have I1 : Inv X pins σ H { s with heap := s.heap.push { cls := .type "range", data := .fields #[.int lo t, .int hi u, .int 1 v] }, toks := tk } := I.kept fun b o e => Heap.get?_push_of_some _ e
  refine ⟨(s.heap.push { cls := .type "range", data := .fields #[.int lo t, .int hi u, .int 1 v] }).objs.size, [(s.heap.push { cls := .type "range", data := .fields #[.int lo t, .int hi u, .int 1 v] }).objs.size], _, _, H, rfl,
    I1.kept (t' := tk) fun b o e => Heap.get?_push_of_some _ e, turn_range _ lo (hi - lo).toNat, ?_, fun b hb => ?_, q⟩
  · have e1 : lo + ((0 : Nat) : Int) * 1 = lo := by simp
    have e2 : (((hi - lo).toNat : Nat) : Int) - ((0 : Nat) : Int) = Builtin.Range.rangeSize lo hi 1 := by rw [rangeSize_one]; split <;> omega
    show IsRangeIter _ _ (lo + ((0 : Nat) : Int) * 1) ((((hi - lo).toNat : Nat) : Int) - ((0 : Nat) : Int)) 1
    rw [e1, e2]
    exact Heap.get?_push_size _ rfl
  · have e : b = (s.heap.push { cls := .type "range", data := .fields #[.int lo t, .int hi u, .int 1 v] }).objs.size := by simpa using hb
    subst e
    exact I1.fpOk (Nat.le_refl _) (I1.hok.fresh (Nat.le_refl _))
def iRng1 (ta : TA) : TI := fun σ H R => ta σ H fun vs H1 => ∃ j : Int, vs = [.int j] ∧ -(2 ^ 62) ≤ j ∧ j < 2 ^ 62 ∧ R (Itr 0 j.toNat) H1
theorem pi_range1 {a : Expr} {ta : TA} {p pos : Pos} (hg : Gl X "range") (hm : X.mg "range" = none) (ha : PA X [a] ta) (hs : starEach [a] X.env = [(false, eval a X.env)] := by rfl) : PI X tg (.Call (.Name "range" p) [a] [] pos) (iRng1 ta) := by
  intro pins s σ H R I h
  refine Call_ (ld_blt I hg hm boot_range (PyProof.Rows.callWith_type1 (thn (ha pos pins s σ H _ I h) fun us s1 ⟨vs, H1, I1, r1, q1⟩ => ?_) hs rfl))
  obtain ⟨j, e, q1, q2, q⟩ := q1
  subst e
  cases r1 with
  | cons r rr =>
    cases rr
    obtain ⟨t, rfl⟩ := r
    exact call_range_1 (range_it I1 (by omega) (by omega) q1 q2 (by simpa using q))
/-! ### for -/
/-- W: the invariant by the turn and a measure; N: what the body is to reach -/
def tFor (wi : TI) (g : TG) (tb : TS) : TS := fun D σ H => wi σ H fun J H1 => ∃ W : Nat → Nat → St → Hp → Prop, (∃ m, W 0 m σ H1) ∧ ∀ i m σ H, W i m σ H →
  (J.stop i H ∧ D.nx σ H) ∨ (J.go i H ∧ ∃ N : St → Hp → Prop, (∀ σ' H', N σ' H' → ∃ m', m' < m ∧ W (i + 1) m' σ' H') ∧ ∀ x H', J.yld i H x H' → g x σ H' fun σ2 H2 => tb { D with nx := N, ct := N, bk := D.nx } σ2 H2)
/-- the records at fp as they stand -/
def pinsAt (fp : List Addr) (h : Heap) : List (Addr × Obj) := fp.filterMap fun b => (h.get? b).map fun o => (b, o)
theorem mem_pinsAt {fp : List Addr} {h : Heap} {b : Addr} {o : Obj} (hb : b ∈ fp) (e : h.get? b = some o) : (b, o) ∈ pinsAt fp h := List.mem_filterMap.mpr ⟨b, hb, by rw [e]; rfl⟩
theorem of_pinsAt {fp : List Addr} {h : Heap} {p : Addr × Obj} (hp : p ∈ pinsAt fp h) : p.1 ∈ fp ∧ h.get? p.1 = some p.2 := by
  obtain ⟨b, hb, e⟩ := List.mem_filterMap.mp hp
  cases q : h.get? b with
  | none => rw [q] at e; cases e
  | some o =>
    rw [q] at e
    have e' : (b, o) = p := Option.some.inj e
    subst e'
    exact ⟨hb, q⟩
theorem Inv.pinned {pins : List (Addr × Obj)} {σ : St} {H : Hp} {s : Shared} {fp : List Addr} (I : Inv X pins σ H s) (hf : ∀ b ∈ fp, FpOk X pins H b) (ho : ∀ b ∈ fp, ∃ o, s.heap.get? b = some o ∧ ∀ v, o.data ≠ .cell v) : Inv X (pins ++ pinsAt fp s.heap) σ H s :=
  I.pins_of fun p hp => (List.mem_append.mp hp).elim (fun z => I.pin p (List.mem_append_right _ z)) fun z => by
    obtain ⟨hb, e⟩ := of_pinsAt z
    obtain ⟨f0, f1, f2, _⟩ := hf p.1 hb
    obtain ⟨o, e', d⟩ := ho p.1 hb
    rw [e] at e'; cases e'
    exact ⟨e, f0, f1, f2, d⟩
theorem Inv.unpinned {pins pl : List (Addr × Obj)} {σ : St} {H : Hp} {s : Shared} (I : Inv X (pins ++ pl) σ H s) : Inv X pins σ H s := I.pins_of fun p hp => I.pin p (List.mem_append_right _ (List.mem_append_left _ hp))
theorem ps_for {iter : Expr} {body : List Stmt} {wi : TI} {g : TG} {tb : TS} {pos : Pos} (hp : PassesOwn (model X.prog X.w) X.A X.env X.xe) (hc : X.calm = true) (hi : PI X tg iter wi) (hg : PG X tg g) (hb : PSs X body tb)
    (hs : ∀ x, foldedSetIterable iter X.env x = pure x := by intro _; rfl) : PS X (.For tg iter body [] pos) (tFor wi g tb) := by
  intro pins s σ H D I h
  refine wpAny_For (thn (hi pins s σ H _ I h) fun v s1 h1 => thn h1 fun itv s2 h2 => ?_) hs
  obtain ⟨it, fp, tn, J, H2, e, I2, T, st2, f2, W, ⟨m0, w0⟩, turn⟩ := h2
  subst e
  -- what stays true of the iterator's objects through the loop
  have stat : ∀ {H' : Hp}, (∀ b ∈ fp, H' b = none) → ∀ b ∈ fp, FpOk X pins H' b := fun hn b hb => ⟨hn b hb, (f2 b hb).2⟩
  refine codeAny_forLoop_any (fun n s' => ∃ i σ' H', Inv X pins σ' H' s' ∧ tn i s'.heap ∧ (∀ b ∈ fp, H' b = none) ∧ W i n σ' H') ?_ m0 ⟨0, σ, H2, I2, st2, fun b hb => (f2 b hb).1, w0⟩
  rintro n s3 ⟨i, σ3, H3, I3, st3, fr3, w3⟩
  rcases turn i n σ3 H3 w3 with ⟨stop, qn⟩ | ⟨go, N, hN, step⟩
  · refine wpAny_passesOwn hp (thn (T.done X rfl rfl rfl hc i pins s3 σ3 H3 X.xe I3 (stat fr3) st3 stop) fun r s4 ⟨hr, I4⟩ => ?_)
    subst hr
    exact wpAny_execs_nil ⟨σ3, H3, I4, qn⟩
  · refine wpAny_passesOwn hp (thn (T.item X rfl rfl rfl hc i pins s3 σ3 H3 X.xe I3 (stat fr3) st3 go) fun r s4 ⟨u, hr, h4⟩ => ?_)
    subst hr
    refine wpAny_passesOwn hp (thn h4 fun _ s5 ⟨x, H5, I5, r5, y5, st5, fr5⟩ => ?_)
    have I5' := I5.pinned (stat fr5) (T.obj _ _ st5)
    refine wpAny_passesOwn hp (thn (hg _ s5 σ3 H5 x u _ I5' r5 (step x H5 y5)) fun _ s6 ⟨σ6, H6, I6, q6⟩ => ?_)
    refine wpAny_passesOwn hp (thn (hb _ s6 σ6 H6 _ I6 q6) fun f s7 q7 => ?_)
    have again : ∀ {σ7 : St} {H7 : Hp}, Inv X (pins ++ pinsAt fp s5.heap) σ7 H7 s7 → N σ7 H7 → ∃ m, m < n ∧ ∃ i σ' H', Inv X pins σ' H' s7 ∧ tn i s7.heap ∧ (∀ b ∈ fp, H' b = none) ∧ W i m σ' H' := fun {σ7 H7} I7 n7 => by
      obtain ⟨m', hm, w7⟩ := hN σ7 H7 n7
      refine ⟨m', hm, i + 1, σ7, H7, I7.unpinned, T.keep _ _ _ st5 fun b hb o e => (I7.pin (b, o) (List.mem_append_right _ (List.mem_append_right _ (mem_pinsAt hb e)))).1, fun b hb => ?_, w7⟩
      obtain ⟨o, e, d⟩ := T.obj _ _ st5 b hb
      exact (I7.pin (b, o) (List.mem_append_right _ (List.mem_append_right _ (mem_pinsAt hb e)))).2.1
    cases f with
    | next => obtain ⟨σ7, H7, I7, n7⟩ := q7; exact again I7 n7
    | cont => obtain ⟨σ7, H7, I7, n7⟩ := q7; exact again I7 n7
    | brk => obtain ⟨σ7, H7, I7, q7⟩ := q7; exact ⟨σ7, H7, I7.unpinned, q7⟩
    | ret v => obtain ⟨x7, σ7, H7, I7, r7, q7⟩ := q7; exact ⟨x7, σ7, H7, I7.unpinned, r7, q7⟩
end
/-! ### the forms one uses -/
/-- over a list that the body leaves as it is -/
theorem for_list {K : PySem.W.Frag} {a : Addr} {xs : List V} {g : TG} {tb : TS} {D : Ends} {σ : St} {H : Hp} (Pv : Nat → St → Hp → Prop) (h0 : Pv 0 σ H) (hl : ∀ i σ H, i ≤ xs.length → Pv i σ H → SqL K H a xs)
    (hs : ∀ i x σ H, xs[i]? = some x → Pv i σ H → g x σ H fun σ2 H2 => tb { D with nx := Pv (i + 1), ct := Pv (i + 1), bk := D.nx } σ2 H2) (hd : ∀ σ H, Pv xs.length σ H → D.nx σ H) :
    ∃ W : Nat → Nat → St → Hp → Prop, (∃ m, W 0 m σ H) ∧ ∀ i m σ H, W i m σ H →
      ((Itl K a).stop i H ∧ D.nx σ H) ∨ ((Itl K a).go i H ∧ ∃ N : St → Hp → Prop, (∀ σ' H', N σ' H' → ∃ m', m' < m ∧ W (i + 1) m' σ' H') ∧ ∀ x H', (Itl K a).yld i H x H' → g x σ H' fun σ2 H2 => tb { D with nx := N, ct := N, bk := D.nx } σ2 H2) := by
  refine ⟨fun i m σ H => m = xs.length - i ∧ i ≤ xs.length ∧ Pv i σ H, ⟨xs.length, by simp, Nat.zero_le _, h0⟩, ?_⟩
  rintro i m σ H ⟨rfl, hi, p⟩
  have q := hl i σ H hi p
  by_cases hlt : i < xs.length
  · refine .inr ⟨⟨xs, xs[i], q, by simp [hlt]⟩, Pv (i + 1), fun σ' H' p' => ⟨xs.length - (i + 1), by omega, rfl, hlt, p'⟩, fun x H' y => ?_⟩
    obtain ⟨e, y⟩ := y
    subst e
    exact hs i x σ _ (y xs q) p
  · have e : i = xs.length := by omega
    subst e
    exact .inl ⟨⟨xs, q, Nat.le_refl _⟩, hd σ H p⟩
/-- while, by a word and a measure of the state -/
theorem while_by {c : TT} {tb : TS} {D : Ends} {σ : St} {H : Hp} (Pv : St → Hp → Prop) (μ : St → Hp → Nat) (h0 : Pv σ H)
    (hs : ∀ σ H, Pv σ H → c σ H fun b H1 => if b = true then tb { D with nx := fun σ' H' => Pv σ' H' ∧ μ σ' H' < μ σ H, ct := fun σ' H' => Pv σ' H' ∧ μ σ' H' < μ σ H, bk := D.nx } σ H1 else D.nx σ H1)
    (mono : ∀ σ H Q Q', (∀ b H1, Q b H1 → Q' b H1) → c σ H Q → c σ H Q') : tWhile c tb D σ H := by
  refine ⟨fun m σ H => m = μ σ H ∧ Pv σ H, ⟨_, rfl, h0⟩, ?_⟩
  rintro m σ H ⟨rfl, p⟩
  refine mono σ H _ _ (fun b H1 q => ?_) (hs σ H p)
  cases b with
  | true => exact ⟨_, fun σ' H' ⟨p', l⟩ => ⟨_, l, rfl, p'⟩, q⟩
  | false => exact q
end L2
namespace L2
open PySem PySem.Spec PyProof.Rows
abbrev R2 := V → V → Hp → VK → Prop
/-- a two-place operation on values: f is binaryOp op, inplaceOp op or compareOp op -/
def OpR (X : Cx) (f : Value → Value → Sem Value) (r : R2) : Prop :=
  ∀ (pins : List (Addr × Obj)) (s : Shared) (σ : St) (H : Hp) (x y : V) (v u : Value) (Q : VK), Inv X pins σ H s → RelV x v → RelV y u → r x y H Q →
    wpAny (model X.prog X.w) X.A (f v u) (EP X pins σ Q) X.xe s
/-- a call of a value that is known (a builtin, a type) with values -/
def CallR (X : Cx) (f : Value) (r : List V → Hp → VK → Prop) : Prop :=
  ∀ (pins : List (Addr × Obj)) (s : Shared) (σ : St) (H : Hp) (xs : List V) (us : List Value) (Q : VK), Inv X pins σ H s → Vals xs us → r xs H Q →
    wpAny (model X.prog X.w) X.A (call f us) (EP X pins σ Q) X.xe s
def tOp (r : R2) (ta tb : TE) : TE := fun σ H Q => ta σ H fun x H1 => tb σ H1 fun y H2 => r x y H2 Q
/-- ints in, under C, and a value out -/
def rI (C : Int → Int → Prop) (g : Int → Int → V) : R2 := fun x y H Q => ∃ i j, x = .int i ∧ y = .int j ∧ C i j ∧ Q (g i j) H
def rI0 (g : Int → Int → V) : R2 := fun x y H Q => ∃ i j, x = .int i ∧ y = .int j ∧ Q (g i j) H
section
variable {X : Cx} {a b c : Expr} {ta tb tc : TE} {pos : Pos}
theorem binT (ha : PE X a ta) (hb : PE X b tb) {pins : List (Addr × Obj)} {s : Shared} {σ : St} {H : Hp} {R : V → V → Hp → Prop} (I : Inv X pins σ H s)
    (h : ta σ H fun x H1 => tb σ H1 fun y H2 => R x y H2) {Q : Value → Shared → Prop} {f : Value → Value → Sem Value}
    (hf : ∀ v u s2 x y H2, Inv X pins σ H2 s2 → RelV x v → RelV y u → R x y H2 → wpAny (model X.prog X.w) X.A (f v u) Q X.xe s2) :
    wpAny (model X.prog X.w) X.A (eval a X.env) (fun v s₁ => wpAny (model X.prog X.w) X.A (eval b X.env) (fun u s₂ => wpAny (model X.prog X.w) X.A (f v u) Q X.xe s₂) X.xe s₁) X.xe s := by
  refine thn (ha pins s σ H _ I h) fun v s1 ⟨x, H1, I1, r1, q1⟩ => ?_
  refine thn (hb pins s1 σ H1 _ I1 q1) fun u s2 ⟨y, H2, I2, r2, q2⟩ => ?_
  exact hf v u s2 x y H2 I2 r1 r2 q2

theorem pe_op {op : Operator} {r : R2} (ho : OpR X (binaryOp op) r) (ha : PE X a ta) (hb : PE X b tb) : PE X (.BinOp a op b pos) (tOp r ta tb) := by
  intro pins s σ H Q I h
  exact wpAny_BinOp (binT ha hb I h fun v u s2 x y H2 I2 rx ry q => ho pins s2 σ H2 x y v u Q I2 rx ry q)
/-! ### ints -/
theorem opI {f : Value → Value → Sem Value} {C : Int → Int → Prop} {g : Int → Int → Int}
    (rule : ∀ (i j : Int) (t u : Tok) (s : Shared) (Q : Value → Shared → Prop) (E : Value → Shared → Prop), C i j → Q (.int (g i j) s.toks) { s with toks := s.toks + 1 } → wpAny (model X.prog X.w) X.A (f (.int i t) (.int j u)) Q E s) :
    OpR X f (rI C fun i j => .int (g i j)) := by
  intro pins s σ H x y v u Q I rx ry h
  obtain ⟨i, j, rfl, rfl, hc, q⟩ := h
  obtain ⟨t, rfl⟩ := rx
  obtain ⟨t', rfl⟩ := ry
  exact rule i j t t' s _ _ hc ⟨.int (g i j), H, I.tok _, ⟨_, rfl⟩, q⟩
theorem opI0 {f : Value → Value → Sem Value} {g : Int → Int → Int}
    (rule : ∀ (i j : Int) (t u : Tok) (s : Shared) (Q : Value → Shared → Prop) (E : Value → Shared → Prop), Q (.int (g i j) s.toks) { s with toks := s.toks + 1 } → wpAny (model X.prog X.w) X.A (f (.int i t) (.int j u)) Q E s) :
    OpR X f (rI0 fun i j => .int (g i j)) := by
  intro pins s σ H x y v u Q I rx ry h
  obtain ⟨i, j, rfl, rfl, q⟩ := h
  obtain ⟨t, rfl⟩ := rx
  obtain ⟨t', rfl⟩ := ry
  exact rule i j t t' s _ _ ⟨.int (g i j), H, I.tok _, ⟨_, rfl⟩, q⟩
theorem opB0 {f : Value → Value → Sem Value} {g : Int → Int → Bool}
    (rule : ∀ (i j : Int) (t u : Tok) (s : Shared) (Q : Value → Shared → Prop) (E : Value → Shared → Prop), Q (.bool (g i j)) s → wpAny (model X.prog X.w) X.A (f (.int i t) (.int j u)) Q E s) :
    OpR X f (rI0 fun i j => .bl (g i j)) := by
  intro pins s σ H x y v u Q I rx ry h
  obtain ⟨i, j, rfl, rfl, q⟩ := h
  obtain ⟨t, rfl⟩ := rx
  obtain ⟨t', rfl⟩ := ry
  exact rule i j t t' s _ _ ⟨.bl (g i j), H, I, rfl, q⟩

def CDiv (i j : Int) : Prop := 0 < j ∧ j < 1073741824
def CPow (i j : Int) : Prop := 0 ≤ j ∧ j ≤ 1000000 ∧ i.natAbs < 2 ^ 64
def CMul (i j : Int) : Prop := (-(2 ^ 64) < i ∧ i < 2 ^ 64) ∨ (-(2 ^ 64) < j ∧ j < 2 ^ 64)
theorem CMul.ok {i j : Int} (h : CMul i j) : IntMulOk i j := by
  rcases h with ⟨h1, h2⟩ | ⟨h1, h2⟩
  · exact .of_left (intBits_le_64 h1 h2)
  · exact .of_right (intBits_le_64 h1 h2)
theorem two_pow_nn (k : Nat) : (0 : Int) ≤ 2 ^ k := by
  rw [two_pow_cast]
  exact Int.natCast_nonneg _

theorem op_add : OpR X (binaryOp .Add) (rI0 fun i j => .int (i + j)) := opI0 fun _ _ _ _ _ _ _ q => add_int q
theorem op_sub : OpR X (binaryOp .Sub) (rI0 fun i j => .int (i - j)) := opI0 fun _ _ _ _ _ _ _ q => sub_int q
theorem op_mul : OpR X (binaryOp .Mult) (rI CMul fun i j => .int (i * j)) := opI fun _ _ _ _ _ _ _ hc q => mul_int q hc.ok
/-- // by a positive divisor -/
theorem op_fdiv : OpR X (binaryOp .FloorDiv) (rI CDiv fun i j => .int (i / j)) := opI fun i j _ _ _ _ _ hc q => by
  have h1 : (0 : Int) < j := hc.1
  have h2 : j < 1073741824 := hc.2
  exact floordiv_int (by omega) (by rw [Int.fdiv_eq_ediv_of_nonneg i (by omega)]; exact q) (.inl (PyProof.noPylong_small (by omega)))
theorem op_shl : OpR X (binaryOp .LShift) (rI CPow fun i j => .int (i * 2 ^ j.toNat)) := opI fun _ _ _ _ _ _ _ hc q => lshift_int_small hc.1 hc.2.1 hc.2.2 q
theorem op_shr : OpR X (binaryOp .RShift) (rI (fun _ j => 0 ≤ j) fun i j => .int (i / 2 ^ j.toNat)) := opI fun i j _ _ _ _ _ hc q =>
  rshift_int hc (by rw [Int.fdiv_eq_ediv_of_nonneg i (two_pow_nn _)]; exact q)
theorem op_and : OpR X (binaryOp .BitAnd) (rI0 fun i j => .int (Builtin.bitAnd i j)) := opI0 fun _ _ _ _ _ _ _ q => and_int q
theorem op_or : OpR X (binaryOp .BitOr) (rI0 fun i j => .int (Builtin.bitOr i j)) := opI0 fun _ _ _ _ _ _ _ q => or_int q
/-! ### bools among ints: n += (a < b) -/
end
/-! ### comparisons -/
/-- the scalars that == tells apart as data does -/
def scal : V → V → Bool
  | .non, .non => true | .non, .int _ => true | .int _, .non => true | .non, .bl _ => true | .bl _, .non => true | .non, .str _ => true | .str _, .non => true
  | .int _, .int _ => true | .bl _, .bl _ => true | .str _, .str _ => true | .byt _, .byt _ => true
  | .int _, .str _ => true | .str _, .int _ => true | .bl _, .str _ => true | .str _, .bl _ => true
  | _, _ => false
def rEq : R2 := fun x y H Q => scal x y = true ∧ Q (.bl (decide (x = y))) H
def rNe : R2 := fun x y H Q => scal x y = true ∧ Q (.bl (!decide (x = y))) H

theorem dec_int {i j : Int} : decide (V.int i = V.int j) = (i == j) := by
  rw [Bool.eq_iff_iff]
  simp
theorem dec_bl {i j : Bool} : decide (V.bl i = V.bl j) = (i == j) := by
  rw [Bool.eq_iff_iff]
  simp
theorem dec_str {i j : Str} : decide (V.str i = V.str j) = (i == j) := by
  rw [Bool.eq_iff_iff]
  simp
theorem dec_byt {i j : Array UInt8} : decide (V.byt i = V.byt j) = (i.toList == j.toList) := by
  rw [Bool.eq_iff_iff]
  cases i
  cases j
  simp

section
variable {X : Cx} {a b c : Expr} {ta tb tc : TE} {pos : Pos}
theorem fin_bl {pins : List (Addr × Obj)} {σ : St} {H : Hp} {s : Shared} {Q : VK} {k k' : Bool} (I : Inv X pins σ H s) (q : Q (.bl k) H) (e : k = k') : EP X pins σ Q (.bool k') s := by
  subst e
  exact ⟨.bl k, H, I, rfl, q⟩
theorem op_eq : OpR X (compareOp .Eq) rEq := by
  intro pins s σ H x y v u Q I rx ry h
  obtain ⟨hs, q⟩ := h
  cases x with
  | non =>
    cases rx
    cases y with
    | non => cases ry; exact PySem.EqNone.eq_none_none (fin_bl I q (by simp))
    | bl j => cases ry; exact PySem.EqNone.eq_none_bool (fin_bl I q (by simp))
    | int j => obtain ⟨t', rfl⟩ := ry; exact PySem.EqNone.eq_none_int (fin_bl I q (by simp))
    | str j => obtain ⟨t', rfl⟩ := ry; exact PySem.EqNone.eq_none_str (fin_bl I q (by simp))
    | _ => exact absurd (show false = true from hs) Bool.false_ne_true
  | bl i =>
    cases rx
    cases y with
    | non => cases ry; exact PySem.EqNone.eq_bool_none (fin_bl I q (by simp))
    | bl j => cases ry; exact eq_bool (fin_bl I q dec_bl)
    | str j => obtain ⟨t', rfl⟩ := ry; exact PySem.EqMixed.eq_bool_str (fin_bl I q (by simp))
    | _ => exact absurd (show false = true from hs) Bool.false_ne_true
  | int i =>
    obtain ⟨t, rfl⟩ := rx
    cases y with
    | non => cases ry; exact PySem.EqNone.eq_int_none (fin_bl I q (by simp))
    | int j => obtain ⟨t', rfl⟩ := ry; exact eq_int (fin_bl I q dec_int)
    | str j => obtain ⟨t', rfl⟩ := ry; exact PySem.EqMixed.eq_int_str (fin_bl I q (by simp))
    | _ => exact absurd (show false = true from hs) Bool.false_ne_true
  | str i =>
    obtain ⟨t, rfl⟩ := rx
    cases y with
    | non => cases ry; exact PySem.EqNone.eq_str_none (fin_bl I q (by simp))
    | bl j => cases ry; exact PySem.EqMixed.eq_str_bool (fin_bl I q (by simp))
    | int j => obtain ⟨t', rfl⟩ := ry; exact PySem.EqMixed.eq_str_int (fin_bl I q (by simp))
    | str j => obtain ⟨t', rfl⟩ := ry; exact eq_str (fin_bl I q dec_str)
    | _ => exact absurd (show false = true from hs) Bool.false_ne_true
  | byt i =>
    obtain ⟨t, rfl⟩ := rx
    cases y with
    | byt j => obtain ⟨t', rfl⟩ := ry; exact PySem.W.eq_bytes (fin_bl I q dec_byt)
    | _ => exact absurd (show false = true from hs) Bool.false_ne_true
  | _ => cases y <;> exact absurd (show false = true from hs) Bool.false_ne_true
theorem op_ne : OpR X (compareOp .NotEq) rNe := by
  intro pins s σ H x y v u Q I rx ry h
  obtain ⟨hs, q⟩ := h
  cases x with
  | non =>
    cases rx
    cases y with
    | non => cases ry; exact PySem.EqNone.ne_none_none (fin_bl I q (by simp))
    | bl j => cases ry; exact PySem.EqNone.ne_none_bool (fin_bl I q (by simp))
    | int j => obtain ⟨t', rfl⟩ := ry; exact PySem.EqNone.ne_none_int (fin_bl I q (by simp))
    | str j => obtain ⟨t', rfl⟩ := ry; exact PySem.EqNone.ne_none_str (fin_bl I q (by simp))
    | _ => exact absurd (show false = true from hs) Bool.false_ne_true
  | bl i =>
    cases rx
    cases y with
    | non => cases ry; exact PySem.EqNone.ne_bool_none (fin_bl I q (by simp))
    | bl j => cases ry; exact ne_bool (fin_bl I q (congrArg not dec_bl))
    | str j => obtain ⟨t', rfl⟩ := ry; exact PySem.EqMixed.ne_bool_str (fin_bl I q (by simp))
    | _ => exact absurd (show false = true from hs) Bool.false_ne_true
  | int i =>
    obtain ⟨t, rfl⟩ := rx
    cases y with
    | non => cases ry; exact PySem.EqNone.ne_int_none (fin_bl I q (by simp))
    | int j => obtain ⟨t', rfl⟩ := ry; exact ne_int (fin_bl I q (congrArg not dec_int))
    | str j => obtain ⟨t', rfl⟩ := ry; exact PySem.EqMixed.ne_int_str (fin_bl I q (by simp))
    | _ => exact absurd (show false = true from hs) Bool.false_ne_true
  | str i =>
    obtain ⟨t, rfl⟩ := rx
    cases y with
    | non => cases ry; exact PySem.EqNone.ne_str_none (fin_bl I q (by simp))
    | bl j => cases ry; exact PySem.EqMixed.ne_str_bool (fin_bl I q (by simp))
    | int j => obtain ⟨t', rfl⟩ := ry; exact PySem.EqMixed.ne_str_int (fin_bl I q (by simp))
    | str j => obtain ⟨t', rfl⟩ := ry; exact ne_str (fin_bl I q (congrArg not dec_str))
    | _ => exact absurd (show false = true from hs) Bool.false_ne_true
  | byt i =>
    obtain ⟨t, rfl⟩ := rx
    cases y with
    | byt j => obtain ⟨t', rfl⟩ := ry; exact PySem.W.ne_bytes (fin_bl I q (congrArg not dec_byt))
    | _ => exact absurd (show false = true from hs) Bool.false_ne_true
  | _ => cases y <;> exact absurd (show false = true from hs) Bool.false_ne_true

theorem op_lt : OpR X (compareOp .Lt) (rI0 fun i j => .bl (decide (i < j))) := opB0 fun _ _ _ _ _ _ _ q => lt_int q
theorem op_le : OpR X (compareOp .LtE) (rI0 fun i j => .bl (decide (i ≤ j))) := opB0 fun _ _ _ _ _ _ _ q => le_int q
theorem op_gt : OpR X (compareOp .Gt) (rI0 fun i j => .bl (decide (j < i))) := opB0 fun _ _ _ _ _ _ _ q => gt_int q
theorem op_ge : OpR X (compareOp .GtE) (rI0 fun i j => .bl (decide (j ≤ i))) := opB0 fun _ _ _ _ _ _ _ q => ge_int q
/-- is None, is not None: the right side a value none -/
theorem op_isN : OpR X (compareOp .Is) (fun x y H Q => y = .non ∧ Q (.bl (decide (x = .non))) H) := by
  intro pins s σ H x y v u Q I rx ry h
  obtain ⟨rfl, q⟩ := h
  cases ry
  refine is_none_gen (fin_bl I q ?_)
  cases x <;> first
    | (cases rx; rfl)
    | (obtain ⟨t, rfl⟩ := rx; rfl)
theorem op_notN : OpR X (compareOp .IsNot) (fun x y H Q => y = .non ∧ Q (.bl (!decide (x = .non))) H) := by
  intro pins s σ H x y v u Q I rx ry h
  obtain ⟨rfl, q⟩ := h
  cases ry
  refine isnot_none_gen (fin_bl I q ?_)
  cases x <;> first
    | (cases rx; rfl)
    | (obtain ⟨t, rfl⟩ := rx; rfl)

theorem nomark (b : Expr) {op : CmpOp} (h : op ≠ .In := by decide) (h2 : op ≠ .NotIn := by decide) : behindInMarks op b = false := by
  have e1 : (op == CmpOp.In) = false := by cases op <;> first | rfl | exact absurd rfl h
  have e2 : (op == CmpOp.NotIn) = false := by cases op <;> first | rfl | exact absurd rfl h2
  cases b <;> simp [behindInMarks, e1, e2]
/-- a comparison as a value; hm: nomark b, or (for in, not in) by with_unfolding_all rfl -/
theorem pe_cmpR {op : CmpOp} {r : R2} (ho : OpR X (compareOp op) r) (ha : PE X a ta) (hb : PE X b tb) (hm : behindInMarks op b = false) : PE X (.Compare a [op] [b] pos) (tOp r ta tb) := by
  intro pins s σ H Q I h
  exact wpAny_Compare1 (binT ha hb I h fun v u s2 x y H2 I2 rx ry q => ho pins s2 σ H2 x y v u Q I2 rx ry q) hm
/-- a reading of a value as a test -/
def tTest (t : TE) : TT := fun σ H Q => t σ H fun x H' => ∃ k, x = .bl k ∧ Q k H'
theorem pt_cmpR {op : CmpOp} {r : R2} (ho : OpR X (compareOp op) r) (ha : PE X a ta) (hb : PE X b tb) (hm : behindInMarks op b = false) : PT X (.Compare a [op] [b] pos) (tTest (tOp r ta tb)) := by
  intro pins s σ H Q I h
  refine wpAny_isTrue_Compare1 (thn (ha pins s σ H _ I h) fun v s1 ⟨x, H1, I1, r1, q1⟩ => thn (hb pins s1 σ H1 _ I1 q1) fun u s2 ⟨y, H2, I2, r2, q2⟩ =>
    thn (ho pins s2 σ H2 x y v u _ I2 r1 r2 q2) fun c s3 ⟨z, H3, I3, r3, k, e, q3⟩ => ?_) hm
  subst e
  cases r3
  exact wpAny_truthy_bool ⟨H3, I3, q3⟩
/-! ### truth -/
theorem line63 : (sizeLine : Nat) < 2 ^ 63 := by rw [sizeLine_eq]; decide
/-! ### strs and bytes -/
/-! ### scalar builtins, by CallR -/
theorem vals1 {x : V} {us : List Value} (r : Vals [x] us) : ∃ u, us = [u] ∧ RelV x u := by
  cases r with
  | cons r1 r2 => cases r2; exact ⟨_, rfl, r1⟩
end
end L2
namespace L2
open PySem PySem.Spec PyProof.Rows
/-! ### an instance, its attributes a map -/
structure ObjM (h : Heap) (x dx C : Addr) (mA : Str → Option Value) : Prop where
  obj : h.get? x = some (PySem.W.instObj C dx)
  ns : h.Ns1 dx mA
  ne : dx ≠ x

theorem lookIn_ns {h : Heap} {dx : Addr} {mA : Str → Option Value} (n : h.Ns1 dx mA) : ∃ od, h.get? dx = some od ∧ ∀ name, PySem.W.lookIn name od = some (mA name) := by
  obtain ⟨o, es, ep, ho, hd, hk, _, hm⟩ := n
  refine ⟨o, ho, fun name => ?_⟩
  have e := hm name
  unfold nsFind findBy at e
  rw [← Array.find?_toList] at e
  unfold PySem.W.lookIn
  rw [hd]
  dsimp only
  split
  · rename_i y q
    rw [q] at e
    exact congrArg some e
  · rename_i q
    rw [q] at e
    have a : es.toList.any (·.refKey) = false := by
      rw [List.any_eq_false]
      intro y hy
      obtain ⟨z, t, hkey⟩ := hk y (Array.mem_toList_iff.mp hy)
      simp [DictEntry.refKey, hkey]
    have a' : ¬ es.toList.any (·.refKey) = true := by rw [a]; exact Bool.false_ne_true
    rw [if_neg a']
    exact congrArg some e

theorem ObjM.look {h : Heap} {x dx C : Addr} {mA : Str → Option Value} (I : ObjM h x dx C mA) : ∃ od, PySem.W.InstAt h x (PySem.W.instObj C dx) C (some od) ∧ ∀ name, PySem.W.lookIn name od = some (mA name) :=
  let ⟨od, ho, hl⟩ := lookIn_ns I.ns
  ⟨od, ⟨I.obj, rfl, rfl, ho⟩, hl⟩

section
variable {prog : Program} {w : World} {A : Around} {E : Value → Shared → Prop} {s : Shared} {K : PySem.W.Frag} {x dx C f : Addr} {mA : Str → Option Value} {name : Str} {v : Value}
theorem get_map {expr : Bool} {Q : Value → Shared → Prop} (X : K.In s.heap) (I : ObjM s.heap x dx C mA) (hg : PySem.W.plainGet K C name = true) (hh : PySem.W.hasDictIn K C = true)
    (ha : PySem.W.findIn K (.ref C) name = some none) (hv : mA name = some v) (hv' : PySem.W.handedIn v = true) (h : Q v { s with toks := s.toks + 1 }) :
    wpAny (model prog w) A (getAttr (.ref x) name expr) Q E s := by
  obtain ⟨od, J, hl⟩ := I.look
  exact PySem.W.get_value X J (PySem.W.plainGet_of hg).1 (PySem.W.findObj_own hh ha rfl (by rw [hl, hv])) hv' h

theorem get_meth {pl : Sem Bool} {Q : Value × List Value → Shared → Prop} (X : K.In s.heap) (I : ObjM s.heap x dx C mA) (hg : PySem.W.plainGet K C name = true)
    (hf : PySem.W.findIn K (.ref C) name = some (some (.ref f))) (ht : PySem.W.isFn K (.ref f) = true) (hv : mA name = none) (h : Q (.ref f, [.ref x]) s) :
    wpAny (model prog w) A (getMethod (.ref x) name pl) Q E s := by
  obtain ⟨od, J, hl⟩ := I.look
  exact PySem.W.method_fn X J (PySem.W.plainGet_of hg).1 (PySem.W.plainGet_of hg).2 hf (beq_iff_eq.mp ht) (by show (PySem.W.lookIn name od).map (·.isSome) = some false; rw [hl, hv]; rfl) h

theorem set_map {ns : List Str} {Q : Unit → Shared → Prop} (X : K.In s.heap) (I : ObjM s.heap x dx C mA)
    (hs : PySem.W.findIn K (.ref C) "__setattr__" = some (some (.builtin "object.__setattr__"))) (hp : PySem.W.plainOver K C = true) (ht : PySem.W.takerIn K C name = some none) (hh : PySem.W.hasDictIn K C = true)
    (hw : PySem.Within mA ns) (hsz : ns.length ≤ sizeLine)
    (h : ∀ h', ObjM h' x dx C (fun y => if y = name then some v else mA y) → Heap.SameBut dx s.heap h' → Q () { s with heap := h', toks := s.toks + 2 }) :
    wpAny (model prog w) A (setAttr (.ref x) name v) Q E s := by
  obtain ⟨od, J, hl⟩ := I.look
  refine PySem.W.set_plain X J hs (PySem.W.osa_open (s := { s with toks := s.toks + 1 }) (r := none) X J hp ht fun b => ?_)
  obtain ⟨cd, hc, hd'⟩ := PySem.W.any_some hh
  have hx : s.heap.get? x = some ⟨.ref C, some dx, .plain, #[]⟩ := I.obj
  refine wpAny_bind (wpAny_pure (wpAny_bind (wpAny_bind (wpAny_loadPart hx (wpAny_bind (PySem.W.Looks.here (s := { s with toks := s.toks + 1 }) (PySem.W.looks_clsIn X hc) ?_))))))
  rw [hd']
  refine wpAny_pure (a := some dx) (wpAny_bind (wpAny_pure (wpAny_bind ?_)))
  refine wpAny_nsSet1 (s := { s with toks := s.toks + 1 }) I.ns fun h' hn2 hs2 => ?_
  obtain ⟨oD, esD, epD, hoD, hdD, hcD⟩ := hn2.count (PySem.Within.cons name v hw)
  refine wpAny_bind (wpAny_lookBehind hoD (by rw [hdD]; exact pastItsLine_dict (Nat.le_trans hcD (by rw [List.length_cons]; omega))) ?_)
  exact wpAny_pure (h _ ⟨(hs2.2 _ (Ne.symm I.ne)).trans I.obj, hn2, I.ne⟩ hs2)

/-- C(..): the dict at the heap's end, the instance behind it; then its __init__ -/
theorem make_map {R : Result → Shared → Prop} {vs : List Value} {kw : List (Str × Value)} (X : K.In s.heap) (hm : PySem.W.makesIn K C = true)
    (hi : PySem.W.findIn K (.ref C) "__init__" = some (some (.ref f))) (hf : PySem.W.typeIn K (.ref f) = some (.type "function"))
    (h : codeAny (model prog w) (A.under (.builtin "type.__call__" ⟨.ref C :: vs, kw⟩)) (.call (.ref f) ⟨.ref (s.heap.objs.size + 1) :: vs, kw⟩) (PySem.W.InitBack (s.heap.objs.size + 1) R)
      { s with heap := (s.heap.push PySem.W.emptyDict).push (PySem.W.instObj C s.heap.objs.size) }) :
    codeAny (model prog w) A (.call (.ref C) ⟨vs, kw⟩) R s := by
  obtain ⟨hh, g, d, t, os⟩ := s
  exact PySem.W.make_core (PySem.W.makes_of X hm) (PySem.W.looks_findIn X hi) (fun self => PySem.W.bind_fn X self hf) (.inl rfl) h
end
/-! ### the attributes as a list of pairs -/
def putF (f : Str) (v : V) : List (Str × V) → List (Str × V)
  | [] => [(f, v)]
  | (g, x) :: r => if g = f then (g, v) :: r else (g, x) :: putF f v r
theorem lookup_putF (f g : Str) (v : V) : ∀ fs : List (Str × V), (putF f v fs).lookup g = if g = f then some v else fs.lookup g
  | [] => by
    show List.lookup g [(f, v)] = _
    by_cases h : g = f
    · have hb : (g == f) = true := beq_iff_eq.mpr h
      simp only [List.lookup, hb, if_pos h]
    · have hb : (g == f) = false := beq_eq_false_iff_ne.mpr h
      simp only [List.lookup, hb, if_neg h]
  | (k, x) :: r => by
    have ih := lookup_putF f g v r
    rw [show putF f v ((k, x) :: r) = (if k = f then (k, v) :: r else (k, x) :: putF f v r) from rfl]
    by_cases hk : k = f
    · rw [if_pos hk]
      by_cases h : g = k
      · have hb : (g == k) = true := beq_iff_eq.mpr h
        simp only [List.lookup, hb, if_pos (h.trans hk)]
      · have hb : (g == k) = false := beq_eq_false_iff_ne.mpr h
        simp only [List.lookup, hb, if_neg (fun e : g = f => h (e.trans hk.symm))]
    · rw [if_neg hk]
      by_cases h : g = k
      · have hb : (g == k) = true := beq_iff_eq.mpr h
        simp only [List.lookup, hb, if_neg (fun e : g = f => hk (h.symm.trans e))]
      · have hb : (g == k) = false := beq_eq_false_iff_ne.mpr h
        simp only [List.lookup, hb]
        exact ih
theorem keys_putF (f : Str) (v : V) : ∀ fs : List (Str × V), f ∈ (putF f v fs).map (·.1) ∧ ∀ g, g ∈ fs.map (·.1) → g ∈ (putF f v fs).map (·.1)
  | [] => ⟨by simp [putF], fun g h => by simp at h⟩
  | (k, x) :: r => by
    obtain ⟨i1, i2⟩ := keys_putF f v r
    rw [show putF f v ((k, x) :: r) = (if k = f then (k, v) :: r else (k, x) :: putF f v r) from rfl]
    by_cases hk : k = f
    · rw [if_pos hk]
      subst hk
      exact ⟨by simp, fun g h => by simpa using h⟩
    · rw [if_neg hk]
      refine ⟨?_, fun g h => ?_⟩
      · rw [List.map_cons]
        exact List.mem_cons_of_mem _ i1
      · rw [List.map_cons] at h ⊢
        rcases List.mem_cons.mp h with e | e
        · exact List.mem_cons.mpr (.inl e)
        · exact List.mem_cons_of_mem _ (i2 g e)
theorem length_putF (f : Str) (v : V) : ∀ fs : List (Str × V), (putF f v fs).length ≤ fs.length + 1
  | [] => by simp [putF]
  | (k, x) :: r => by
    have ih := length_putF f v r
    rw [show putF f v ((k, x) :: r) = (if k = f then (k, v) :: r else (k, x) :: putF f v r) from rfl]
    by_cases hk : k = f
    · rw [if_pos hk, List.length_cons, List.length_cons]; omega
    · rw [if_neg hk, List.length_cons, List.length_cons]; omega

theorem RelO.some_of {v : V} {o : Option Value} (r : RelO (some v) o) : ∃ u, o = some u ∧ RelV v u := by
  cases o with
  | none => exact (show False from r).elim
  | some u => exact ⟨u, rfl, r⟩
theorem RelO.none_of {o : Option Value} (r : RelO none o) : o = none := by
  cases o with
  | none => rfl
  | some u => exact (show False from r).elim
theorem handed_of {v : V} {u : Value} (r : RelV v u) : PySem.W.handedIn u = true := by
  cases v with
  | non => cases (show u = Value.none from r); rfl
  | bl b => cases (show u = Value.bool b from r); rfl
  | int i => obtain ⟨t, e⟩ := (show ∃ t, u = Value.int i t from r); cases e; rfl
  | str x => obtain ⟨t, e⟩ := (show ∃ t, u = Value.str x t from r); cases e; rfl
  | byt b => obtain ⟨t, e⟩ := (show ∃ t, u = Value.bytes b t from r); cases e; rfl
  | flt b => obtain ⟨t, e⟩ := (show ∃ t, u = Value.float b t from r); cases e; rfl
  | ref a => cases (show u = Value.ref a from r); rfl
  | ty n => cases (show u = Value.type n from r); rfl

section
variable {P : Program} {w : World} {H H' : Hp} {h h' : Heap} {a C dx : Addr} {fs fs' : List (Str × V)}
theorem ins_get (hok : HOk P w H h) (e : H a = some (.ins C dx fs)) : ∃ mA, ObjM h a dx C mA ∧ (∀ f, RelO (fs.lookup f) (mA f)) ∧ PySem.Within mA (fs.map (·.1)) ∧ fs.length ≤ 1000 ∧ H dx = some (.own a) := by
  obtain ⟨d, z, ne, ob, mA, n, r, q⟩ := (show ObjOk P w H h a (.ins C dx fs) from hok a _ e)
  exact ⟨mA, ⟨ob, n, ne⟩, r, q, z, d⟩
end
/-! ### what of the text a class must have -/
structure Cls (K : PySem.W.Frag) (C : Addr) : Prop where
  pg : PySem.W.plainGet K C Str.empty = true
  hd : PySem.W.hasDictIn K C = true
  po : PySem.W.plainOver K C = true
  sa : PySem.W.findIn K (.ref C) "__setattr__" = some (some (.builtin "object.__setattr__"))
theorem Cls.get {K : PySem.W.Frag} {C : Addr} (c : Cls K C) (f : Str) : PySem.W.plainGet K C f = true := c.pg
/-- no class of it has the name -/
def NoAttr (K : PySem.W.Frag) (C : Addr) (f : Str) : Prop := PySem.W.findIn K (.ref C) f = some none
theorem NoAttr.taker {K : PySem.W.Frag} {C : Addr} {f : Str} (n : NoAttr K C f) : PySem.W.takerIn K C f = some none := by
  unfold PySem.W.takerIn
  rw [show PySem.W.findIn K (.ref C) f = some none from n]
  rfl
/-- a method: a plain def of the class or of one above it -/
structure Meth (K : PySem.W.Frag) (C : Addr) (m : Str) (f : Addr) : Prop where
  at_ : PySem.W.findIn K (.ref C) m = some (some (.ref f))
  fn : PySem.W.isFn K (.ref f) = true
  kp : PySem.W.keepIn K (.ref f) = true

section
variable {X : Cx} {pins : List (Addr × Obj)} {σ : St} {H : Hp} {s : Shared} {a C dx : Addr} {fs : List (Str × V)} {f : Str} {v : V} {A : Around} {E : Value → Shared → Prop}
theorem getattr_ok {b : Bool} {Q : Value → Shared → Prop} (I : Inv X pins σ H s) (e : H a = some (.ins C dx fs)) (c : Cls X.K C) (n : NoAttr X.K C f) (l : fs.lookup f = some v)
    (h : ∀ u s', Inv X pins σ H s' → RelV v u → Q u s') : wpAny (model X.prog X.w) A (getAttr (.ref a) f b) Q E s := by
  obtain ⟨mA, O, r, _, _, _⟩ := ins_get I.hok e
  obtain ⟨u, hu, ru⟩ := RelO.some_of (v := v) (o := mA f) (by rw [← l]; exact r f)
  exact get_map I.kIn O (c.get f) c.hd n hu (handed_of ru) (h u _ (I.tok _) ru)

theorem getmeth_ok {m : Str} {g : Addr} {pl : Sem Bool} {Q : Value × List Value → Shared → Prop} (I : Inv X pins σ H s) (e : H a = some (.ins C dx fs)) (c : Cls X.K C) (k : Meth X.K C m g) (l : fs.lookup m = none)
    (h : Q (.ref g, [.ref a]) s) : wpAny (model X.prog X.w) A (getMethod (.ref a) m pl) Q E s := by
  obtain ⟨mA, O, r, _, _, _⟩ := ins_get I.hok e
  have hn : mA m = none := RelO.none_of (by rw [← l]; exact r m)
  exact get_meth I.kIn O (c.get m) k.at_ k.fn hn h

theorem setattr_ok {y : V} {u : Value} {Q : Unit → Shared → Prop} (I : Inv X pins σ H s) (e : H a = some (.ins C dx fs)) (c : Cls X.K C) (n : NoAttr X.K C f) (hl : fs.length < 1000) (ry : RelV y u)
    (h : ∀ s', Inv X pins σ (upd H a (.ins C dx (putF f y fs))) s' → Q () s') : wpAny (model X.prog X.w) A (setAttr (.ref a) f u) Q E s := by
  obtain ⟨mA, O, r, wi, _, ho⟩ := ins_get I.hok e
  have hz : (fs.map (·.1)).length ≤ sizeLine := by rw [List.length_map, sizeLine_eq]; omega
  refine set_map I.kIn O c.sa c.po n.taker c.hd wi hz fun h' O' sb => h _ ?_
  have hd : ∃ o, h'.get? dx = some o := let ⟨o, _, _, e', _⟩ := O'.ns; ⟨o, e'⟩
  refine I.write (x := a) (e := dx) (by rw [e]; exact True.intro) (.inr ho) (fun b q hb z => (sb.2 b hb).trans z) hd ?_
  refine ⟨by rw [upd_ne O.ne]; exact ho, ?_, O.ne, O'.obj, _, O'.ns, fun g => ?_, fun g hg => ?_⟩
  · have := length_putF f y fs; omega
  · show RelO ((putF f y fs).lookup g) (if g = f then some u else mA g)
    rw [lookup_putF]
    by_cases q : g = f
    · rw [if_pos q, if_pos q]; exact ry
    · rw [if_neg q, if_neg q]; exact r g
  · by_cases q : g = f
    · rw [q]; exact (keys_putF f y fs).1
    · refine (keys_putF f y fs).2 g (wi g fun z => hg ?_)
      show (if g = f then some u else mA g) = none
      rw [if_neg q]; exact z

/-- a new instance, tracked, without attributes -/
theorem Inv.made (I : Inv X pins σ H s) : Inv X pins σ (upd (upd H s.heap.objs.size (.own (s.heap.objs.size + 1))) (s.heap.objs.size + 1) (.ins C s.heap.objs.size []))
    { s with heap := (s.heap.push PySem.W.emptyDict).push (PySem.W.instObj C s.heap.objs.size) } := by
  have e1 : (s.heap.push PySem.W.emptyDict).get? s.heap.objs.size = some PySem.W.emptyDict := Heap.get?_push_size s.heap rfl
  have e2 : ((s.heap.push PySem.W.emptyDict).push (PySem.W.instObj C s.heap.objs.size)).get? (s.heap.objs.size + 1) = some (PySem.W.instObj C s.heap.objs.size) := by
    have := Heap.get?_push_size (s.heap.push PySem.W.emptyDict) (o := PySem.W.instObj C s.heap.objs.size) rfl
    rwa [Heap.size_push] at this
  have e3 : (s.heap.push PySem.W.emptyDict).Ns s.heap.objs.size (fun _ => none) := ⟨PySem.W.emptyDict, #[], _, e1, rfl, (fun e he => absurd he (by simp)), fun _ => rfl⟩
  have I1 := I.laid (a := s.heap.objs.size) (o := .own (s.heap.objs.size + 1)) (h' := s.heap.push PySem.W.emptyDict) (t' := s.toks) (fun b u q => Heap.get?_push_of_some _ q) (Nat.le_refl _) ⟨_, e1⟩
  refine I1.laid (a := s.heap.objs.size + 1) (o := .ins C s.heap.objs.size []) (t' := s.toks) (fun b u q => Heap.get?_push_of_some _ q) (Nat.le_of_eq (Heap.size_push _ _)) ?_
  have ne : s.heap.objs.size ≠ s.heap.objs.size + 1 := Nat.ne_of_lt (Nat.lt_succ_self _)
  refine ⟨by rw [upd_ne ne, upd_same], Nat.zero_le _, ne, e2, fun _ => none, (Heap.Ns1.of_empty e3).at fun o q => Heap.get?_push_of_some _ q, fun _ => True.intro, fun y hy => absurd rfl hy⟩

/-- e.f where nothing but the object is asked: through attributeBase (super) and the last hold -/
theorem attr_of {prog : Program} {w : World} {env : Env} {e : Expr} {f : Str} {pos : Pos} {s : Shared} {Q : Value → Shared → Prop} (hb : attributeBase e f env (eval e env) = eval e env)
    (h : wpAny (model prog w) A (eval e env) (fun o s₁ => wpAny (model prog w) A (getAttr o f true) Q E s₁) E s) : wpAny (model prog w) A (eval (.Attribute e f pos) env) Q E s :=
  Attribute_any_ h (by rw [arm_eval_Attribute, hb])
end
/-! ### readings and rules -/
/-- e.f, an attribute of the instance -/
def tFld (K : PySem.W.Frag) (ta : TE) (f : Str) : TE := fun σ H Q => ta σ H fun x H1 => ∃ a C dx fs v, x = .ref a ∧ H1 a = some (.ins C dx fs) ∧ Cls K C ∧ NoAttr K C f ∧ fs.lookup f = some v ∧ Q v H1
/-- e.f = value -/
def sFld (K : PySem.W.Frag) (ta tv : TE) (f : Str) : TS := fun D σ H => tv σ H fun y H1 => ta σ H1 fun x H2 => ∃ a C dx fs, x = .ref a ∧ H2 a = some (.ins C dx fs) ∧ Cls K C ∧ NoAttr K C f ∧ fs.length < 1000 ∧
  D.nx σ (upd H2 a (.ins C dx (putF f y fs)))
section
variable {X : Cx} {o e value : Expr} {f : Str} {pos pos' tpos : Pos} {ta tv : TE}
theorem pe_fld (he : PE X e ta) (hb : attributeBase e f X.env (eval e X.env) = eval e X.env) : PE X (.Attribute e f pos) (tFld X.K ta f) := by
  intro pins s σ H Q I h
  refine attr_of hb (thn (he pins s σ H _ I h) fun u s1 ⟨x, H1, I1, rx, a, C, dx, fs, v, ex, ea, c, n, l, q⟩ => ?_)
  subst ex
  obtain rfl : u = Value.ref a := rx
  exact getattr_ok I1 ea c n l fun u' s2 I2 ru => ⟨v, H1, I2, ru, q⟩
theorem ps_fld (ha : PE X o ta) (hv : PE X value tv) (hs : swapsWith value (some (.Attribute o f pos')) pos.line X.env = pure false) : PS X (.Assign [.Attribute o f pos'] value pos) (sFld X.K ta tv f) := by
  intro pins s σ H D I h
  refine plainObj_wpAny_Assign_Attribute (thn (hv pins s σ H _ I h) fun u s1 ⟨y, H1, I1, ry, q⟩ => thn (ha pins s1 σ H1 _ I1 q) fun ov s2 ⟨x, H2, I2, rx, a, C, dx, fs, ex, ea, c, n, l, q2⟩ => ?_) hs
  subst ex
  obtain rfl : ov = Value.ref a := rx
  exact setattr_ok I2 ea c n l ry fun s3 I3 => ⟨σ, _, I3, q2⟩
end
/-! ### isinstance -/
section
variable {X : Cx} {pins : List (Addr × Obj)} {σ : St} {H : Hp} {s : Shared} {A : Around} {E : Value → Shared → Prop} {Q : Value → Shared → Prop} {c : Value} {b : Bool}
end
end L2
namespace L2
open PySem PySem.Spec PyProof.Rows
/-! ### room -/
structure Room (k : Nat) (A : Around) : Prop where
  hd : A.handled = none
  dp : A.depth + 3 * k + 5 < recursionLimit
  un : A.units + 16 * k + 200 < cLine
theorem Room.mono {j k : Nat} {A : Around} (r : Room k A) (h : j ≤ k) : Room j A := ⟨r.hd, by have := r.dp; omega, by have := r.un; omega⟩
theorem Room.deeper {k : Nat} {A : Around} (r : Room (k + 1) A) (env : Env) : Room k (A.deeper env) :=
  ⟨r.hd, by have := r.dp; show A.depth + 1 + 3 * k + 5 < _; omega, by have := r.un; show A.units + 3 + 16 * k + 200 < _; omega⟩
theorem make_depth {A : Around} {C : Addr} {us : List Value} {kw : List (Str × Value)} : (A.under (.builtin "type.__call__" ⟨.ref C :: us, kw⟩)).depth = A.depth + 1 := by
  first | rfl | simp [Around.under, Code.weight, Code.isCreation, Code.isGuard, Code.isCaller, Code.frames, Code.isFrame, guardIds]
theorem make_units {A : Around} {C : Addr} {us : List Value} {kw : List (Str × Value)} : (A.under (.builtin "type.__call__" ⟨.ref C :: us, kw⟩)).units = A.units + 1 := by
  first | rfl | simp [Around.under, Code.cUnits, Code.frames, Code.isFrame]
theorem Room.make {k : Nat} {A : Around} (r : Room (k + 1) A) (C : Addr) (us : List Value) (kw : List (Str × Value)) : Room k (A.under (.builtin "type.__call__" ⟨.ref C :: us, kw⟩)) :=
  ⟨r.hd, by have := r.dp; rw [make_depth]; omega, by have := r.un; rw [make_units]; omega⟩
theorem Room.depth {k : Nat} {A : Around} (r : Room k A) : A.depth < recursionLimit := by have := r.dp; omega
theorem Room.units {k : Nat} {A : Around} (r : Room k A) : A.units + 64 < cLine := by have := r.un; omega
/-! ### argument lists and displays -/
def tNil : TA := fun _ H Q => Q [] H
def tCons (ta : TE) (tr : TA) : TA := fun σ H Q => ta σ H fun x H1 => tr σ H1 fun xs H2 => Q (x :: xs) H2
section
variable {X : Cx} {e : Expr} {es : List Expr} {te : TE} {t : TA} {pos : Pos}
theorem pa_nil : PA X [] tNil := fun _ _ _ _ H Q I h => Calls.spliced_nil ⟨[], H, I, .nil, h⟩
theorem pa_cons (ha : PE X e te) (hr : PA X es t) (hs : starEach (e :: es) X.env = (false, eval e X.env) :: starEach es X.env := by rfl) : PA X (e :: es) (tCons te t) := by
  intro pos pins s σ H Q I h
  rw [hs]
  show wpAny _ _ (spliced ((false, eval e X.env) :: backTo pos (starEach es X.env))) _ _ s
  refine Calls.spliced_cons (thn (ha pins s σ H _ I h) fun u s1 ⟨x, H1, I1, r1, q1⟩ => ?_)
  exact thn (hr pos pins s1 σ H1 _ I1 q1) fun us s2 ⟨xs, H2, I2, r2, q2⟩ => ⟨x :: xs, H2, I2, .cons r1 r2, q2⟩

/-- a tuple, a list of written items -/
def tTup (t : TA) : TE := fun σ H Q => t σ H fun xs H1 => xs.length ≤ sizeLine ∧ ∀ p, H1 p = none → Q (.ref p) (upd H1 p (.tup xs))
def tLst (t : TA) : TE := fun σ H Q => t σ H fun xs H1 => xs.length ≤ sizeLine ∧ ∀ p, H1 p = none → Q (.ref p) (upd H1 p (.lst xs))
theorem pe_tup {x1} (h : PA X es t) : PE X (.Tuple es x1 pos) (tTup t) := by
  intro pins s σ H Q I hq
  refine wpAny_Tuple_spliced (thn (h pos pins s σ H _ I hq) fun us s1 ⟨xs, H1, I1, r, z, q⟩ => ⟨by rw [← r.length]; exact z, ?_⟩)
  have hf : H1 s1.heap.objs.size = none := I1.hok.fresh (Nat.le_refl _)
  refine ⟨.ref s1.heap.objs.size, upd H1 s1.heap.objs.size (.tup xs), I1.laid (t' := s1.toks) (fun b u e => Heap.get?_push_of_some _ e) (Nat.le_refl _) ?_, rfl, q _ hf⟩
  exact ⟨z, us, r, ⟨_, Heap.get?_push_size _ rfl, rfl, _, rfl⟩⟩
theorem pe_lst (h : PA X es t) : PE X (.List es pos) (tLst t) := by
  intro pins s σ H Q I hq
  refine wpAny_List_spliced (thn (h pos pins s σ H _ I hq) fun us s1 ⟨xs, H1, I1, r, z, q⟩ => ⟨by rw [← r.length]; exact z, ?_⟩)
  have hf : H1 s1.heap.objs.size = none := I1.hok.fresh (Nat.le_refl _)
  refine ⟨.ref s1.heap.objs.size, upd H1 s1.heap.objs.size (.lst xs), I1.laid (t' := s1.toks) (fun b u e => Heap.get?_push_of_some _ e) (Nat.le_refl _) ?_, rfl, q _ hf⟩
  exact ⟨z, us, 0, r, Heap.get?_push_size _ rfl⟩
end
/-! ### what a def promises -/
/-- a def's promise: the bound arguments in the parameters' order, the heap, the wanted end, the wanted exception -/
abbrev Sp := List V → Hp → VK → XK → Prop
/-- how an exception lies behind a call (file 08 gives it): the callers' frames, abstract heap and state ahead of the call, the wish, the exception, the state -/
abbrev CXT := List Env → Hp → Shared → XK → Value → Shared → Prop

/-- the state at a call -/
structure Env0 (P : Program) (w : World) (K : PySem.W.Frag) (mg : Str → Option Value) (base : Heap) (A : Around) (outer : List Env) (s : Shared) (H : Hp) : Prop where
  frames : A.frames = some outer
  mod : Mod K mg base
  bs : ∀ b o, base.get? b = some o → s.heap.get? b = some o ∧ H b = none
  bsz : base.objs.size ≤ s.heap.objs.size
  funs : s.heap.FunFrames base outer
  frf : ∀ b ∈ frs outer, H b = none
  hok : HOk P w H s.heap
  bare : AllBare s.gens
/-- a call's end -/
def CE (outer : List Env) (P : Program) (w : World) (H : Hp) (s : Shared) (Q : VK) (u : Value) (s' : Shared) : Prop :=
  ∃ v H', s'.os = s.os ∧ AllBare s'.gens ∧ Un (frs outer) [] H H' s.heap s'.heap ∧ HOk P w H' s'.heap ∧ RelV v u ∧ Q v H'
def CR (CX : CXT) (outer : List Env) (P : Program) (w : World) (H : Hp) (s : Shared) (Q : VK) (E : XK) (r : Result) (s' : Shared) : Prop :=
  match r with
  | .ok (.ret u) => CE outer P w H s Q u s'
  | .ok _ => False
  | .error e => CX outer H s E e s'
structure FnOk (P : Program) (w : World) (K : PySem.W.Frag) (mg : Str → Option Value) (base : Heap) (CX : CXT) (k : Nat) (f : Addr) (fd : FuncData) (ps : List Str) (sp : Sp) : Prop where
  len : ∀ vs H Q E, sp vs H Q E → vs.length = ps.length
  run : ∀ (A : Around) (outer : List Env) (s : Shared) (H : Hp) (args : Args) (us : List Value) (vs : List V) (Q : VK) (E : XK), Room k A → Env0 P w K mg base A outer s H → BindsTo s fd args (ps.zip us) → Vals vs us → sp vs H Q E →
    codeAny (model P w) A (.call (.ref f) args) (CR CX outer P w H s Q E) s
theorem Env0.make {P : Program} {w : World} {K : PySem.W.Frag} {mg : Str → Option Value} {base : Heap} {A : Around} {outer : List Env} {s : Shared} {H : Hp} (e : Env0 P w K mg base A outer s H) (C : Addr) (us : List Value) (kw : List (Str × Value)) :
    Env0 P w K mg base (A.under (.builtin "type.__call__" ⟨.ref C :: us, kw⟩)) outer s H := ⟨by first | exact e.frames | (simpa [Around.under, Code.envs, Code.isFrame, pushEnvs] using e.frames), e.mod, e.bs, e.bsz, e.funs, e.frf, e.hok, e.bare⟩
section
variable {X : Cx} {pins : List (Addr × Obj)} {σ : St} {H : Hp} {s s' : Shared}
/-- from a body: what a callee wants -/
theorem Inv.env0 (I : Inv X pins σ H s) : Env0 X.prog X.w X.K X.mg X.base X.A X.stack s H :=
  ⟨I.ok.frames, I.ok.mod, I.bs, Nat.le_trans I.ok.bsz I.sz, I.stack, I.stkFree, I.hok, I.bare⟩
/-- behind a call -/
theorem Inv.after {Q : VK} {u : Value} (I : Inv X pins σ H s) (h : CE X.stack X.prog X.w H s Q u s') : EP X pins σ Q u s' := by
  obtain ⟨v, H', os, bare, un, hok, r, q⟩ := h
  obtain ⟨hh, g, d, t, os'⟩ := s'
  obtain rfl : os' = s.os := os
  exact ⟨v, H', I.call (h' := hh) (g' := g) (d' := d) (t' := t) (ch := []) un hok bare (fun b z => absurd z (by simp)), r, q⟩
end
/-! ### calls -/
/-- f(..): the written arguments, then the defaults dvs; E: what is wanted of an exception -/
def tCall (sp : Sp) (dvs : List V) (E : XK) (t : TA) : TE := fun σ H Q => t σ H fun vs H1 => sp (vs ++ dvs) H1 Q E
/-- o.m(..) of an instance of the class at C -/
def tMeth (C : Addr) (m : Str) (sp : Sp) (dvs : List V) (E : XK) (ta : TE) (t : TA) : TE := fun σ H Q => ta σ H fun x H1 => ∃ a dx fs, x = .ref a ∧ H1 a = some (.ins C dx fs) ∧ fs.lookup m = none ∧
  t σ H1 fun vs H2 => sp (x :: (vs ++ dvs)) H2 Q E
/-- C(..): a new instance and its dict, then __init__ -/
def tMake (C : Addr) (sp : Sp) (dvs : List V) (E : XK) (t : TA) : TE := fun σ H Q => t σ H fun vs H1 => ∀ x dx, H1 x = none → H1 dx = none → dx ≠ x →
  sp (.ref x :: (vs ++ dvs)) (upd (upd H1 dx (.own x)) x (.ins C dx [])) (fun v H2 => v = .non ∧ Q (.ref x) H2) E

/-- how the parameters are bound: us the positional arguments, kw the keywords' values by name, ds the defaults that fill up -/
def Binds (K : PySem.W.Frag) (fd : FuncData) (ps : List Str) (ds : List Value) : Prop :=
  ∀ (s : Shared) (us : List Value), K.In s.heap → (us ++ ds).length = ps.length → BindsTo s fd ⟨us, []⟩ (ps.zip (us ++ ds))
/-- every parameter is given -/
theorem Binds.all {K : PySem.W.Frag} {fd : FuncData} {ps : List Str} (h : ∀ us : List Value, us.length = ps.length → bindArgs fd ⟨us, []⟩ = pure (ps.zip us)) : Binds K fd ps [] := fun s us _ hl => by
  rw [List.append_nil] at hl ⊢
  exact .of_eq (h us hl)

/-- an exception of a callee reaches what this body wants of exceptions -/
def Passes (CX : CXT) (X : Cx) (E : XK) : Prop := ∀ (pins : List (Addr × Obj)) (σ : St) (H : Hp) (s : Shared) (e : Value) (s' : Shared), Inv X pins σ H s → CX X.stack H s E e s' → X.xe e s'

section
variable {X : Cx} {CX : CXT} {k : Nat} {f C : Addr} {fd : FuncData} {ps : List Str} {sp : Sp} {dvs : List V} {ds : List Value} {E : XK} {x m : Str} {p pos apos : Pos} {e o : Expr} {es : List Expr} {ta : TE} {t : TA}
/-- the callee runs -/
theorem run_fn {pins : List (Addr × Obj)} {σ : St} {H : Hp} {s : Shared} {Q : VK} {us : List Value} {vs : List V} (F : FnOk X.prog X.w X.K X.mg X.base CX k f fd ps sp) (hr : Room k X.A) (hb : Binds X.K fd ps ds) (hd : Vals dvs ds) (hx : Passes CX X E)
    (I : Inv X pins σ H s) (r : Vals vs us) (h : sp (vs ++ dvs) H Q E) : wpAny (model X.prog X.w) X.A (call (.ref f) us) (EP X pins σ Q) X.xe s := by
  have r2 : Vals (vs ++ dvs) (us ++ ds) := r.append hd
  have hl : (us ++ ds).length = ps.length := by rw [← r2.length]; exact F.len _ _ _ _ h
  refine wpAny_call (codeAny_mono (F.run X.A X.stack s H ⟨us, []⟩ (us ++ ds) (vs ++ dvs) Q E hr I.env0 (hb s us I.kIn hl) r2 h) fun r s' hq => ?_)
  cases r with
  | error e => exact hx pins σ H s e s' I hq
  | ok fl =>
    cases fl with
    | ret u => exact I.after hq
    | next => exact False.elim hq
    | brk => exact False.elim hq
    | cont => exact False.elim hq

theorem pe_call (F : FnOk X.prog X.w X.K X.mg X.base CX k f fd ps sp) (hr : Room k X.A) (hg : Gl X x) (hm : X.mg x = some (.ref f)) (hk : PySem.W.keepIn X.K (.ref f) = true) (hb : Binds X.K fd ps ds) (hd : Vals dvs ds) (hx : Passes CX X E)
    (ha : PA X (e :: es) t) (hdb : (x == ("__debug__" : Str)) = false := by decide) (he : starEach (e :: es) X.env = (false, eval e X.env) :: starEach es X.env := by rfl) (hpl : (backTo pos (starEach es X.env)).any (·.1) = false := by rfl) :
    PE X (.Call (.Name x p) (e :: es) [] pos) (tCall sp dvs E t) := by
  intro pins s σ H Q I h
  refine wpAny_Call_Name_kw (ld_glob I hg hm ?_ hdb)
  refine PySem.W.callWith_K (h₀ := X.base) I.ok.mod.kin hk (thn (ha pos pins s σ H _ I h) fun us s1 ⟨vs, H1, I1, r, q⟩ => ⟨I1.kIn, ?_⟩) he hpl
  exact run_fn F hr hb hd hx I1 r q
/-- o.m(e, ..) -/
theorem pe_meth {pl : Sem Bool} (he : PE X o ta) (c : Cls X.K C) (hm : Meth X.K C m f) (F : FnOk X.prog X.w X.K X.mg X.base CX k f fd ps sp) (hr : Room k X.A) (hb : Binds X.K fd ps ds) (hd : Vals dvs ds) (hx : Passes CX X E) (ha : PA X (e :: es) t)
    (hst : starEach (e :: es) X.env = (false, eval e X.env) :: starEach es X.env := by rfl) (hpl : (backTo pos (starEach es X.env)).any (·.1) = false := by rfl)
    (ht : eval (.Call (.Attribute o m apos) (e :: es) [] pos) X.env = (do
      let ov ← eval o X.env
      standAt apos.atName
      let (f, first) ← holding [ov] (getMethod ov m pl)
      callWith pos f first (backTo pos (starEach (e :: es) X.env)) (backToKw pos (keywordEach [] X.env))) := by rfl) :
    PE X (.Call (.Attribute o m apos) (e :: es) [] pos) (tMeth C m sp dvs E ta t) := by
  intro pins s σ H Q I h
  refine PySem.W.methodCall_KW (pl := pl) (thn (he pins s σ H _ I h) fun u s1 ⟨x, H1, I1, rx, a, dx, fs, ex, ea, l, q⟩ => ?_) ht
  subst ex
  obtain rfl : u = Value.ref a := rx
  refine getmeth_ok I1 ea c hm l ?_
  refine PySem.W.callWith_K (first := [.ref a]) (h₀ := X.base) I.ok.mod.kin hm.kp (thn (ha pos pins s1 σ H1 _ I1 q) fun us s2 ⟨vs, H2, I2, r, q2⟩ => ⟨I2.kIn, ?_⟩) hst hpl
  exact run_fn (us := .ref a :: us) (vs := .ref a :: vs) F hr hb hd hx I2 (.cons rfl r) q2
/-- o.m() -/
theorem pe_meth0 {pl : Sem Bool} (he : PE X o ta) (c : Cls X.K C) (hm : Meth X.K C m f) (F : FnOk X.prog X.w X.K X.mg X.base CX k f fd ps sp) (hr : Room k X.A) (hb : Binds X.K fd ps ds) (hd : Vals dvs ds) (hx : Passes CX X E)
    (ht : eval (.Call (.Attribute o m apos) [] [] pos) X.env = (do
      let ov ← eval o X.env
      standAt apos.atName
      let (f, first) ← holding [ov] (getMethod ov m pl)
      callWith pos f first (backTo pos (starEach [] X.env)) (backToKw pos (keywordEach [] X.env))) := by rfl) :
    PE X (.Call (.Attribute o m apos) [] [] pos) (tMeth C m sp dvs E ta tNil) := by
  intro pins s σ H Q I h
  refine PySem.W.methodCall_KW (pl := pl) (thn (he pins s σ H _ I h) fun u s1 ⟨x, H1, I1, rx, a, dx, fs, ex, ea, l, q⟩ => ?_) ht
  subst ex
  obtain rfl : u = Value.ref a := rx
  refine getmeth_ok I1 ea c hm l ?_
  exact PySem.W.callWith_K0 (first := [.ref a]) I1.kIn hm.kp (run_fn (us := [.ref a]) (vs := [.ref a]) F hr hb hd hx I1 (.cons rfl .nil) q)

/-- what a class must have to be made -/
structure Mk (K : PySem.W.Frag) (C f : Addr) : Prop where
  makes : PySem.W.makesIn K C = true
  init : PySem.W.findIn K (.ref C) "__init__" = some (some (.ref f))
  fn : PySem.W.isFn K (.ref f) = true
  kp : PySem.W.keepIn K (.ref C) = true

theorem run_make {pins : List (Addr × Obj)} {σ : St} {H : Hp} {s : Shared} {Q : VK} {us : List Value} {vs : List V} (M : Mk X.K C f) (F : FnOk X.prog X.w X.K X.mg X.base CX k f fd ps sp) (hr : Room (k + 1) X.A) (hb : Binds X.K fd ps ds) (hd : Vals dvs ds)
    (hx : Passes CX X E) (I : Inv X pins σ H s) (r : Vals vs us)
    (h : ∀ x dx, H x = none → H dx = none → dx ≠ x → sp (.ref x :: (vs ++ dvs)) (upd (upd H dx (.own x)) x (.ins C dx [])) (fun v H2 => v = .non ∧ Q (.ref x) H2) E) :
    wpAny (model X.prog X.w) X.A (call (.ref C) us) (EP X pins σ Q) X.xe s := by
  have hq := h (s.heap.objs.size + 1) s.heap.objs.size (I.hok.fresh (Nat.le_succ _)) (I.hok.fresh (Nat.le_refl _)) (Nat.ne_of_lt (Nat.lt_succ_self _))
  have I2 := Inv.made (C := C) I
  have r2 : Vals (V.ref (s.heap.objs.size + 1) :: (vs ++ dvs)) (Value.ref (s.heap.objs.size + 1) :: (us ++ ds)) := .cons rfl (r.append hd)
  have hl : (Value.ref (s.heap.objs.size + 1) :: us ++ ds).length = ps.length := by
    have e := r2.length
    rw [F.len _ _ _ _ hq] at e
    exact e.symm
  refine wpAny_call (make_map (f := f) I.kIn M.makes M.init (beq_iff_eq.mp M.fn) (codeAny_mono (F.run _ X.stack _ _ ⟨Value.ref (s.heap.objs.size + 1) :: us, []⟩ (Value.ref (s.heap.objs.size + 1) :: (us ++ ds)) _ _ E (hr.make C us [])
    (I2.env0.make C us []) (hb _ (Value.ref (s.heap.objs.size + 1) :: us) I2.kIn hl) r2 hq) fun r s' hq' => ?_))
  cases r with
  | error e => exact hx pins σ _ _ e s' I2 hq'
  | ok fl =>
    cases fl with
    | ret u =>
      obtain ⟨v, H', I3, rv, ev, q3⟩ := I2.after hq'
      subst ev
      exact ⟨rv, ⟨V.ref (s.heap.objs.size + 1), H', I3, rfl, q3⟩⟩
    | next => exact False.elim hq'
    | brk => exact False.elim hq'
    | cont => exact False.elim hq'
theorem pe_make0 (M : Mk X.K C f) (F : FnOk X.prog X.w X.K X.mg X.base CX k f fd ps sp) (hr : Room (k + 1) X.A) (hg : Gl X x) (hm : X.mg x = some (.ref C)) (hb : Binds X.K fd ps ds) (hd : Vals dvs ds) (hx : Passes CX X E)
    (hdb : (x == ("__debug__" : Str)) = false := by decide) : PE X (.Call (.Name x p) [] [] pos) (tMake C sp dvs E tNil) := by
  intro pins s σ H Q I h
  refine wpAny_Call_Name_kw (ld_glob I hg hm ?_ hdb)
  exact PySem.W.callWith_K0 I.kIn M.kp (run_make (us := []) M F hr hb hd hx I .nil h)
end
/-! ### keywords -/
section
variable {X : Cx} {CX : CXT} {k : Nat} {f C : Addr} {fd : FuncData} {ps ks : List Str} {sp : Sp} {E : XK} {x m : Str} {p pos apos kpos : Pos} {e o : Expr} {es : List Expr} {kws : List Keyword} {te ta : TE} {t tk : TA} {nm : Option Str}
variable {g : List Value → List Value → List Value} {gV : List V → List V → List V}
end
/-! ### a def's body keeps its promise -/
/-- names: the parameters first -/
structure FnScope (N P : List Str) (sc : Scope) : Prop where
  kind : sc.kind = .function
  co : sc.isCoroutine = false
  gen : sc.isGenerator = false
  nd : N.Nodup
  pre : N.take P.length = P
  par : ∀ x ∈ P, sc.names.lookup x = some .local ∨ sc.names.lookup x = some .cell
  nofree : ∀ y ∈ sc.names, y.2 ≠ .free

theorem bindL_out {kindOf : Str → Option NameKind} {x : Str} : ∀ {binds : List (Str × Value)} {m : Str → Option Value}, (∀ v, (x, v) ∉ binds) → bindL kindOf binds m x = m x
  | [], _, _ => rfl
  | (n, v) :: r, m, h => by
    unfold bindL
    rw [bindL_out fun w hw => h w (List.mem_cons_of_mem _ hw)]
    split
    · have : x ≠ n := by rintro rfl; exact h v List.mem_cons_self
      simp [this]
    · rfl
theorem bindC_out {kindOf : Str → Option NameKind} {x : Str} : ∀ {binds : List (Str × Value)} {m : Str → Option Value}, (∀ v, (x, v) ∉ binds) → bindC kindOf binds m x = m x
  | [], _, _ => rfl
  | (n, v) :: r, m, h => by
    unfold bindC
    rw [bindC_out fun w hw => h w (List.mem_cons_of_mem _ hw)]
    split
    · rfl
    · have : x ≠ n := by rintro rfl; exact h v List.mem_cons_self
      simp [this]
theorem bindL_get {kindOf : Str → Option NameKind} {x : Str} {v : Value} : ∀ {P : List Str} {vs : List Value} {i : Nat} {m : Str → Option Value}, P.Nodup → P[i]? = some x → vs[i]? = some v → kindOf x = some .local →
    bindL kindOf (P.zip vs) m x = some v
  | [], _, _, _, _, h, _, _ => by simp at h
  | _ :: _, [], _, _, _, _, h, _ => by simp at h
  | p :: P, w :: vs, 0, m, nd, h1, h2, hk => by
    simp at h1 h2; subst h1; subst h2
    show bindL kindOf ((p, w) :: P.zip vs) m p = _
    unfold bindL
    rw [bindL_out fun v hv => (List.nodup_cons.mp nd).1 (List.of_mem_zip hv).1, if_pos hk]
    simp
  | p :: P, w :: vs, i + 1, m, nd, h1, h2, hk => by
    show bindL kindOf ((p, w) :: P.zip vs) m x = _
    unfold bindL
    exact bindL_get (i := i) (List.nodup_cons.mp nd).2 (by simpa using h1) (by simpa using h2) hk
theorem bindC_get {kindOf : Str → Option NameKind} {x : Str} {v : Value} : ∀ {P : List Str} {vs : List Value} {i : Nat} {m : Str → Option Value}, P.Nodup → P[i]? = some x → vs[i]? = some v → kindOf x ≠ some .local →
    bindC kindOf (P.zip vs) m x = some v
  | [], _, _, _, _, h, _, _ => by simp at h
  | _ :: _, [], _, _, _, _, h, _ => by simp at h
  | p :: P, w :: vs, 0, m, nd, h1, h2, hk => by
    simp at h1 h2; subst h1; subst h2
    show bindC kindOf ((p, w) :: P.zip vs) m p = _
    unfold bindC
    rw [bindC_out fun v hv => (List.nodup_cons.mp nd).1 (List.of_mem_zip hv).1, if_neg hk]
    simp
  | p :: P, w :: vs, i + 1, m, nd, h1, h2, hk => by
    show bindC kindOf ((p, w) :: P.zip vs) m x = _
    unfold bindC
    exact bindC_get (i := i) (List.nodup_cons.mp nd).2 (by simpa using h1) (by simpa using h2) hk

/-- the names' values at the entry -/
def start (N : List Str) (vs : List V) : St := vs.map some ++ List.replicate (N.length - vs.length) none

/-- the context of a def's body, at its entry; an exception leaves the frame, then lies as CX says -/
def cxOf (CX : CXT) (P : Program) (w : World) (K : PySem.W.Frag) (mg : Str → Option Value) (base : Heap) (N : List Str) (qual : Str) (scope : Scope) (f : Addr) (cd : Value) (A : Around) (outer : List Env) (s : Shared) (H : Hp) (E : XK) : Cx where
  prog := P
  w := w
  K := K
  mg := mg
  base := base
  A := A.deeper (envOfC qual scope s.heap.objs.size f cd)
  N := N
  s_0 := s
  H_0 := H
  env := envOfC qual scope s.heap.objs.size f cd
  outer := outer
  stack := envOfC qual scope s.heap.objs.size f cd :: outer
  ex := []
  calm := true
  fn := fun _ => true
  pn := []
  xe := fun e s' => wpAny (model P w) (A.deeper (envOfC qual scope s.heap.objs.size f cd)) (leaving (envOfC qual scope s.heap.objs.size f cd) e) (fun _ s'' => CX outer H s E e s'') (fun e' s'' => CX outer H s E e' s'') s'

theorem cell_has {sc : Scope} {n : Nat} {x : Str} (h : sc.names.lookup x = some .cell) : ∃ c, (cellsFrom n sc.names []).lookup x = some c := by
  have q := PySem.W.cellsFrom_some sc.names n [] (.inl h)
  exact Option.isSome_iff_exists.mp q

theorem inv_start {CX : CXT} {P : Program} {w : World} {K : PySem.W.Frag} {mg : Str → Option Value} {base : Heap} {N ps : List Str} {qual : Str} {scope : Scope} {f : Addr} {cd : Value} {A : Around} {outer : List Env} {s s1 : Shared} {H : Hp} {E : XK} {us : List Value} {vs : List V}
    (S : FnScope N ps scope) (hd : A.handled = none) (e0 : Env0 P w K mg base A outer s H) (hl : vs.length = ps.length) (r : Vals vs us)
    (x : InCallC s s.heap.objs.size (bindL (envOfC qual scope s.heap.objs.size f cd).kindOf (ps.zip us) fun _ => none) (cellsFrom (s.heap.objs.size + 1) scope.names []) (bindC (envOfC qual scope s.heap.objs.size f cd).kindOf (ps.zip us) fun _ => none) s1) :
    Inv (cxOf CX P w K mg base N qual scope f cd A outer s H E) [] (start N vs) H s1 := by
  have hpl : ps.length ≤ N.length := by have := congrArg List.length S.pre; rw [List.length_take] at this; omega
  obtain ⟨h1, tk, rfl, hk⟩ := x.done
  have noA : ∀ b : Addr, b ∉ (cxOf CX P w K mg base N qual scope f cd A outer s H E).ex := fun b z => absurd (show b ∈ ([] : List Addr) from z) (by simp)
  refine ⟨⟨e0.mod, S.kind, rfl, rfl, Nat.le_refl _, fun y z c h1 h2 => ?_, fun y hy => ?_, fun y c _ h => ?_, fun _ => hd, Around.frames_deeper e0.frames, .inr ⟨rfl, rfl⟩, fun b z => absurd z (noA b), e0.bs, e0.bsz, fun b _ _ => noA b, fun b z => absurd z (noA b), e0.funs, e0.frf⟩,
    rfl, e0.bare, Un.kept hk, ⟨_, x.toInCall.ns, fun i y v h1 h2 h3 => ?_⟩, fun y c h => ⟨_, x.cell y c h⟩, e0.hok.fresh (Nat.le_refl _), fun y c h => ?_, fun p hp => absurd (show p ∈ ([] : List (Addr × Obj)) from hp) (by simp), e0.hok.kept hk, ?_⟩
  · exact name_of_addr x.apart (PySem.mem_of_lookup h1) (PySem.mem_of_lookup h2)
  · have hy : scope.names.lookup y = some .cell ∨ scope.names.lookup y = some .free := hy
    rcases hy with hy | hy
    · exact cell_has hy
    · exact absurd rfl (S.nofree _ (PySem.mem_of_lookup hy))
  · exact Nat.le_of_lt (x.above y c (PySem.mem_of_lookup h))
  · have hi : i < vs.length := by
      unfold start at h2
      by_cases hi : i < vs.length
      · exact hi
      · rw [List.getElem?_append_right (by simpa using hi)] at h2
        rw [List.getElem?_replicate] at h2
        split at h2 <;> cases h2
    have ha : vs[i]? = some v := by
      unfold start at h2
      rw [List.getElem?_append_left (by simpa using hi), List.getElem?_map] at h2
      cases e : vs[i]? with
      | none => rw [e] at h2; cases h2
      | some a => rw [e] at h2; cases h2; rfl
    obtain ⟨u, hu, rv⟩ := r.get ha
    have hp : ps[i]? = some y := by
      rw [← S.pre, List.getElem?_take_of_lt (by omega)]; exact h1
    have ndP : ps.Nodup := by rw [← S.pre]; exact S.nd.sublist (List.take_sublist _ _)
    refine ⟨u, rv, ?_⟩
    rcases S.par y (List.mem_of_getElem? hp) with k | k
    · exact .inl ⟨k, bindL_get ndP hp hu k⟩
    · obtain ⟨c, e⟩ := cell_has (n := s.heap.objs.size + 1) k
      refine .inr ⟨.inl k, c, e, ?_⟩
      have q := x.cell y c e
      rw [bindC_get ndP hp hu (by show scope.names.lookup y ≠ _; rw [k]; decide)] at q
      exact q
  · exact e0.hok.fresh (Nat.le_of_lt (x.above y c (PySem.mem_of_lookup h)))
  · unfold start
    show _ = N.length
    rw [List.length_append, List.length_map, List.length_replicate]
    omega

/-- THE RULE: a def (or a method) of the text, by its body. The body's reading t is chosen for each entry; it is run at the parameters' values -/
theorem fn_of {CX : CXT} {P : Program} {w : World} {K : PySem.W.Frag} {mg : Str → Option Value} {base : Heap} {k : Nat} {f : Addr} {name qual : Str} {params : Arguments} {body : List Stmt} {scope : Scope} {dV kV doc pm cdv ct oc : Value} {an od : Option Addr}
    {osl : Array (Option Value)} {N ps : List Str} {sp : Sp} (lk : K.lookup f = some ⟨oc, od, .func (PySem.W.fnOf name qual params body scope dV kV doc pm an cdv ct), osl⟩) (hcd : PySem.W.codeIn K cdv qual = true) (S : FnScope N ps scope)
    (len : ∀ vs H Q E, sp vs H Q E → vs.length = ps.length)
    (hbody : ∀ (A : Around) (outer : List Env) (s : Shared) (H : Hp) (vs : List V) (Q : VK) (E : XK), Room k (A.deeper (envOfC qual scope s.heap.objs.size f cdv)) → sp vs H Q E →
      ∃ t, PSs (cxOf CX P w K mg base N qual scope f cdv A outer s H E) body t ∧ t { nx := fun _ H' => Q .non H', rt := Q } (start N vs) H) :
    FnOk P w K mg base CX (k + 1) f (PySem.W.fnOf name qual params body scope dV kV doc pm an cdv ct) ps sp := by
  refine ⟨len, fun A outer s H args us vs Q E hr e0 hb r hsp => ?_⟩
  have hl := len _ _ _ _ hsp
  have KX : K.In s.heap := e0.mod.kin.keeps fun b o e => (e0.bs b o e).1
  have lim : s.heap.NoLimit := e0.mod.nolimit.keeps fun b o e => (e0.bs b o e).1
  have hkind : ∀ y ∈ ps.zip us, scope.names.lookup y.1 = some .local ∨ (scope.names.lookup y.1 = some .cell ∧ ((cellsFrom (s.heap.objs.size + 1) scope.names []).lookup y.1).isSome = true) := fun ⟨n, v⟩ hy => by
    rcases S.par n (List.of_mem_zip hy).1 with q | q
    · exact .inl q
    · exact .inr ⟨q, PySem.W.cellsFrom_some _ _ _ (.inl q)⟩
  refine codeAny_call_function hr.depth (KX _ _ lk) rfl S.co S.gen rfl (PySem.W.codeRec_of KX hcd) (hb _ _ _ _ ?_)
  refine wpAny_newFunctionEnv_cells S.kind hkind fun env he s1 x => ?_
  subst he
  refine ⟨lim.keeps x.toInCall.keep, codeAny_func ?_⟩
  obtain ⟨t, ht, hq⟩ := hbody A outer s H vs Q E (hr.deeper _) hsp
  have I : Inv (cxOf CX P w K mg base N qual scope f cdv A outer s H E) [] (start N vs) H s1 := inv_start S hr.hd e0 hl r x
  refine wpAny_mono (ht [] s1 (start N vs) H _ I hq) (fun fl s' hs => ?_) fun e s' hs => hs
  have fin : ∀ {σ' : St} {H' : Hp} {v : V} {u : Value}, Inv (cxOf CX P w K mg base N qual scope f cdv A outer s H E) [] σ' H' s' → RelV v u → Q v H' → CE outer P w H s Q u s' :=
    fun {σ' H' v u} J rv q => ⟨v, H', J.os, J.bare, J.base, J.hok, rv, q⟩
  cases fl with
  | ret u =>
    obtain ⟨v, σ', H', J, rv, q⟩ := hs
    exact fin J rv q
  | next =>
    obtain ⟨σ', H', J, q⟩ := hs
    exact fin (v := V.non) (u := Value.none) J rfl q
  | brk =>
    obtain ⟨_, _, _, q⟩ := hs
    exact False.elim q
  | cont =>
    obtain ⟨_, _, _, q⟩ := hs
    exact False.elim q
end L2
namespace L2
open PySem PySem.Spec PyProof.Rows
section
variable {X : Cx} {x : Str} {p pos : Pos} {e : Expr} {es : List Expr} {t : TA} {id T : String} {r : List V → Hp → VK → Prop}
def tCB (r : List V → Hp → VK → Prop) (t : TA) : TE := fun σ H Q => t σ H fun vs H1 => r vs H1 Q
/-- f(e, ..), f a built-in function -/
theorem pe_callB (hc : CallR X (.builtin id) r) (hg : Gl X x) (hm : X.mg x = none) (hv : bootBuiltins x = some (.builtin id)) (ha : PA X (e :: es) t) (hn : x ≠ "__name__" := by decide) (hdb : (x == ("__debug__" : Str)) = false := by decide)
    (he : starEach (e :: es) X.env = (false, eval e X.env) :: starEach es X.env := by rfl) (hpl : (backTo pos (starEach es X.env)).any (·.1) = false := by rfl) : PE X (.Call (.Name x p) (e :: es) [] pos) (tCB r t) := by
  intro pins s σ H Q I h
  refine wpAny_Call_Name_kw (ld_blt I hg hm hv ?_ hn hdb)
  exact PyProof.Rows.callWith_builtin1 (thn (ha pos pins s σ H _ I h) fun us s1 ⟨vs, H1, I1, r1, q1⟩ => hc pins s1 σ H1 vs us Q I1 r1 q1) he hpl
end
end L2
namespace HT
open PySem PyProof.Rows
section
open PySem.SeqAt
open PySem.AutoSeq1 (wpAny_loadPart')
open PySem.MeetsSeq PySem.MeetsSeq2 PySem.MeetsSeq3
end
section
variable {prog : Program} {w : World} {A : Around} {E : Value → Shared → Prop} {s : Shared}
/-! ### t[a:b], not the whole -/
/-- a slice's bound as a place among n (d where it is left out) -/
def sIx (n d : Nat) : Option Int → Nat
  | none => d
  | some v => if v < 0 then (v + (n : Int)).toNat else min v.toNat n
theorem sIx_none (n d : Nat) : sIx n d none = d := rfl
theorem sIx_nat (n d k : Nat) : sIx n d (some (k : Int)) = min k n := by
  show (if (k : Int) < 0 then ((k : Int) + (n : Int)).toNat else min (k : Int).toNat n) = min k n
  rw [if_neg (by omega), Int.toNat_natCast]
end
end HT
namespace L2
open PySem PySem.Spec PyProof.Rows
/-! ### the parts of a slice -/
abbrev TO := St → Hp → (Option Int → Hp → Prop) → Prop
/-- a slice's part (left out, or an int) -/
def PO (X : Cx) (e : Option Expr) (t : TO) : Prop :=
  ∀ (pins : List (Addr × Obj)) (s : Shared) (σ : St) (H : Hp) (Q : Option Int → Hp → Prop), Inv X pins σ H s → t σ H Q →
    wpAny (model X.prog X.w) X.A (evalPart e X.env) (fun u s' => ∃ o H', Inv X pins σ H' s' ∧ IsPart u o ∧ Q o H') X.xe s
def tNoPart : TO := fun _ H Q => Q none H
def tPart (t : TE) : TO := fun σ H Q => t σ H fun x H1 => ∃ i, x = .int i ∧ Q (some i) H1

section
variable {X : Cx} {e : Expr} {te : TE} {lo hi : Option Expr} {tl th : TO} {pos p2 : Pos}
theorem po_none : PO X none tNoPart := by
  intro pins s σ H Q I h
  rw [evalPart_none]
  exact wpAny_pure ⟨none, H, I, .none, h⟩
theorem po_some (h : PE X e te) : PO X (some e) (tPart te) := by
  intro pins s σ H Q I hw
  rw [evalPart_some]
  refine thn (h pins s σ H _ I hw) fun u s1 ⟨x, H1, I1, r1, q1⟩ => ?_
  obtain ⟨i, rfl, q⟩ := q1
  obtain ⟨t, rfl⟩ := r1
  exact ⟨some i, H1, I1, .int i t, q⟩

/-- what a slice of a value is, by values: the slice object stands at sl -/
def SlR (X : Cx) (r : V → Option Int → Option Int → Hp → VK → Prop) : Prop :=
  ∀ (pins : List (Addr × Obj)) (s : Shared) (σ : St) (H : Hp) (x : V) (v vl vu : Value) (lo hi : Option Int) (sl : Addr) (Q : VK), Inv X pins σ H s → RelV x v → s.heap.IsSliceOf sl vl vu .none → IsPart vl lo → IsPart vu hi → r x lo hi H Q →
    ∃ T id, typeLookup (.type T) "__getitem__" = pure (some (.builtin id)) ∧ s.TypeIs v T ∧ wpAny (model X.prog X.w) X.A (getItem v (.ref sl)) (EP X pins σ Q) X.xe s
def tSl (r : V → Option Int → Option Int → Hp → VK → Prop) (te : TE) (tl th : TO) : TE := fun σ H Q => te σ H fun x H1 => tl σ H1 fun l H2 => th σ H2 fun u H3 => r x l u H3 Q
/-- a[lo:hi], any a -/
theorem pe_slice {r : V → Option Int → Option Int → Hp → VK → Prop} (hr : SlR X r) (he : PE X e te) (hl : PO X lo tl) (hu : PO X hi th) : PE X (.Subscript e (.Slice lo hi none p2) pos) (tSl r te tl th) := by
  intro pins s σ H Q I h
  refine Subscript_ (thn (he pins s σ H _ I h) fun v s1 ⟨x, H1, I1, r1, q1⟩ => ?_)
  refine wpAny_Slice (thn (hl pins s1 σ H1 _ I1 q1) fun vl s2 ⟨l, H2, I2, pl, q2⟩ => thn (hu pins s2 σ H2 _ I2 q2) fun vu s3 ⟨u, H3, I3, pu, q3⟩ => ?_)
  rw [evalPart_none]
  refine wpAny_pure ?_
  have I4 : Inv X pins σ H3 { s3 with heap := s3.heap.push { cls := .type "slice", data := .fields #[vl, vu, .none] } } := I3.kept (t' := s3.toks) fun b ob q => Heap.get?_push_of_some _ q
  obtain ⟨T, id, hT, ht, hg⟩ := hr pins { s3 with heap := s3.heap.push { cls := .type "slice", data := .fields #[vl, vu, .none] } } σ H3 x v vl vu l u s3.heap.objs.size Q I4 r1 (Heap.IsSliceOf.new ..) pl pu q3
  show wpAny (model X.prog X.w) X.A (subscriptTail e (.Slice lo hi none p2) v (.ref s3.heap.objs.size)) (EP X pins σ Q) X.xe { s3 with heap := s3.heap.push { cls := .type "slice", data := .fields #[vl, vu, .none] } }
  exact tail_any (ops := [.ref s3.heap.objs.size, v]) ht hT hg (by with_unfolding_all rfl)

/-- the items of xs[lo:hi] -/
def cutV (xs : List V) (lo hi : Option Int) : List V := (xs.drop (HT.sIx xs.length 0 lo)).take (HT.sIx xs.length xs.length hi - HT.sIx xs.length 0 lo)
theorem cutV_length (xs : List V) (lo hi : Option Int) : (cutV xs lo hi).length ≤ xs.length := by
  unfold cutV
  rw [List.length_take, List.length_drop]
  omega
/-! ### t < u, t + u -/
end
end L2
namespace L2
open PySem PySem.Spec PyProof.Rows
/-! ### places -/
/-- the place that an index of any sign means -/
def ixN (n : Nat) (i : Int) : Option Nat := if 0 ≤ i then (if i < n then some i.toNat else none) else if -(n : Int) ≤ i then some (i + n).toNat else none
def atI {α : Type} (xs : List α) (i : Int) : Option α := (ixN xs.length i).bind fun j => xs[j]?
theorem ixN_seq {n : Nat} {i : Int} {j : Nat} (h : ixN n i = some j) : seqIndex? i n = some j ∧ j < n ∧ -(n : Int) ≤ i ∧ i < n := by
  unfold ixN at h
  by_cases h0 : 0 ≤ i
  · rw [if_pos h0] at h
    by_cases h1 : i < n
    · rw [if_pos h1] at h
      have e : i.toNat = j := Option.some.inj h
      exact ⟨by rw [seqIndex_of h0 h1, e], by omega, by omega, h1⟩
    · rw [if_neg h1] at h; cases h
  · rw [if_neg h0] at h
    by_cases h1 : -(n : Int) ≤ i
    · rw [if_pos h1] at h
      have e : (i + n).toNat = j := Option.some.inj h
      exact ⟨by rw [seqIndex_neg (by omega) h1, e], by omega, h1, by omega⟩
    · rw [if_neg h1] at h; cases h
theorem atI_get {α : Type} {xs : List α} {i : Int} {v : α} (h : atI xs i = some v) : ∃ j, seqIndex? i xs.length = some j ∧ xs[j]? = some v ∧ j < xs.length ∧ -(xs.length : Int) ≤ i ∧ i < xs.length := by
  unfold atI at h
  cases e : ixN xs.length i with
  | none => rw [e] at h; cases h
  | some j =>
    rw [e] at h
    obtain ⟨h1, h2, h3, h4⟩ := ixN_seq e
    exact ⟨j, h1, h, h2, h3, h4⟩
theorem atI_nat {α : Type} {xs : List α} {j : Nat} {v : α} (h : xs[j]? = some v) : atI xs (j : Int) = some v := by
  have hj : j < xs.length := (List.getElem?_eq_some_iff.mp h).1
  have e : ixN xs.length (j : Int) = some j := by
    unfold ixN
    rw [if_pos (by omega), if_pos (by omega)]; simp
  unfold atI; rw [e]; exact h
/-! ### what may be subscripted -/
/-- what stands as an index of a plain subscript -/
def PlainIx (b : Expr) : Prop := ∀ o i, subscripted b false o i = operate [o, i] (getItem o i)
/-- a subscript by values -/
def IxR (X : Cx) (r : R2) : Prop :=
  ∀ (value slice : Expr) (pins : List (Addr × Obj)) (s : Shared) (σ : St) (H : Hp) (x y : V) (v u : Value) (Q : VK), Inv X pins σ H s → RelV x v → RelV y u → r x y H Q →
    subscripted slice false v u = operate [v, u] (getItem v u) → wpAny (model X.prog X.w) X.A (subscriptTail value slice v u) (EP X pins σ Q) X.xe s
/-- a call of a builtin's method by values: the receiver, the arguments -/
def MtR (X : Cx) (id : String) (r : V → List V → Hp → VK → Prop) : Prop :=
  ∀ (pins : List (Addr × Obj)) (s : Shared) (σ : St) (H : Hp) (x : V) (xs : List V) (v : Value) (us : List Value) (Q : VK), Inv X pins σ H s → RelV x v → Vals xs us → r x xs H Q →
    wpAny (model X.prog X.w) X.A (call (.builtin id) (v :: us)) (EP X pins σ Q) X.xe s
section
variable {X : Cx} {a b : Expr} {ta tb : TE} {pos : Pos}
/-- a[b] -/
theorem pe_ix {r : R2} (hr : IxR X r) (ha : PE X a ta) (hb : PE X b tb) (hs : PlainIx b) : PE X (.Subscript a b pos) (tOp r ta tb) := by
  intro pins s σ H Q I h
  exact Subscript_ (binT ha hb I h fun v u s2 x y H2 I2 rx ry q => hr a b pins s2 σ H2 x y v u Q I2 rx ry q (hs _ _))

def rIxL (K : PySem.W.Frag) : R2 := fun x y H Q => ∃ p xs i v, x = .ref p ∧ y = .int i ∧ SqL K H p xs ∧ atI xs i = some v ∧ Q v H
def rIxT (K : PySem.W.Frag) : R2 := fun x y H Q => ∃ p xs i v, x = .ref p ∧ y = .int i ∧ SqT K H p xs ∧ atI xs i = some v ∧ Q v H
theorem ix_list : IxR X (rIxL X.K) := by
  intro value slice pins s σ H x y v u Q I rx ry h hs
  obtain ⟨p, xs, i, z, rfl, rfl, hq, he, q⟩ := h
  cases rx
  obtain ⟨t, rfl⟩ := ry
  obtain ⟨its, r, pl, hz⟩ := I.list hq
  obtain ⟨j, h1, h2, h3, h4, h5⟩ := atI_get he
  obtain ⟨w, ew, rw'⟩ := r.get h2
  have hl := r.length
  have hn := line63
  have fin : EP X pins σ Q w s := ⟨z, H, I, rw', q⟩
  by_cases h0 : 0 ≤ i
  · have hj : i.toNat = j := by
      rw [seqIndex_of h0 h5] at h1
      exact Option.some.inj h1
    exact item_listR pl.isList h0 (by omega) (by rw [hj]; simpa using ew) fin hs
  · have hj : (i + (its.toArray.size : Int)).toNat = j := by
      rw [seqIndex_neg (by omega) h4] at h1
      rw [List.size_toArray, ← hl]
      exact Option.some.inj h1
    exact subscriptTail_builtinR (x := w) pl.isList.typeIs slot_list_getitem.lookup
      (wpAny_getItem_list_neg (Q := fun r s' => r = w ∧ EP X pins σ Q r s') pl.isList (by omega) (by rw [List.size_toArray] <;> omega) (by omega) (by rw [hj]; simpa using ew) ⟨rfl, fin⟩) hs
theorem ix_tup : IxR X (rIxT X.K) := by
  intro value slice pins s σ H x y v u Q I rx ry h hs
  obtain ⟨p, xs, i, z, rfl, rfl, hq, he, q⟩ := h
  cases rx
  obtain ⟨t, rfl⟩ := ry
  obtain ⟨its, r, pl, hz⟩ := I.tuple hq
  obtain ⟨j, h1, h2, h3, h4, h5⟩ := atI_get he
  obtain ⟨w, ew, rw'⟩ := r.get h2
  have hl := r.length
  have hn := line63
  have fin : EP X pins σ Q w s := ⟨z, H, I, rw', q⟩
  exact subscriptTail_builtinR (x := w) pl.typeIs slot_tuple_getitem.lookup
    (getItem_tuple (j := j) (Q := fun r s' => r = w ∧ EP X pins σ Q r s') pl (by omega) (by omega) (by rw [List.size_toArray, ← hl]; exact h1) (by simpa using ew) ⟨rfl, fin⟩) hs
/-! ### xs[i] = v, any sign -/
/-- the list's object behind a store -/
theorem mapSeq_set (its : List Value) (n j : Nat) (u : Value) : Obj.mapSeq (·.setIfInBounds j u) { cls := .type "list", data := .seq its.toArray n } = { cls := .type "list", data := .seq (its.set j u).toArray n } := by
  simp [Obj.mapSeq]
theorem Inv.lst {pins : List (Addr × Obj)} {σ : St} {H : Hp} {s : Shared} {p : Addr} {xs : List V} (I : Inv X pins σ H s) (h : H p = some (.lst xs)) :
    ∃ (its : List Value) (n : Nat), Vals xs its ∧ s.heap.get? p = some { cls := .type "list", data := .seq its.toArray n } ∧ xs.length ≤ sizeLine := by
  obtain ⟨z, its, n, r, e⟩ := I.hok p _ h
  exact ⟨its, n, r, e, z⟩
/-- the list at p is written by an update of its object -/
theorem Inv.lstUpd {pins : List (Addr × Obj)} {σ : St} {H : Hp} {s : Shared} {p : Addr} {xs ys : List V} {its its' : List Value} {n n' : Nat} {f : Obj → Obj} (I : Inv X pins σ H s) (h : H p = some (.lst xs))
    (ho : s.heap.get? p = some { cls := .type "list", data := .seq its.toArray n }) (hf : f { cls := .type "list", data := .seq its.toArray n } = { cls := .type "list", data := .seq its'.toArray n' }) (r : Vals ys its') (hz : ys.length ≤ sizeLine) (t : Nat) :
    Inv X pins σ (upd H p (.lst ys)) { s with heap := s.heap.update p f, toks := t } := by
  have e : (s.heap.update p f).get? p = some { cls := .type "list", data := .seq its'.toArray n' } := by
    rw [Heap.get?_update_self f ho (by rw [hf] <;> rfl), hf]
  refine I.write (x := p) (e := p) (by rw [h]; trivial) (.inl rfl) (fun b u hb q => (Heap.get?_update_other _ _ (Ne.symm hb)).trans q) ⟨_, e⟩ ?_
  exact ⟨hz, its', n', r, e⟩
def rSetL : V → V → V → Hp → (Hp → Prop) → Prop := fun o i v H Q => ∃ p xs k j, o = .ref p ∧ i = .int k ∧ H p = some (.lst xs) ∧ ixN xs.length k = some j ∧ Q (upd H p (.lst (xs.set j v)))
theorem set_list : PSet X rSetL := by
  intro pins s σ H o i v ov iv u Q I ro ri rv h
  obtain ⟨p, xs, k, j, rfl, rfl, hp, hj, q⟩ := h
  cases ro
  obtain ⟨t, rfl⟩ := ri
  obtain ⟨its, n, r, ho, hz⟩ := I.lst hp
  obtain ⟨h1, h2, h3, h4⟩ := ixN_seq hj
  have hl := r.length
  have hn := line63
  have I' : Inv X pins σ (upd H p (.lst (xs.set j v))) { s with heap := s.heap.update p (Obj.mapSeq (·.setIfInBounds j u)) } :=
    I.lstUpd hp ho (mapSeq_set its n j u) (r.set rv j) (by rw [List.length_set]; exact hz) s.toks
  by_cases h0 : 0 ≤ k
  · have hk : k.toNat = j := by
      rw [seqIndex_of h0 h4] at h1
      exact Option.some.inj h1
    exact PySem.W.ki_setAt ho h0 (by omega) (by rw [List.size_toArray, ← hl]; exact h4) (by rw [hk]; exact ⟨_, I', q⟩)
  · have hk : (k + (its.toArray.size : Int)).toNat = j := by
      rw [seqIndex_neg (by omega) h3] at h1
      rw [List.size_toArray, ← hl]
      exact Option.some.inj h1
    exact PySem.W.ki_setBack ho (by omega) (by rw [List.size_toArray, ← hl]; exact h3) (by omega) (by rw [hk]; exact ⟨_, I', q⟩)

/-! ### slices -/
theorem slice_bounds (lo hi : Option Int) (n : Nat) : (sliceBounds lo hi none n).1 = ((HT.sIx n 0 lo : Nat) : Int) ∧ (sliceBounds lo hi none n).2.1 = ((HT.sIx n n hi : Nat) : Int) ∧ (sliceBounds lo hi none n).2.2 = 1 := by
  refine ⟨?_, ?_, rfl⟩
  · cases lo with
    | none => simp [sliceBounds, HT.sIx]
    | some i =>
      simp only [sliceBounds, HT.sIx, Option.getD_none, show (1 : Int) > 0 by decide, if_true]
      by_cases h : i < 0
      · simp only [h, if_true] <;> omega
      · simp only [h, if_false] <;> omega
  · cases hi with
    | none => simp [sliceBounds, HT.sIx]
    | some i =>
      simp only [sliceBounds, HT.sIx, Option.getD_none, show (1 : Int) > 0 by decide, if_true]
      by_cases h : i < 0
      · simp only [h, if_true] <;> omega
      · simp only [h, if_false] <;> omega
theorem slicePick_cut (its : List Value) (lo hi : Option Int) : slicePick its.toArray lo hi none = ((its.drop (HT.sIx its.length 0 lo)).take (HT.sIx its.length its.length hi - HT.sIx its.length 0 lo)).toArray := by
  obtain ⟨h1, h2, h3⟩ := slice_bounds lo hi its.toArray.size
  unfold slicePick
  rw [h1, h2, h3]
  simp only [sliceRange_one, pick_run, List.size_toArray] <;> rfl
/-- xs[lo:hi] of a list: a new list -/
def rSlL (K : PySem.W.Frag) : V → Option Int → Option Int → Hp → VK → Prop := fun x lo hi H Q => ∃ a xs, x = .ref a ∧ SqL K H a xs ∧ ∀ p, H p = none → Q (.ref p) (upd H p (.lst (cutV xs lo hi)))
theorem sl_list : SlR X (rSlL X.K) := by
  intro pins s σ H x v vl vu lo hi sl Q I rx hs pl pu h
  obtain ⟨a, xs, rfl, hx, q⟩ := h
  cases rx
  obtain ⟨its, r, ht, hz⟩ := I.list hx
  have hlen := r.length
  refine ⟨"list", _, slot_list_getitem.lookup, ht.isList.typeIs, ?_⟩
  refine wpAny_getItem_list_slice ht.isList hs pl pu .none (by simp) ?_ (by rw [List.size_toArray] <;> omega)
  rw [slicePick_cut, ← hlen]
  refine ⟨.ref s.heap.objs.size, _, I.laid (t' := s.toks) (o := .lst (cutV xs lo hi)) (fun b ob q => Heap.get?_push_of_some _ q) (Nat.le_refl _) ?_, rfl, q _ (I.hok.fresh (Nat.le_refl _))⟩
  exact ⟨Nat.le_trans (cutV_length xs lo hi) hz, _, 0, (r.drop (HT.sIx xs.length 0 lo)).take (HT.sIx xs.length xs.length hi - HT.sIx xs.length 0 lo), Heap.get?_push_size _ rfl⟩

/-! ### in, not in: flat items -/
def flatV : V → Bool
  | .non => true
  | .bl _ => true
  | .int _ => true
  | .str _ => true
  | _ => false
/-- == of flat values -/
def eqV : V → V → Bool
  | .non, .non => true
  | .bl a, .bl b => a == b
  | .bl a, .int b => (if a then 1 else 0) == b
  | .int a, .bl b => a == (if b then 1 else 0)
  | .int a, .int b => a == b
  | .str a, .str b => a == b
  | _, _ => false
theorem eqAt_V {A : Around} {s : Shared} {y x : V} {u v : Value} (ry : RelV y u) (rx : RelV x v) (fy : flatV y = true) (fx : flatV x = true) : SeqAt.EqAt A s u v (eqV y x) := by
  cases y with
  | non =>
    cases ry
    cases x with
    | non => cases rx; exact SeqAt.EqAt.same _
    | bl b => cases rx; exact SeqAt.EqAt.none_bool b
    | int b => obtain ⟨t, rfl⟩ := rx; exact SeqAt.EqAt.none_int b t
    | str b => obtain ⟨t, rfl⟩ := rx; exact SeqAt.EqAt.none_str b t
    | _ => exact absurd (show false = true from fx) Bool.false_ne_true
  | bl a =>
    cases ry
    cases x with
    | non => cases rx; exact SeqAt.EqAt.bool_none a
    | bl b => cases rx; exact SeqAt.EqAt.bool_bool a b
    | int b => obtain ⟨t, rfl⟩ := rx; exact SeqAt.EqAt.bool_int a b t
    | str b => obtain ⟨t, rfl⟩ := rx; exact SeqAt.EqAt.bool_str a b t
    | _ => exact absurd (show false = true from fx) Bool.false_ne_true
  | int a =>
    obtain ⟨t', rfl⟩ := ry
    cases x with
    | non => cases rx; exact SeqAt.EqAt.int_none a t'
    | bl b => cases rx; exact SeqAt.EqAt.int_bool a t' b
    | int b => obtain ⟨t, rfl⟩ := rx; exact SeqAt.EqAt.int_int a t' b t
    | str b => obtain ⟨t, rfl⟩ := rx; exact SeqAt.EqAt.int_str a t' b t
    | _ => exact absurd (show false = true from fx) Bool.false_ne_true
  | str a =>
    obtain ⟨t', rfl⟩ := ry
    cases x with
    | non => cases rx; exact SeqAt.EqAt.str_none a t'
    | bl b => cases rx; exact SeqAt.EqAt.str_bool a t' b
    | int b => obtain ⟨t, rfl⟩ := rx; exact SeqAt.EqAt.str_int a t' b t
    | str b => obtain ⟨t, rfl⟩ := rx; exact SeqAt.EqAt.str_str a t' b t
    | _ => exact absurd (show false = true from fx) Bool.false_ne_true
  | _ => exact absurd (show false = true from fy) Bool.false_ne_true
/-- the items' answers, read off the values (a value's own answer does not lean on its token) -/
def eqU (x : V) (u : Value) : Bool := match u with
  | .none => eqV .non x
  | .bool b => eqV (.bl b) x
  | .int i _ => eqV (.int i) x
  | .str z _ => eqV (.str z) x
  | _ => false
theorem eqU_of {x y : V} {u : Value} (r : RelV y u) (f : flatV y = true) : eqU x u = eqV y x := by
  cases y with
  | non => cases r; rfl
  | bl b => cases r; rfl
  | int i => obtain ⟨t, rfl⟩ := r; rfl
  | str z => obtain ⟨t, rfl⟩ := r; rfl
  | _ => exact absurd (show false = true from f) Bool.false_ne_true
theorem any_eqU {x : V} : ∀ {xs : List V} {us : List Value}, Vals xs us → xs.all flatV = true → us.any (eqU x) = xs.any fun y => eqV y x
  | _, _, .nil, _ => rfl
  | y :: xs, u :: us, .cons r t, f => by
    rw [List.all_cons, Bool.and_eq_true] at f
    rw [List.any_cons, List.any_cons, eqU_of r f.1, any_eqU t f.2]
theorem mem_eqAt {A : Around} {s : Shared} {x : V} {v : Value} (rx : RelV x v) (fx : flatV x = true) : ∀ {xs : List V} {us : List Value}, Vals xs us → xs.all flatV = true → ∀ u ∈ us, SeqAt.EqAt A s u v (eqU x u)
  | _, _, .nil, _ => fun u hu => by cases hu
  | y :: xs, u :: us, .cons r t, f => fun u' hu => by
    rw [List.all_cons, Bool.and_eq_true] at f
    rcases List.mem_cons.mp hu with rfl | hu
    · rw [eqU_of r f.1]; exact eqAt_V r rx f.1 fx
    · exact mem_eqAt rx fx t f.2 u' hu
def inV (x : V) (xs : List V) : Bool := xs.any fun y => eqV y x
/-- x in a list or tuple of flat items -/
def rIn (K : PySem.W.Frag) (neg : Bool) : R2 := fun x y H Q => ∃ p xs, y = .ref p ∧ (SqL K H p xs ∨ SqT K H p xs) ∧ flatV x = true ∧ xs.all flatV = true ∧ Q (.bl (if neg then !inV x xs else inV x xs)) H
theorem op_in_seq : OpR X (compareOp .In) (rIn X.K false) := by
  intro pins s σ H x y v u Q I rx ry h
  obtain ⟨p, xs, rfl, hq, fx, fs, q⟩ := h
  cases ry
  rcases hq with hq | hq
  · obtain ⟨its, r, pl, hz⟩ := I.list hq
    refine SeqAt.in_listAt (eqU x) pl.isList (fun w hw => mem_eqAt rx fx r fs w (by simpa using hw)) ⟨.bl _, H, I, rfl, ?_⟩
    rw [show its.toArray.any (eqU x) = its.any (eqU x) by simp, any_eqU r fs]
    exact q
  · obtain ⟨its, r, pl, hz⟩ := I.tuple hq
    refine SeqAt.in_tupleAt (eqU x) pl (fun w hw => mem_eqAt rx fx r fs w (by simpa using hw)) ⟨.bl _, H, I, rfl, ?_⟩
    rw [show its.toArray.any (eqU x) = its.any (eqU x) by simp, any_eqU r fs]
    exact q
/-! ### len, list(x), tuple(x) of any list or tuple that is read -/
theorem call_len_seq : CallR X (.builtin "len") (fun xs H Q => ∃ p ys, xs = [.ref p] ∧ (SqL X.K H p ys ∨ SqT X.K H p ys) ∧ Q (.int ys.length) H) := by
  intro pins s σ H xs us Q I r h
  obtain ⟨p, ys, rfl, hq, q⟩ := h
  obtain ⟨u, rfl, rx⟩ := vals1 r
  cases rx
  have hn := line63
  rcases hq with hq | hq
  · obtain ⟨its, r', pl, hz⟩ := I.list hq
    have hlen := r'.length
    exact Calls.call_len_list pl.isList (by simp only [List.size_toArray] <;> omega) ⟨.int ys.length, H, I.tok _, ⟨s.toks + 1, by rw [List.size_toArray, hlen]⟩, q⟩
  · obtain ⟨its, r', pl, hz⟩ := I.tuple hq
    have hlen := r'.length
    exact len_tuple pl (by simp only [List.size_toArray] <;> omega) ⟨.int ys.length, H, I.tok _, ⟨s.toks + 1, by rw [List.size_toArray, hlen]⟩, q⟩
/-! ### the call of a builtin's method: o.m(..) -/
/-- the value is of that builtin type -/
def tyV (K : PySem.W.Frag) (T : String) (x : V) (H : Hp) : Prop := match x with
  | .str _ => T = "str"
  | .int _ => T = "int"
  | .ref p => (T = "list" ∧ ∃ xs, SqL K H p xs) ∨ (T = "tuple" ∧ ∃ o, K.lookup p = some o ∧ o.cls = .type "tuple" ∧ o.dict = none) ∨
      (T = "dict" ∧ ((∃ kvs, H p = some (.dK kvs)) ∨ ∃ kvs, H p = some (.dT kvs))) ∨ (T = "set" ∧ ∃ S n, H p = some (.set S n))
  | _ => False
theorem tyV_is {pins : List (Addr × Obj)} {σ : St} {H : Hp} {s : Shared} {T : String} {x : V} {v : Value} (I : Inv X pins σ H s) (r : RelV x v) (ty : tyV X.K T x H) :
    s.TypeIs v T ∧ ∀ a, v = .ref a → ∃ ob, s.heap.get? a = some ob ∧ ob.dict = none := by
  cases x with
  | str z =>
    obtain ⟨t, rfl⟩ := r
    cases (show T = "str" from ty)
    exact ⟨typeIs_str s z t, fun _ e => nomatch e⟩
  | int i =>
    obtain ⟨t, rfl⟩ := r
    cases (show T = "int" from ty)
    exact ⟨typeIs_int s i t, fun _ e => nomatch e⟩
  | ref p =>
    cases r
    rcases ty with ⟨rfl, xs, hq⟩ | ⟨rfl, o, hk, hc, hd⟩ | ⟨rfl, hk⟩ | ⟨rfl, S, n, hk⟩
    · obtain ⟨its, _, pl, _⟩ := I.list hq
      refine ⟨pl.isList.typeIs, fun a e => ?_⟩
      cases e
      obtain ⟨o, n, e, c, hd, _⟩ := pl
      exact ⟨o, e, hd⟩
    · refine ⟨⟨o, I.kIn p o hk, hc⟩, fun a e => ?_⟩
      cases e
      exact ⟨o, I.kIn _ o hk, hd⟩
    · have z : ∃ o, s.heap.get? p = some o ∧ o.ExactDict := by
        rcases hk with ⟨kvs, hk⟩ | ⟨kvs, hk⟩
        · obtain ⟨_, _, _, _, o, _, _, e, ex, _⟩ := I.hok p _ hk
          exact ⟨o, e, ex⟩
        · obtain ⟨_, _, _, _, o, _, _, e, ex, _⟩ := I.hok p _ hk
          exact ⟨o, e, ex⟩
      obtain ⟨o, e, ex⟩ := z
      refine ⟨⟨o, e, ex.1⟩, fun a e2 => ?_⟩
      cases e2
      exact ⟨o, e, ex.2.1⟩
    · obtain ⟨o, _, _, _, e, ex, _⟩ := I.hok p _ hk
      refine ⟨⟨o, e, ex.1⟩, fun a e2 => ?_⟩
      cases e2
      exact ⟨o, e, ex.2.1⟩
  | _ => exact False.elim ty
def tBM0 (K : PySem.W.Frag) (T : String) (r : V → List V → Hp → VK → Prop) (to : TE) : TE := fun σ H Q => to σ H fun x H1 => tyV K T x H1 ∧ r x [] H1 Q
def tBM (K : PySem.W.Frag) (T : String) (r : V → List V → Hp → VK → Prop) (to : TE) (t : TA) : TE := fun σ H Q => to σ H fun x H1 => tyV K T x H1 ∧ t σ H1 fun xs H2 => r x xs H2 Q
variable {o e : Expr} {es : List Expr} {to : TE} {t : TA} {name : Str} {apos cpos : Pos} {T id : String} {r : V → List V → Hp → VK → Prop}
theorem pe_bm0 (pa : PlainAttrs T) (slot : Slot T name id) (hty : typeOf (.builtin id) = pure (.type "method_descriptor")) (hm : MtR X id r) (ho : PE X o to)
    (hbase : attributeBase o name X.env (eval o X.env) = eval o X.env := by rfl) (hline : (apos.endLine == cpos.line) = true := by rfl) : PE X (.Call (.Attribute o name apos) [] [] cpos) (tBM0 X.K T r to) := by
  intro pins s σ H Q I h
  refine wpAny_Call_method0_late hbase hline (thn (ho pins s σ H _ I h) fun v s1 ⟨x, H1, I1, r1, ty, q1⟩ => ?_)
  obtain ⟨h1, h2⟩ := tyV_is I1 r1 ty
  exact ⟨T, id, pa, slot, hty, h1, h2, Calls.callWith_builtin rfl (PySem.evalArgs_none (hm pins s1 σ H1 x [] v [] Q I1 r1 .nil q1))⟩
theorem pe_bm (pa : PlainAttrs T) (slot : Slot T name id) (hty : typeOf (.builtin id) = pure (.type "method_descriptor")) (hm : MtR X id r) (ho : PE X o to) (ha : PA X (e :: es) t)
    (hbase : attributeBase o name X.env (eval o X.env) = eval o X.env := by rfl)
    (hfew : ((backTo cpos (starEach (e :: es) X.env)).all (fun x => !x.1) && (backToKw cpos (keywordEach [] X.env)).all (fun x => x.1.isSome)
      && decide ((e :: es).length + ([] : List Keyword).length + (if ([] : List Keyword).isEmpty then 0 else 1) < 30)) = true := by rfl)
    (hline : (apos.endLine == cpos.line) = true := by rfl) (hs : starEach (e :: es) X.env = (false, eval e X.env) :: starEach es X.env := by rfl) (hplain : (backTo cpos (starEach es X.env)).any (·.1) = false := by rfl) :
    PE X (.Call (.Attribute o name apos) (e :: es) [] cpos) (tBM X.K T r to t) := by
  intro pins s σ H Q I h
  refine wpAny_Call_method_late hbase hfew hline rfl (thn (ho pins s σ H _ I h) fun v s1 ⟨x, H1, I1, r1, ty, q1⟩ => ?_)
  obtain ⟨h1, h2⟩ := tyV_is I1 r1 ty
  refine ⟨T, id, pa, slot, hty, h1, h2, ?_⟩
  have hA := ha cpos pins s1 σ H1 _ I1 q1
  rw [hs] at hA ⊢
  refine Calls.callWith_builtin (by show (false || (backTo cpos (starEach es X.env)).any (·.1)) = false; rw [hplain] <;> rfl) (Calls.evalArgs_plain ?_)
  exact thn hA fun us s2 ⟨vs, H2, I2, r2, q2⟩ => hm pins s2 σ H2 x vs v us Q I2 r1 r2 q2
/- xs.append(e), list.index on a module's tuple .. are MtR facts of 06m -/
end
end L2
namespace L2
open PySem PySem.Spec PyProof.Rows
def MtM (X : Cx) (id : String) (r : V → List V → Hp → VK → Prop) : Prop :=
  ∀ (pins : List (Addr × Obj)) (s : Shared) (σ : St) (H : Hp) (x : V) (xs : List V) (v : Value) (us : List Value) (Q : VK), Inv X pins σ H s → RelV x v → Vals xs us → r x xs H Q →
    wpAny (model X.prog X.w) X.A (call (.builtin id) (v :: us)) (EP X pins σ Q) X.xe s

/-! ### lists of values -/
theorem Vals.one : ∀ {x : V} {us : List Value}, Vals [x] us → ∃ u, us = [u] ∧ RelV x u
  | _, _, .cons r .nil => ⟨_, rfl, r⟩
theorem Vals.zero : ∀ {us : List Value}, Vals [] us → us = []
  | _, .nil => rfl
section
variable {X : Cx} {pins : List (Addr × Obj)} {σ : St} {H : Hp} {s : Shared} {l b : Addr} {xs ys zs : List V}
/-! ### the two steps: a tracked list is rewritten, a new list is laid -/
theorem Inv.lset {its its' : List Value} {n : Nat} {f : Array Value → Array Value} {t' : Nat} (I : Inv X pins σ H s) (hH : H l = some (.lst xs))
    (e : s.heap.get? l = some { cls := .type "list", data := .seq its.toArray n }) (hf : f its.toArray = its'.toArray) (hv : Vals ys its') (hz : ys.length ≤ sizeLine) :
    Inv X pins σ (upd H l (.lst ys)) { s with heap := s.heap.update l (Obj.mapSeq f), toks := t' } := by
  have q := PySem.IsL.update e f
  rw [hf] at q
  refine I.write (x := l) (e := l) (by rw [hH]; exact trivial) (.inl rfl) (fun b' u hb hu => (Heap.get?_update_other s.heap (Obj.mapSeq f) (Ne.symm hb)).trans hu) ⟨_, q⟩ ?_
  exact ⟨hz, its', _, hv, q⟩
theorem Inv.lnew {its : List Value} {t' : Nat} (I : Inv X pins σ H s) (hv : Vals ys its) (hz : ys.length ≤ sizeLine) :
    Inv X pins σ (upd H s.heap.objs.size (.lst ys)) { s with heap := s.heap.push { cls := .type "list", data := .seq its.toArray }, toks := t' } :=
  I.laid (fun _ _ q => Heap.get?_push_of_some _ q) (Nat.le_refl _) ⟨hz, its, 0, hv, Heap.get?_push_size _ rfl⟩
theorem Inv.fresh (I : Inv X pins σ H s) : H s.heap.objs.size = none := I.hok.fresh (Nat.le_refl _)
theorem Inv.lstM (I : Inv X pins σ H s) (hH : H l = some (.lst xs)) : xs.length ≤ sizeLine ∧ ∃ (its : List Value) (n : Nat), Vals xs its ∧ xs.length = its.length ∧ s.heap.get? l = some { cls := .type "list", data := .seq its.toArray n } := by
  obtain ⟨z, its, n, r, e⟩ := I.hok l _ hH
  exact ⟨z, its, n, r, r.length, e⟩

theorem notLongL {n : Nat} (h : n ≤ sizeLine) : Builtin.List.listTooLong n = false := by
  unfold Builtin.List.listTooLong
  exact decide_eq_false (by omega)
end
section
variable {X : Cx}
/-! ### methods -/
def rAppend : V → List V → Hp → VK → Prop := fun x vs H Q => ∃ l xs y, x = .ref l ∧ vs = [y] ∧ H l = some (.lst xs) ∧ xs.length < sizeLine ∧ Q .non (upd H l (.lst (xs ++ [y])))
theorem mt_append : MtM X "list.append" rAppend := by
  intro pins s σ H x vs v us Q I rx rv h
  obtain ⟨l, xs, y, rfl, rfl, hH, hz, q⟩ := h
  cases rx
  obtain ⟨u, rfl, ru⟩ := rv.one
  obtain ⟨z, its, n, r, hl, e⟩ := I.lstM hH
  refine call_meets F.slot_list_append ⟨_, e, rfl⟩ F.entry_list_append (F.args_list_append_2 _ _) (PySem.list_append l its.toArray n u (by rw [List.size_toArray]; omega)) ⟨e, ?_⟩
  refine ⟨.non, _, I.lset (its' := its ++ [u]) hH e (by simp) (r.append (.cons ru .nil)) ?_, rfl, q⟩
  rw [List.length_append, List.length_singleton]
  omega

def rExtend : V → List V → Hp → VK → Prop := fun x vs H Q => ∃ l b xs zs, x = .ref l ∧ vs = [.ref b] ∧ H l = some (.lst xs) ∧ H b = some (.lst zs) ∧ xs.length + zs.length ≤ sizeLine ∧ Q .non (upd H l (.lst (xs ++ zs)))
theorem mt_extend : MtM X "list.extend" rExtend := by
  intro pins s σ H x vs v us Q I rx rv h
  obtain ⟨l, b, xs, zs, rfl, rfl, hH, hB, hz, q⟩ := h
  cases rx
  obtain ⟨u, rfl, ru⟩ := rv.one
  cases ru
  obtain ⟨z, its, n, r, hl, e⟩ := I.lstM hH
  obtain ⟨z2, its2, n2, r2, hl2, e2⟩ := I.lstM hB
  have hsz : its.toArray.size + its2.toArray.size ≤ sizeLine := by rw [List.size_toArray, List.size_toArray]; omega
  have hlong : ¬ (!its.toArray.isEmpty && Builtin.List.listTooLong (its.toArray.size + its2.toArray.size)) = true := by
    rw [notLongL hsz, Bool.and_false]
    exact Bool.false_ne_true
  refine call_meets F.slot_list_extend ⟨_, e, rfl⟩ F.entry_list_extend (F.args_list_extend_2 _ _)
    (AutoSeq1.list_extend_list_list_0 l its.toArray n b its2.toArray n2 hlong (by rw [List.size_toArray]; omega) (by omega)) ⟨e, e2, ?_⟩
  refine ⟨.non, _, I.lset (its' := its ++ its2) hH e (by simp) (r.append r2) ?_, rfl, q⟩
  rw [List.length_append]
  omega

def rClear : V → List V → Hp → VK → Prop := fun x vs H Q => ∃ l xs, x = .ref l ∧ vs = [] ∧ H l = some (.lst xs) ∧ Q .non (upd H l (.lst []))
theorem mt_clear : MtM X "list.clear" rClear := by
  intro pins s σ H x vs v us Q I rx rv h
  obtain ⟨l, xs, rfl, rfl, hH, q⟩ := h
  cases rx
  have hus := rv.zero
  subst hus
  obtain ⟨z, its, n, r, hl, e⟩ := I.lstM hH
  refine call_meets F.slot_list_clear ⟨_, e, rfl⟩ F.entry_list_clear (F.args_list_clear_1 _) (AutoSeq1.list_clear_list_0 l its.toArray n (by rw [List.size_toArray]; omega)) ⟨e, ?_⟩
  exact ⟨.non, _, I.lset (its' := []) (ys := []) hH e rfl .nil (Nat.zero_le _), rfl, q⟩

/-! ### list + list, list += list, list * int -/
def rCat : R2 := fun x y H Q => ∃ l b xs zs, x = .ref l ∧ y = .ref b ∧ H l = some (.lst xs) ∧ H b = some (.lst zs) ∧ xs.length + zs.length ≤ sizeLine ∧ ∀ p, H p = none → Q (.ref p) (upd H p (.lst (xs ++ zs)))
theorem op_cat : OpR X (binaryOp .Add) rCat := by
  intro pins s σ H x y v u Q I rx ry h
  obtain ⟨l, b, xs, zs, rfl, rfl, hH, hB, hz, q⟩ := h
  cases rx
  cases ry
  obtain ⟨z, its, n, r, hl, e⟩ := I.lstM hH
  obtain ⟨z2, its2, n2, r2, hl2, e2⟩ := I.lstM hB
  refine PySem.P.add_list e e2 ?_ (by rw [List.size_toArray, List.size_toArray]; omega)
  have ea : its.toArray ++ its2.toArray = (its ++ its2).toArray := by simp
  rw [ea]
  exact ⟨.ref _, _, I.lnew (t' := s.toks) (r.append r2) (by rw [List.length_append]; omega), rfl, q _ I.fresh⟩
/-! ### del xs[i] -/
end
/-! ### xs[a:b] = ys -/
section
variable {prog : Program} {w : World} {A : Around} {E : Value → Shared → Prop} {s : Shared}
end
section
variable {X : Cx}
end
end L2
namespace L2
open PySem PySem.Spec PyProof.Rows
theorem Vals.ints : ∀ {ns : List Int} {us : List Value}, Vals (ns.map V.int) us → IntsAre us ns
  | [], us, h => by
    rw [List.map_nil] at h
    cases h
    exact IntsAre.nil
  | n :: ns, us, h => by
    rw [List.map_cons] at h
    cases h with
    | cons r t =>
      obtain ⟨k, rfl⟩ := r
      exact IntsAre.cons n k (Vals.ints t)
theorem Vals.bls : ∀ {bs : List Bool} {us : List Value}, Vals (bs.map V.bl) us → us = bs.map Value.bool
  | [], us, h => by
    rw [List.map_nil] at h
    cases h
    rfl
  | b :: bs, us, h => by
    rw [List.map_cons] at h
    cases h with
    | cons r t =>
      cases r
      rw [Vals.bls t, List.map_cons]
theorem Vals.ref1 {a : Addr} {us : List Value} (r : Vals [V.ref a] us) : us = [Value.ref a] := by
  cases r with
  | cons r t =>
    cases t
    cases r
    rfl
/-! ### the library's walks over a list of ints, kept objects alone -/
section
variable {prog : Program} {w : World} {A : Around} {E : Value → Shared → Prop} {s : Shared} {l : Addr} {its : List Value} {ns : List Int} {Q : Value → Shared → Prop}
theorem max_raw (hh : A.handled = none) (hl : s.heap.IsList l its.toArray) (hi : IntsAre its ns) (hne : 0 < ns.length)
    (h : ∀ h' tk M t', (∀ b o, s.heap.get? b = some o → h'.get? b = some o) → M ∈ ns → (∀ a, a ∈ ns → a ≤ M) → Q (.int M t') { s with heap := h', toks := tk }) : wpAny (model prog w) A (call (.builtin "max") [.ref l]) Q E s := by
  obtain ⟨xs, e⟩ := hi.allInts.items
  have hn : numsOf (intItems xs).toList = ns := by rw [← e]; exact hi.numsOf
  rw [nums_intItems] at hn
  subst hn
  rw [e] at hl
  have hsz : 0 < xs.size := by simpa using hne
  refine PySem.max_intList hh hl hsz fun v h' tk hv hk => ?_
  obtain ⟨t, rfl⟩ := intItems_at hv
  obtain ⟨h1, h2⟩ := argBest_gt (numAt xs) (xs.size - 1)
  refine h h' tk _ t hk ?_ fun a ha => ?_
  · rw [numAt_eq]; exact PySem.getD_mem (by rw [List.length_map, Array.length_toList]; omega)
  · obtain ⟨j, hj, rfl⟩ := mem_getD ha
    rw [List.length_map, Array.length_toList] at hj
    rw [← numAt_eq]; exact h2 j (by omega)
end
/-! ### the calls, by values (CallR of 03t; MtR of 06l) -/
section
variable {X : Cx}
/-- max(xs), min(xs) of a list of ints -/
def rMax (K : PySem.W.Frag) : List V → Hp → VK → Prop := fun vs H Q => ∃ (a : Addr) (ns : List Int), vs = [V.ref a] ∧ SqL K H a (ns.map V.int) ∧ 0 < ns.length ∧ ∀ m, m ∈ ns → (∀ y, y ∈ ns → y ≤ m) → Q (.int m) H
theorem cr_max (hc : X.calm = true) : CallR X (.builtin "max") (rMax X.K) := by
  intro pins s σ H vs us Q I r h
  obtain ⟨a, ns, rfl, hs, hne, q⟩ := h
  obtain ⟨its, rv, hl, _⟩ := I.list hs
  rw [Vals.ref1 r]
  exact max_raw (I.ok.hd hc) hl.isList rv.ints hne fun h' tk m t' hk h1 h2 => ⟨.int _, H, I.kept hk, ⟨_, rfl⟩, q m h1 h2⟩
/-! sorted, sort (fewer than 64 items: the library's own bound) -/
end
/-! ### list.index, flat items -/
section
variable {X : Cx}
def rIndex (K : PySem.W.Frag) : V → List V → Hp → VK → Prop := fun x xs H Q => ∃ (a : Addr) (ys : List V) (y : V) (j : Nat) (z : V), x = V.ref a ∧ xs = [y] ∧ SqL K H a ys ∧ flatV y = true ∧ ys.all flatV = true ∧ ys[j]? = some z ∧ eqV z y = true ∧
  (∀ (m : Nat) (z' : V), m < j → ys[m]? = some z' → eqV z' y = false) ∧ Q (.int (j : Nat)) H
theorem flat_at {ys : List V} (f : ys.all flatV = true) {j : Nat} {z : V} (h : ys[j]? = some z) : flatV z = true := List.all_eq_true.mp f z (List.mem_of_getElem? h)
theorem mt_index : MtR X "list.index" (rIndex X.K) := by
  intro pins s σ H x xs v us Q I rx rxs h
  obtain ⟨a, ys, y, j, z, rfl, rfl, hs, fy, fys, hz, hzj, hno, q⟩ := h
  cases rx
  cases rxs with
  | cons ry rt =>
    rename_i uy ut
    cases rt
    obtain ⟨its, rv, ⟨⟨cls, dd, data, sl⟩, n, ho, hc, hdn, hd⟩, hlen⟩ := I.list hs
    simp only at hc hd
    subst hc hd
    obtain ⟨u, hu, ru⟩ := rv.get hz
    obtain ⟨hjl, hje⟩ := List.getElem?_eq_some_iff.mp hu
    have hvl := rv.length
    have hj : j < its.toArray.size := by simpa using hjl
    have hsl := sizeLine_eq
    refine call_meets PySem.F.slot_list_index ⟨_, ho, rfl⟩ PySem.F.entry_list_index (PySem.F.args_list_index_2 _ _)
      (SeqAt.list_indexAt a its.toArray n dd sl uy (eqU y) j hj (by omega) ?_ ?_) ⟨ho, fun u' hu' => mem_eqAt ry fy rv fys u' (by simpa using hu'), ?_⟩
    · have e1 : its.toArray[j] = u := by simpa using hje
      rw [e1, eqU_of ru (flat_at fys hz)]
      exact hzj
    · intro m hm hmj
      have hml : m < its.length := by simpa using hm
      have hmy : m < ys.length := by omega
      have hy' : ys[m]? = some ys[m] := List.getElem?_eq_getElem hmy
      obtain ⟨u2, hu2, ru2⟩ := rv.get hy'
      obtain ⟨_, hme⟩ := List.getElem?_eq_some_iff.mp hu2
      have e1 : its.toArray[m] = u2 := by simpa using hme
      rw [e1, eqU_of ru2 (flat_at fys hy')]
      exact hno m _ hmj hy'
    · exact ⟨.int (j : Nat), H, I.tok _, ⟨_, rfl⟩, q⟩
end
/-! ### type(x) of an own instance; is, is not of a module's class -/
section
variable {X : Cx}
end
/-! ### any(xs), all(xs) of a list of bools -/
theorem iter_any {prog : Program} {w : World} {A : Around} {E : Value → Shared → Prop} {s : Shared} {l : Addr} {items : Array Value} {Q : Value → Shared → Prop} (hl : s.heap.IsList l items)
    (h : ∀ s₂ : Shared, s₂ = { s with heap := s.heap.push { cls := .type "list_iterator", data := .fields #[.ref l, .int 0 0] } } →
      (s₂.heap.IsListIter s.heap.objs.size l 0 ∧ s₂.heap.IsList l items) → l ≠ s.heap.objs.size → Q (.ref s.heap.objs.size) s₂) : wpAny (model prog w) A (pyIter (.ref l)) Q E s := by
  have hlt : l < s.heap.objs.size := by obtain ⟨_, e, _⟩ := hl; exact Heap.lt_size e
  exact wpAny_pyIter_list hl (h _ rfl ⟨⟨_, Heap.get?_push_size _ rfl, rfl, rfl⟩, hl.push _⟩ (Nat.ne_of_lt hlt))
theorem truth_bools {prog : Program} {w : World} {A : Around} {bs : List Bool} {its : List Value} (e : its = bs.map Value.bool) :
    TruthOf prog w A (fun i v => its.toArray[i]? = some v) (fun i => bs.getD i false) := fun i v s Q E hv hq => by
  have hv' : its[i]? = some v := by simpa using hv
  rw [e, List.getElem?_map] at hv'
  obtain ⟨b, hb, rfl⟩ := Option.map_eq_some_iff.mp hv'
  have hg : bs.getD i false = b := by rw [List.getD_eq_getElem?_getD, hb] <;> rfl
  have hq' : Q (bs.getD i false) s := hq
  rw [hg] at hq'
  exact wpAny_truthy_bool hq'
theorem all_range : ∀ bs : List Bool, (List.range bs.length).all (fun i => bs.getD i false) = bs.all id
  | [] => rfl
  | b :: bs => by
    rw [List.length_cons, List.range_succ_eq_map, List.all_cons, List.all_map, List.all_cons, ← all_range bs]
    all_goals rfl
section
variable {X : Cx}
def rAll (K : PySem.W.Frag) : List V → Hp → VK → Prop := fun vs H Q => ∃ (a : Addr) (bs : List Bool), vs = [V.ref a] ∧ SqL K H a (bs.map V.bl) ∧ Q (.bl (bs.all id)) H
theorem cr_all (hc : X.calm = true) : CallR X (.builtin "all") (rAll X.K) := by
  intro pins s σ H vs us Q I r h
  obtain ⟨a, bs, rfl, hs, q⟩ := h
  obtain ⟨its, rv, hl, _⟩ := I.list hs
  rw [Vals.ref1 r]
  have hb := rv.bls
  refine call_all_walk (iter_any hl.isList fun s₂ e2 st hne => ?_)
  subst e2
  refine ⟨_, _, _, _, _, _, _, rfl, Walks.list (A := X.A.in1) (I.ok.hd hc) _ a hne its.toArray, st, truth_bools hb, fun h' tk hk => ?_⟩
  refine ⟨.bl _, H, I.kept fun b o eo => hk b o (fun hmem => ?_) (Heap.get?_push_of_some _ eo), ?_, q⟩
  · rcases List.mem_cons.mp hmem with e1 | hmem
    · exact absurd (e1 ▸ Heap.lt_size eo) (Nat.lt_irrefl _)
    · cases hmem
  · show Value.bool _ = Value.bool _
    rw [← all_range, hb, List.size_toArray, List.length_map]
end
/-! ### == and != of data at any depth: none, bools, ints, texts, lists, tuples -/
section
variable {X : Cx} {pins : List (Addr × Obj)} {σ : St} {H : Hp} {s : Shared}
end
section
variable {X : Cx}
end
end L2
namespace L2
open PySem PySem.Spec PyProof.Rows
abbrev CellAt (h : Heap) (c : Addr) (v : Option Value) : Prop := h.IsCell c v
def relS (scope sc : Scope) : Scope :=
  { scope with names := scope.names.map fun (n, k) => if (k == .free && sc.kind == .function && sc.names.lookup n == some .cell) then (n, .cell) else (n, k) }

def cloFrom (cells : List (Str × Addr)) : List (Str × NameKind) → List (Str × Addr) → List (Str × Addr)
  | [], acc => acc
  | (n, k) :: r, acc => if k == .free then cloFrom cells r ((n, (cells.lookup n).getD 0) :: acc) else cloFrom cells r acc

theorem closure_loop (env : Env) (f : Str × NameKind → List (Str × Addr) → Sem (ForInStep (List (Str × Addr))))
    (hf : ∀ n k c, f (n, k) c = if k == .free then (do let a ← cellOf env n; pure (.yield ((n, a) :: c))) else pure (.yield c)) :
    ∀ (names : List (Str × NameKind)) (acc : List (Str × Addr)), (∀ y ∈ names, y.2 = .free → ∃ c, env.cells.lookup y.1 = some c) → forIn names acc f = pure (cloFrom env.cells names acc)
  | [], acc, _ => by rw [List.forIn_nil]; rfl
  | (n, k) :: r, acc, h => by
    rw [List.forIn_cons, hf]
    have ih := fun acc => closure_loop env f hf r acc fun y hy => h y (List.mem_cons_of_mem _ hy)
    unfold cloFrom
    by_cases hk : (k == NameKind.free) = true
    · rw [if_pos hk, if_pos hk]
      obtain ⟨c, hc⟩ := h (n, k) List.mem_cons_self (by simpa using hk)
      have e : cellOf env n = pure c := by unfold cellOf; rw [hc]
      rw [e]
      have e2 : (env.cells.lookup n).getD 0 = c := by rw [hc]; rfl
      rw [e2]
      exact ih _
    · rw [if_neg hk, if_neg hk]
      exact ih _
theorem closure_ok {scope : Scope} {env : Env} (h : ∀ y ∈ scope.names, y.2 = .free → ∃ c, env.cells.lookup y.1 = some c) : closureFor scope env = pure (cloFrom env.cells scope.names []) := by
  simp only [closureFor]
  rw [closure_loop env _ (fun n k c => rfl) scope.names [] h]
  rfl

theorem mem_lookup {α : Type} : ∀ {l : List (Str × α)} {n : Str} {c : α}, (n, c) ∈ l → ∃ c', l.lookup n = some c'
  | (k, v) :: r, n, c, h => by
    rw [List.lookup_cons]
    cases hb : n == k with
    | true => exact ⟨_, rfl⟩
    | false =>
      rcases List.mem_cons.mp h with e | h
      · cases e; simp at hb
      · exact mem_lookup h

theorem cloFrom_mem {cells : List (Str × Addr)} : ∀ {names : List (Str × NameKind)} {acc : List (Str × Addr)} {n : Str} {c : Addr}, (n, c) ∈ cloFrom cells names acc → (n, c) ∈ acc ∨ ((n, .free) ∈ names ∧ c = (cells.lookup n).getD 0)
  | [], _, _, _, h => .inl h
  | (m, k) :: r, acc, n, c, h => by
    unfold cloFrom at h
    split at h
    · rename_i hk
      have hk : k = .free := by simpa using hk
      rcases cloFrom_mem h with h | ⟨h1, h2⟩
      · rcases List.mem_cons.mp h with e | h
        · cases e; exact .inr ⟨hk ▸ List.mem_cons_self, rfl⟩
        · exact .inl h
      · exact .inr ⟨List.mem_cons_of_mem _ h1, h2⟩
    · rcases cloFrom_mem h with h | ⟨h1, h2⟩
      · exact .inl h
      · exact .inr ⟨List.mem_cons_of_mem _ h1, h2⟩
theorem cloFrom_acc {cells : List (Str × Addr)} : ∀ {names : List (Str × NameKind)} {acc : List (Str × Addr)} {p : Str × Addr}, p ∈ acc → p ∈ cloFrom cells names acc
  | [], _, _, h => h
  | (m, k) :: r, acc, p, h => by
    unfold cloFrom
    split
    · exact cloFrom_acc (List.mem_cons_of_mem _ h)
    · exact cloFrom_acc h
theorem cloFrom_has {cells : List (Str × Addr)} : ∀ {names : List (Str × NameKind)} {acc : List (Str × Addr)} {n : Str}, (n, .free) ∈ names → (n, (cells.lookup n).getD 0) ∈ cloFrom cells names acc
  | (m, k) :: r, acc, n, h => by
    unfold cloFrom
    rcases List.mem_cons.mp h with e | h
    · cases e
      exact cloFrom_acc List.mem_cons_self
    · split
      · exact cloFrom_has h
      · exact cloFrom_has h

theorem cells_mem : ∀ {names : List (Str × NameKind)} {h : Heap} {acc : List (Str × Addr)} {x : Str} {c : Addr}, (x, c) ∈ cellsFrom h.objs.size names acc →
    (x, c) ∈ acc ∨ ((x, .cell) ∈ names ∧ h.objs.size ≤ c ∧ CellAt (pushCells h names) c none)
  | [], _, _, _, _, h => .inl h
  | (n, k) :: r, h, acc, x, c, hm => by
    unfold cellsFrom at hm
    unfold pushCells
    split at hm
    · rename_i hk
      rw [if_pos hk]
      have hk : k = .cell := by simpa using hk
      rw [← Heap.size_push h { cls := .type "cell", data := .cell none }] at hm
      rcases cells_mem hm with hm | ⟨h1, h2, h3⟩
      · rcases List.mem_cons.mp hm with e | hm
        · cases e
          exact .inr ⟨hk ▸ List.mem_cons_self, Nat.le_refl _, _, pushCells_keeps r _ _ _ (Heap.get?_push_size _ rfl), rfl⟩
        · exact .inl hm
      · rw [Heap.size_push] at h2
        exact .inr ⟨List.mem_cons_of_mem _ h1, Nat.le_of_succ_le h2, h3⟩
    · rename_i hk
      rw [if_neg hk]
      rcases cells_mem hm with hm | ⟨h1, h2, h3⟩
      · exact .inl hm
      · exact .inr ⟨List.mem_cons_of_mem _ h1, h2, h3⟩
theorem cells_acc : ∀ {names : List (Str × NameKind)} {n : Nat} {acc : List (Str × Addr)} {p : Str × Addr}, p ∈ acc → p ∈ cellsFrom n names acc
  | [], _, _, _, h => h
  | (m, k) :: r, n, acc, p, h => by
    unfold cellsFrom
    split
    · exact cells_acc (List.mem_cons_of_mem _ h)
    · exact cells_acc h
theorem cells_has : ∀ {names : List (Str × NameKind)} {n : Nat} {acc : List (Str × Addr)} {x : Str}, (x, .cell) ∈ names → ∃ c, (x, c) ∈ cellsFrom n names acc
  | (m, k) :: r, n, acc, x, h => by
    unfold cellsFrom
    rcases List.mem_cons.mp h with e | h
    · cases e
      exact ⟨n, cells_acc List.mem_cons_self⟩
    · split
      · exact cells_has h
      · exact cells_has h
theorem cells_inj : ∀ {names : List (Str × NameKind)} {h : Heap} {acc : List (Str × Addr)} {x y : Str} {c : Addr}, (∀ p ∈ acc, p.2 < h.objs.size) → (∀ x y c, (x, c) ∈ acc → (y, c) ∈ acc → x = y) →
    (x, c) ∈ cellsFrom h.objs.size names acc → (y, c) ∈ cellsFrom h.objs.size names acc → x = y
  | [], _, _, _, _, _, _, hi, h1, h2 => hi _ _ _ h1 h2
  | (n, k) :: r, h, acc, x, y, c, hl, hi, h1, h2 => by
    unfold cellsFrom at h1 h2
    split at h1
    · rename_i hk
      rw [if_pos hk] at h2
      rw [← Heap.size_push h { cls := .type "cell", data := .cell none }] at h1 h2
      refine cells_inj (h := h.push _) (fun p hp => ?_) (fun x y c a b => ?_) h1 h2
      · rw [Heap.size_push]
        rcases List.mem_cons.mp hp with rfl | hp
        · exact Nat.lt_succ_self _
        · exact Nat.lt_succ_of_lt (hl p hp)
      · rcases List.mem_cons.mp a with e | a <;> rcases List.mem_cons.mp b with e' | b
        · cases e; cases e'; rfl
        · cases e; exact absurd (hl _ b) (Nat.lt_irrefl _)
        · cases e'; exact absurd (hl _ a) (Nat.lt_irrefl _)
        · exact hi _ _ _ a b
    · rename_i hk
      rw [if_neg hk] at h2
      exact cells_inj hl hi h1 h2

theorem newEnv_comp {M : Model} {A : Around} {E : Value → Shared → Prop} {s : Shared} {scope : Scope} {globals : Addr} {closure : List (Str × Addr)} {qual : Str} {func : Option Addr} {code : Value} {around : Env} {builtins : Addr} {Q : Env → Shared → Prop}
    (h : Q (newEnv scope s.heap.objs.size globals (cellsFrom (s.heap.objs.size + 1) scope.names closure) qual func code (some around) builtins)
      { s with heap := pushCells (s.heap.push { cls := .type "dict", data := .dict #[] }) scope.names }) :
    wpAny M A (newFunctionEnv scope globals closure [] qual func code (some around) builtins) Q E s := by
  simp only [newFunctionEnv, Option.isSome_some, if_true]
  refine wpAny_bind (wpAny_alloc ?_)
  refine wpAny_bind (wpAny_layCells _ (fun n k c => rfl) scope.names closure _ _ ?_)
  rw [show ({ s with heap := s.heap.push { cls := .type "dict", data := .dict #[] } } : Shared).heap.objs.size = s.heap.objs.size + 1 from Heap.size_push ..]
  rw [List.forIn_nil]
  exact wpAny_bind (wpAny_pure (wpAny_pure h))

/-- every name of the written scope, in the scope that runs -/
theorem lookup_relS {sc : Scope} : ∀ {names : List (Str × NameKind)} {x : Str} {k : NameKind},
    (names.map fun (n, k) => if (k == NameKind.free && sc.kind == .function && sc.names.lookup n == some .cell) then (n, NameKind.cell) else (n, k)).lookup x = some k →
    ∃ k', names.lookup x = some k' ∧ (k = k' ∨ (k' = .free ∧ k = .cell))
  | [], _, _, h => by simp at h
  | (n, k₀) :: r, x, k, h => by
    have ih := @lookup_relS sc r x k
    have h' : List.lookup x ((if (k₀ == NameKind.free && sc.kind == .function && sc.names.lookup n == some .cell) = true then (n, NameKind.cell) else (n, k₀)) :: (r.map _)) = some k := h
    cases hx : x == n with
    | true =>
      simp only [List.lookup_cons, hx]
      by_cases hc : (k₀ == NameKind.free && sc.kind == .function && sc.names.lookup n == some .cell) = true
      · rw [if_pos hc] at h'
        simp only [List.lookup_cons, hx] at h'
        cases h'
        simp only [Bool.and_eq_true, beq_iff_eq] at hc
        exact ⟨k₀, rfl, .inr ⟨hc.1.1, rfl⟩⟩
      · rw [if_neg hc] at h'
        simp only [List.lookup_cons, hx] at h'
        cases h'
        exact ⟨_, rfl, .inl rfl⟩
    | false =>
      simp only [List.lookup_cons, hx]
      by_cases hc : (k₀ == NameKind.free && sc.kind == .function && sc.names.lookup n == some .cell) = true
      · rw [if_pos hc] at h'
        simp only [List.lookup_cons, hx] at h'
        exact ih h'
      · rw [if_neg hc] at h'
        simp only [List.lookup_cons, hx] at h'
        exact ih h'
/-- the names of a comprehension's block: its own (with their places in N), or captured -/
structure BlkOk (N : List Str) (sc scope : Scope) (own : List (Str × Nat)) : Prop where
  kind : scope.kind = .function
  uniq : ∀ y ∈ scope.names, scope.names.lookup y.1 = some y.2
  ix : ∀ p ∈ own, N[p.2]? = some p.1
  free : ∀ y ∈ scope.names, y.2 = .free → sc.names.lookup y.1 = some .cell ∨ sc.names.lookup y.1 = some .free
  own : ∀ y ∈ scope.names, y.2 = .local ∨ y.2 = .cell → y.1 ∈ own.map (·.1) ∨ y.1 ∉ N
/-- the slots of the block's own names forgotten -/
def wipe (σ : St) : List Nat → St
  | [] => σ
  | v :: vs => (wipe σ vs).set v none
theorem wipe_length (σ : St) : ∀ vs : List Nat, (wipe σ vs).length = σ.length
  | [] => rfl
  | v :: vs => by unfold wipe; rw [List.length_set, wipe_length σ vs]
theorem wipe_some {σ : St} {i : Nat} {x : V} : ∀ {vs : List Nat}, (wipe σ vs)[i]? = some (some x) → σ[i]? = some (some x) ∧ i ∉ vs
  | [], h => ⟨h, by simp⟩
  | v :: vs, h => by
    unfold wipe at h
    by_cases hi : v = i
    · subst hi
      by_cases hv : v < (wipe σ vs).length
      · rw [List.getElem?_set_self hv] at h; cases h
      · rw [List.getElem?_eq_none (by simpa using hv)] at h; cases h
    · rw [List.getElem?_set_ne hi] at h
      obtain ⟨h1, h2⟩ := wipe_some h
      exact ⟨h1, by simp only [List.mem_cons, not_or]; exact ⟨fun e => hi e.symm, h2⟩⟩

/-- the context of a block that starts at s, its iterator's objects at fp -/
abbrev Cx.blk (X : Cx) (s : Shared) (H : Hp) (scope : Scope) (cenv : Env) (fp : List Addr) : Cx := { X with s_0 := s, H_0 := H, env := cenv, outer := X.stack, ex := fp, fn := fun x => scope.names.lookup x == some .cell, pn := [], xe := fun _ _ => False }
section
variable {X : Cx} {pins : List (Addr × Obj)} {σ : St} {H : Hp} {s : Shared}
theorem block_start {scope : Scope} {own : List (Str × Nat)} {fp : List Addr} (I : Inv X pins σ H s) (ok : BlkOk X.N X.env.scope scope own) (hN : X.N.Nodup) (hfp : ∀ b ∈ fp, FpOk X pins H b ∧ b < s.heap.objs.size) :
    Inv (X.blk s H scope (compEnvC scope (cellsFrom (s.heap.objs.size + 1) scope.names (cloFrom X.env.cells scope.names [])) s.heap.objs.size X.env) fp) [] (wipe σ (own.map (·.2))) H { s with heap := pushCells (s.heap.push { cls := .type "dict", data := .dict #[] }) scope.names } := by
  have hfree : ∀ y ∈ scope.names, y.2 = .free → ∃ c, X.env.cells.lookup y.1 = some c := fun y hy e => by
    rcases ok.free y hy e with k | k
    · exact I.ok.has _ (.inl k)
    · exact I.ok.has _ (.inr k)
  generalize hcenv : compEnvC scope (cellsFrom (s.heap.objs.size + 1) scope.names (cloFrom X.env.cells scope.names [])) s.heap.objs.size X.env = cenv
  have kp : ∀ b o, s.heap.get? b = some o → (pushCells (s.heap.push { cls := .type "dict", data := .dict #[] }) scope.names).get? b = some o := fun b o e => pushCells_keeps _ _ _ _ (Heap.get?_push_of_some _ e)
  have hL : cenv.locals = s.heap.objs.size := by rw [← hcenv]; rfl
  have hcl : cenv.cells = cellsFrom (s.heap.objs.size + 1) scope.names (cloFrom X.env.cells scope.names []) := by rw [← hcenv]; rfl
  have hsc : cenv.scope = relS scope X.env.scope := by rw [← hcenv]; rfl
  rw [← Heap.size_push s.heap { cls := .type "dict", data := .dict #[] }] at hcl
  have cm : ∀ {y c}, (y, c) ∈ cloFrom X.env.cells scope.names [] → X.env.cells.lookup y = some c ∧ c < s.heap.objs.size := fun {y c} hm => by
    rcases cloFrom_mem hm with hm | ⟨h1, rfl⟩
    · cases hm
    · obtain ⟨c, hc⟩ := hfree _ h1 rfl
      rw [hc]
      obtain ⟨w, z⟩ := I.cell _ _ hc
      exact ⟨rfl, z.lt⟩
  have mem : ∀ {y c}, cenv.cells.lookup y = some c → (X.env.cells.lookup y = some c ∧ c < s.heap.objs.size) ∨ (s.heap.objs.size + 1 ≤ c ∧ CellAt (pushCells (s.heap.push { cls := .type "dict", data := .dict #[] }) scope.names) c none) := fun {y c} e => by
    rw [hcl] at e
    rcases cells_mem (PySem.mem_of_lookup e) with hm | ⟨_, h2, h3⟩
    · exact .inl (cm hm)
    · rw [Heap.size_push] at h2; exact .inr ⟨h2, h3⟩
  have look : ∀ {y}, scope.names.lookup y = some .free → ∃ c, cenv.cells.lookup y = some c ∧ X.env.cells.lookup y = some c := fun {y} hl => by
    have hy : (y, NameKind.free) ∈ scope.names := PySem.mem_of_lookup hl
    obtain ⟨c', e'⟩ := mem_lookup (cells_acc (names := scope.names) (n := (s.heap.push { cls := .type "dict", data := .dict #[] }).objs.size) (cloFrom_has (cells := X.env.cells) (acc := []) hy))
    rw [← hcl] at e'
    refine ⟨c', e', ?_⟩
    rw [hcl] at e'
    rcases cells_mem (PySem.mem_of_lookup e') with hm | ⟨h1, _, _⟩
    · exact (cm hm).1
    · have := ok.uniq _ h1
      rw [hl] at this; cases this
  have okB : (X.blk s H scope cenv fp).Ok := by
    refine ⟨I.ok.mod, by show cenv.scope.kind = _; rw [hsc]; exact ok.kind, by show cenv.globals = _; rw [← hcenv]; exact I.ok.glob, by show cenv.builtins = _; rw [← hcenv]; exact I.ok.blt, by show s.heap.objs.size ≤ cenv.locals; rw [hL]; exact Nat.le_refl _,
      fun y z c e1 e2 => ?_, fun y hy => ?_, fun y c z e => ?_, I.ok.hd, I.ok.frames, .inl rfl, fun b hb => ⟨?_, fun y c e z => ?_⟩, I.bs, Nat.le_trans I.ok.bsz I.sz, fun b o e hb => ?_, fun b hb z => ?_, I.stack, I.stkFree⟩
    · have e1 : cenv.cells.lookup y = some c := e1
      have e2 : cenv.cells.lookup z = some c := e2
      rw [hcl] at e1 e2
      refine cells_inj (fun p hp => ?_) (fun y z c a b => I.ok.inj y z c (cm a).1 (cm b).1) (PySem.mem_of_lookup e1) (PySem.mem_of_lookup e2)
      rw [Heap.size_push]
      exact Nat.lt_succ_of_lt (cm (y := p.1) (c := p.2) hp).2
    · show ∃ c, cenv.cells.lookup y = some c
      have key : ∀ k, cenv.kindOf y = some k → (k = .cell ∨ k = .free) → ∃ c, cenv.cells.lookup y = some c := fun k hk hk' => by
        unfold Env.kindOf at hk
        rw [hsc] at hk
        obtain ⟨k', e, r⟩ := lookup_relS hk
        have : k' = .cell ∨ k' = .free := by
          rcases r with rfl | ⟨rfl, _⟩
          · exact hk'
          · exact .inr rfl
        rcases this with rfl | rfl
        · obtain ⟨c, hm⟩ := cells_has (n := (s.heap.push { cls := .type "dict", data := .dict #[] }).objs.size) (acc := cloFrom X.env.cells scope.names []) (PySem.mem_of_lookup e)
          obtain ⟨c', e'⟩ := mem_lookup hm
          exact ⟨c', by rw [hcl]; exact e'⟩
        · obtain ⟨c, h1, _⟩ := look e
          exact ⟨c, h1⟩
      rcases hy with hy | hy
      · exact key _ hy (.inl rfl)
      · exact key _ hy (.inr rfl)
    · have z : (scope.names.lookup y == some NameKind.cell) = true := z
      have z : scope.names.lookup y = some .cell := by simpa using z
      have e : cenv.cells.lookup y = some c := e
      rw [hcl] at e
      rcases cells_mem (PySem.mem_of_lookup e) with hm | ⟨_, h2, _⟩
      · rcases cloFrom_mem hm with hm | ⟨h1, _⟩
        · cases hm
        · have q := ok.uniq _ h1
          rw [z] at q; cases q
      · rw [Heap.size_push] at h2
        exact Nat.le_of_succ_le h2
    · show b ≠ cenv.locals
      rw [hL]; exact Nat.ne_of_lt (hfp b hb).2
    · have e : cenv.cells.lookup y = some c := e
      rcases mem e with ⟨h1, _⟩ | ⟨h1, _⟩
      · exact (hfp b hb).1.2.2.2.2.1 y c h1 z
      · have h2 : s.heap.objs.size + 1 ≤ b := by rw [← z]; exact h1
        exact absurd (Nat.lt_of_lt_of_le (hfp b hb).2 (Nat.le_of_succ_le h2)) (Nat.lt_irrefl _)
    · rcases (hfp b hb).1.2.2.2.1 with z | z
      · exact I.ok.noex b o e z
      · exact absurd (Nat.lt_of_lt_of_le (Heap.lt_size e) (Nat.le_trans I.ok.bsz z)) (Nat.lt_irrefl _)
    · rcases List.mem_cons.mp (I.stkSub b z) with z | z
      · exact (hfp b hb).1.2.1 z
      · exact (hfp b hb).1.2.2.1 z
  refine ⟨okB, rfl, I.bare, Un.kept kp, ⟨fun _ => none, ?_, fun i y av e1 e2 e3 => ?_⟩, fun y c e => ?_, ?_, fun y c e => ?_, fun p hp => ?_, I.hok.kept kp, by rw [wipe_length]; exact I.len⟩
  · show Heap.Ns _ cenv.locals _
    rw [hL]
    exact Heap.Ns.keeps (Heap.Ns.new ..) fun b o e => pushCells_keeps _ _ _ _ e
  · obtain ⟨e2, hne⟩ := wipe_some e2
    have hfr : scope.names.lookup y = some .free ∧ (cenv.kindOf y = some .cell ∨ cenv.kindOf y = some .free) := by
      have key : ∀ k, cenv.scope.names.lookup y = some k → k = .local ∨ k = .cell ∨ k = .free → scope.names.lookup y = some .free ∧ (cenv.kindOf y = some .cell ∨ cenv.kindOf y = some .free) := fun k hk hk' => by
        have hk0 := hk
        rw [hsc] at hk
        obtain ⟨k', e, r⟩ := lookup_relS hk
        have no : ¬ (k' = .local ∨ k' = .cell) := fun hh => by
          rcases ok.own _ (PySem.mem_of_lookup e) hh with e' | e'
          · obtain ⟨p, hp, hpy⟩ := List.mem_map.mp e'
            have e3 := ok.ix p hp
            have : p.1 = y := hpy
            rw [this] at e3
            exact hne (List.mem_map.mpr ⟨p, hp, nodup_ix hN e3 e1⟩)
          · exact e' (List.mem_of_getElem? e1)
        rcases r with rfl | ⟨rfl, rfl⟩
        · rcases hk' with rfl | rfl | rfl
          · exact absurd (.inl rfl) no
          · exact absurd (.inr rfl) no
          · exact ⟨e, .inr hk0⟩
        · exact ⟨e, .inl hk0⟩
      have e3 : Vis cenv.scope y := e3
      rcases e3 with e3 | e3 | e3
      · exact key _ e3 (.inl rfl)
      · exact key _ e3 (.inr (.inl rfl))
      · exact key _ e3 (.inr (.inr rfl))
    obtain ⟨m, hn, hl⟩ := I.loc
    have hvis : Vis X.env.scope y := (ok.free _ (PySem.mem_of_lookup hfr.1) rfl).elim (fun k => .inr (.inl k)) (fun k => .inr (.inr k))
    obtain ⟨w, r, q⟩ := hl i y av e1 e2 hvis
    refine ⟨w, r, .inr ⟨hfr.2, ?_⟩⟩
    obtain ⟨c, h1, h2⟩ := look hfr.1
    rcases q with ⟨k, _⟩ | ⟨_, c', e', z⟩
    · have k : X.env.scope.names.lookup y = some .local := k
      rcases ok.free _ (PySem.mem_of_lookup hfr.1) rfl with k' | k' <;> rw [show X.env.scope.names.lookup y = _ from k'] at k <;> cases k
    · rw [h2] at e'; cases e'
      exact ⟨c, h1, z.keeps kp⟩
  · have e : cenv.cells.lookup y = some c := e
    rcases mem e with ⟨h1, _⟩ | ⟨_, z⟩
    · obtain ⟨w, z⟩ := I.cell y c h1
      exact ⟨w, z.keeps kp⟩
    · exact ⟨_, z⟩
  · show H cenv.locals = none
    rw [hL]; exact I.hok.fresh (Nat.le_refl _)
  · have e : cenv.cells.lookup y = some c := e
    rcases mem e with ⟨h1, _⟩ | ⟨h1, _⟩
    · exact I.freeC y c h1
    · exact I.hok.fresh (Nat.le_of_succ_le h1)
  · exact absurd (show p ∈ ([] : List (Addr × Obj)) ++ [] from hp) (by simp)

/-- an item appended to a tracked list -/
theorem app_ok {E : Value → Shared → Prop} {D : Addr} {xs : List V} {y : V} {v : Value} {Q : Value → Shared → Prop} (I : Inv X pins σ H s) (hD : H D = some (.lst xs)) (hz : xs.length < sizeLine) (r : RelV y v)
    (h : ∀ s', Inv X pins σ (upd H D (.lst (xs ++ [y]))) s' → Q .none s') : wpAny (model X.prog X.w) X.A (call (.builtin "list.append") [.ref D, v]) Q E s := by
  obtain ⟨hz', its, n, ri, e⟩ := I.hok D _ hD
  have hl := ri.length
  refine append_at (hsz := by rw [List.size_toArray]; omega) e fun h' sb ho' => ?_
  refine h { s with heap := h' } (I.write (t' := s.toks) (by rw [hD]; trivial) (.inl rfl) (fun b u hb q => (sb.2 b hb).trans q) ⟨_, ho'⟩ ⟨by rw [List.length_append]; exact hz, its ++ [v], n + 1, ri.append (.cons r .nil), ?_⟩)
  rw [ho']
  simp

/-- a clause's tests -/
def PTs (X : Cx) (ifs : List Expr) (t : TT) : Prop :=
  ∀ (pins : List (Addr × Obj)) (s : Shared) (σ : St) (H : Hp) (Q : Bool → Hp → Prop), Inv X pins σ H s → t σ H Q →
    wpAny (model X.prog X.w) X.A (forIn ifs true fun c r => if r = true then do let ok ← isTrue c X.env (eval c X.env); pure (ForInStep.yield ok) else pure (ForInStep.yield r)) (TP X pins σ Q) X.xe s
def tYes : TT := fun _ H Q => Q true H
theorem pts_nil : PTs X [] tYes := fun _ _ _ H _ I h => wpAny_tests_nil ⟨H, I, h⟩
end
theorem thnF {α : Type} {t : Sem α} {Q Q' : α → Shared → Prop} {M : Model} {A : Around} {E : Value → Shared → Prop} {s : Shared} (h : wpAny M A t Q (fun _ _ => False) s) (hQ : ∀ a s, Q a s → Q' a s) : wpAny M A t Q' E s := wpAny_mono h hQ fun _ _ z => False.elim z

/-- the loop of a list comprehension's block, the target of any form (codeAny_compLoop_tests asks a target that no tuple goes to; statement and proof follow it, PyProof/CompMap.lean:41-61, with the step letOwnedTupleGo kept) -/
theorem compLoop_any {prog : Program} {w : World} {A : Around} {R : Result → Shared → Prop} {s : Shared} {elt target iter : Expr} {ifs : List Expr} {scope : Scope} {pos : Pos} {it acc : Value} {env : Env} (I : Nat → Shared → Prop)
    (turn : ∀ n s, I n s → wpAny (model prog w) A (pyNext it) (fun r s₁ => match r with
      | none => R (.ok .next) s₁
      | some v => wpAny (model prog w) A (letOwnedTupleGo target it v) (fun _ s₁' => wpAny (model prog w) A (assign target env v) (fun _ s₂ =>
          wpAny (model prog w) A (forIn ifs true fun c r => if r = true then do let ok ← isTrue c env (eval c env); pure (ForInStep.yield ok) else pure (ForInStep.yield r)) (fun ok s₃ =>
            if ok = true then wpAny (model prog w) A (eval elt env) (fun x s₄ =>
              wpAny (model prog w) A (call (.builtin "list.append") [acc, x]) (fun _ s₅ => ∃ m, m < n ∧ I m s₅) (notedBy (model prog w) A env fun e s' => R (.error e) s') s₄) (notedBy (model prog w) A env fun e s' => R (.error e) s') s₃
            else ∃ m, m < n ∧ I m s₃) (notedBy (model prog w) A env fun e s' => R (.error e) s') s₂) (notedBy (model prog w) A env fun e s' => R (.error e) s') s₁') (notedBy (model prog w) A env fun e s' => R (.error e) s') s₁) (notedBy (model prog w) A env fun e s' => R (.error e) s') s)
    (n : Nat) (h : I n s) :
    codeAny (model prog w) A (.compLoop (.ListComp elt [⟨target, iter, ifs, 0⟩] scope pos) 0 it acc env) R s := by
  refine codeAny_loop rfl I (fun n s hI => ?_) n h
  show wpAny _ A ((compTurn (.ListComp elt [⟨target, iter, ifs, 0⟩] scope pos) 0 it acc env).onRaise (fun x => do noteFrame x env; theTreesLotGoes x)) _ _ s
  refine wpAny_noted ?_
  rw [compTurn_list]
  refine wpAny_bind (wpAny_standAt (wpAny_bind (wpAny_mono (turn n s hI) (fun r s₁ h₁ => ?_) fun _ _ h' => h')))
  cases r with
  | none => exact wpAny_pure h₁
  | some v =>
    refine wpAny_bind (wpAny_mono h₁ (fun _ s₁' h₁' => ?_) fun _ _ h' => h')
    refine wpAny_bind (wpAny_mono h₁' (fun _ s₂ h₂ => wpAny_bind (wpAny_mono h₂ (fun ok s₃ h₃ => ?_) fun _ _ h' => h')) fun _ _ h' => h')
    cases ok with
    | false => exact wpAny_pure ⟨rfl, h₃⟩
    | true =>
      exact wpAny_bind (wpAny_bind (wpAny_mono h₃ (fun x s₄ h₄ => wpAny_bind (wpAny_mono h₄ (fun _ s₅ h₅ => wpAny_pure (wpAny_pure ⟨rfl, h₅⟩)) fun _ _ h' => h')) fun _ _ h' => h'))

section
variable {X : Cx}
/-- [elt for target in iter if ..]: D the new list; W by the turn and a measure, Nx what a turn is to reach -/
def tLc (wi : TI) (g : TG) (tt : TT) (te : TE) (vs : List Nat) : TE := fun σ H Q => wi σ H fun J H1 => ∀ D, H1 D = none → ∃ W : Nat → Nat → Hp → Prop, (∃ m, W 0 m (upd H1 D (.lst []))) ∧ ∀ i m H, W i m H →
  (J.stop i H ∧ Q (.ref D) H) ∨ (J.go i H ∧ ∃ Nx : Hp → Prop, (∀ H', Nx H' → ∃ m', m' < m ∧ W (i + 1) m' H') ∧ ∀ x H', J.yld i H x H' → g x (wipe σ vs) H' fun σ2 H2 => wipe σ2 vs = wipe σ vs ∧ tt σ2 H2 fun b H3 =>
    if b = true then te σ2 H3 fun y H4 => ∃ acc, H4 D = some (.lst acc) ∧ acc.length < sizeLine ∧ Nx (upd H4 D (.lst (acc ++ [y]))) else Nx H3)
theorem lc_core {pins : List (Addr × Obj)} {s : Shared} {σ : St} {H : Hp} {Q : VK} {elt tg iter : Expr} {ifs : List Expr} {scope : Scope} {own : List (Str × Nat)} {pos pos' : Pos} {wi : TI} {g : TG} {tt : TT} {te : TE} {use : Option (Value → Sem Unit)} {Qf : Value → Shared → Prop}
    (hc : X.calm = true) (hN : X.N.Nodup) (I : Inv X pins σ H s) (hi : PI X tg iter wi) (ok : BlkOk X.N X.env.scope scope own)
    (hg : ∀ (s : Shared) (H : Hp) (C : Addr) (cl : List (Str × Addr)) (fp : List Addr), PG (X.blk s H scope (compEnvC scope cl C X.env) fp) tg g) (ht : ∀ (s : Shared) (H : Hp) (C : Addr) (cl : List (Str × Addr)) (fp : List Addr), PTs (X.blk s H scope (compEnvC scope cl C X.env) fp) ifs tt)
    (he : ∀ (s : Shared) (H : Hp) (C : Addr) (cl : List (Str × Addr)) (fp : List Addr), PE (X.blk s H scope (compEnvC scope cl C X.env) fp) elt te) (hs : ∀ x, foldedSetIterable iter X.env x = pure x)
    (h : tLc wi g tt te (own.map (·.2)) σ H Q)
    (hRR : ∀ D C s' m H', Inv X pins σ H' s' → Q (.ref D) H' → s'.heap.Ns C m → FpOk X pins H' C → compPost (model X.prog X.w) X.A X.xe use Qf (.ref D) C (.ok .next) s') :
    wpAny (model X.prog X.w) X.A (comprehension (.ListComp elt [⟨tg, iter, ifs, 0⟩] scope pos) scope X.env pos' (newList []) false (eval iter X.env) use) Qf X.xe s := by
  have hfree : ∀ y ∈ scope.names, y.2 = .free → ∃ c, X.env.cells.lookup y.1 = some c := fun y hy e => by
    rcases ok.free y hy e with k | k
    · exact I.ok.has _ (.inl k)
    · exact I.ok.has _ (.inr k)
  refine wpAny_comprehension_free (use := use) rfl hs (closure_ok hfree) ok.kind (fun y hy e => by rw [ok.uniq y hy, e])
    (thn (hi pins s σ H _ I h) fun xv s1 hx => thn hx fun itv s2 h2 => ?_)
  obtain ⟨it, fp, tn, J, H2, e, I2, T, st2, f2, q⟩ := h2
  subst e
  refine wpAny_newObj_type (newEnv_comp ?_) (by show 0 ≤ sizeLine; decide)
  generalize hD : s2.heap.objs.size = D
  have hDn : H2 D = none := I2.hok.fresh (Nat.le_of_eq hD)
  obtain ⟨W, ⟨m0, w0⟩, turn⟩ := q D hDn
  -- the new list
  generalize hs3 : ({ s2 with heap := s2.heap.push { cls := .type "list", data := .seq ([] : List Value).toArray } } : Shared) = s3
  have I3 : Inv X pins σ (upd H2 D (.lst [])) s3 := by
    rw [← hs3]
    refine I2.laid (t' := s2.toks) (fun b o e => Heap.get?_push_of_some _ e) (Nat.le_of_eq hD) ⟨Nat.zero_le _, [], 0, .nil, ?_⟩
    rw [← hD]
    exact Heap.get?_push_size _ rfl
  have h3 : s3.heap = s2.heap.push { cls := .type "list", data := .seq ([] : List Value).toArray } := by rw [← hs3]
  have sz : ∀ b ∈ fp, b < s2.heap.objs.size := fun b hb => by
    obtain ⟨o, e, _⟩ := T.obj _ _ st2 b hb
    exact Heap.lt_size e
  have f3 : ∀ b ∈ fp, FpOk X pins (upd H2 D (.lst [])) b ∧ b < s3.heap.objs.size := fun b hb => by
    have hlt := sz b hb
    refine ⟨⟨?_, (f2 b hb).2⟩, by rw [h3, Heap.size_push]; exact Nat.lt_succ_of_lt hlt⟩
    rw [upd_ne (by rw [← hD]; exact Nat.ne_of_lt hlt)]
    exact (f2 b hb).1
  have st3 : tn 0 s3.heap := T.keep _ _ _ st2 fun b _ o e => by rw [h3]; exact Heap.get?_push_of_some _ e
  have I4 := block_start I3 ok hN f3
  have pg := hg s3 (upd H2 D (.lst [])) s3.heap.objs.size (cellsFrom (s3.heap.objs.size + 1) scope.names (cloFrom X.env.cells scope.names [])) fp
  have pt := ht s3 (upd H2 D (.lst [])) s3.heap.objs.size (cellsFrom (s3.heap.objs.size + 1) scope.names (cloFrom X.env.cells scope.names [])) fp
  have pe := he s3 (upd H2 D (.lst [])) s3.heap.objs.size (cellsFrom (s3.heap.objs.size + 1) scope.names (cloFrom X.env.cells scope.names [])) fp
  show codeAny _ _ (.compStart (.ListComp elt [⟨tg, iter, ifs, 0⟩] scope pos) 0 (.ref it) (.ref D) (compEnvC scope (cellsFrom (s3.heap.objs.size + 1) scope.names (cloFrom X.env.cells scope.names [])) s3.heap.objs.size X.env)) (compPost (model X.prog X.w) X.A X.xe use Qf (.ref D) s3.heap.objs.size) { s3 with heap := pushCells (s3.heap.push { cls := .type "dict", data := .dict #[] }) scope.names }
  have nfp : ∀ b ∈ fp, (upd H2 D (.lst [])) b = none := fun b hb => (f3 b hb).1.1
  generalize hce : compEnvC scope (cellsFrom (s3.heap.objs.size + 1) scope.names (cloFrom X.env.cells scope.names [])) s3.heap.objs.size X.env = ce at I4 pg pt pe ⊢
  have cL : ce.locals = s3.heap.objs.size := by subst hce; rfl
  generalize hH3 : upd H2 D (.lst []) = H3 at I3 I4 pg pt pe w0 nfp f3
  generalize hs4 : ({ s3 with heap := pushCells (s3.heap.push { cls := .type "dict", data := .dict #[] }) scope.names } : Shared) = s4 at I4 ⊢
  have st4 : tn 0 s4.heap := T.keep _ _ _ st3 fun b _ o e => by rw [← hs4]; exact pushCells_keeps _ _ _ _ (Heap.get?_push_of_some _ e)
  have stat : ∀ {σ' : St} {H' : Hp} {s' : Shared}, Inv (X.blk s3 H3 scope ce fp) [] σ' H' s' → (∀ b ∈ fp, H' b = none) → ∀ b ∈ fp, FpOk (X.blk s3 H3 scope ce fp) [] H' b := fun {σ' H' s'} I' hn b hb =>
    ⟨hn b hb, (I'.ok.exf b hb).1, I'.ok.exfs b hb, .inl hb, fun x c e => (I'.ok.exf b hb).2 x c e, fun p hp => absurd (show p ∈ ([] : List (Addr × Obj)) ++ [] from hp) (by simp)⟩
  have loop : codeAny (model X.prog X.w) X.A (.compLoop (.ListComp elt [⟨tg, iter, ifs, 0⟩] scope pos) 0 (.ref it) (.ref D) ce) (compPost (model X.prog X.w) X.A X.xe use Qf (.ref D) s3.heap.objs.size) s4 := by
    refine compLoop_any (fun n s' => ∃ i H', Inv (X.blk s3 H3 scope ce fp) [] (wipe σ (own.map (·.2))) H' s' ∧ tn i s'.heap ∧ (∀ b ∈ fp, H' b = none) ∧ W i n H') ?_ m0 ⟨0, H3, I4, st4, nfp, w0⟩
    rintro n s5 ⟨i, H5, I5, st5, n5, w5⟩
    rcases turn i n H5 w5 with ⟨stop, qq⟩ | ⟨go, Nx, hNx, step⟩
    · have td := T.done (X.blk s3 H3 scope ce fp) rfl rfl rfl hc i [] s5 _ H5 (fun _ _ => False) I5 (stat I5 n5) st5 stop
      refine thnF td fun r s6 ⟨hr, I6⟩ => ?_
      subst hr
      -- back in the def's context
      have I7 : Inv X pins σ H5 s6 := I3.call' (ch := fp) I6.os I6.base I6.hok I6.bare fun b hb => ⟨(f3 b hb).1.2.2.2.1, (f3 b hb).1.2.1, (f3 b hb).1.2.2.2.2.1, (f3 b hb).1.2.2.2.2.2⟩
      have nC : H5 s3.heap.objs.size = none := by
        have z : H5 ce.locals = none := I6.free
        rw [cL] at z
        exact z
      obtain ⟨m, hn, _⟩ := I6.loc
      have hn : s6.heap.Ns ce.locals m := hn
      rw [cL] at hn
      exact hRR D s3.heap.objs.size s6 m H5 I7 qq hn (I3.fpOk (Nat.le_refl _) nC)
    · have ti := T.item (X.blk s3 H3 scope ce fp) rfl rfl rfl hc i [] s5 _ H5 (fun _ _ => False) I5 (stat I5 n5) st5 go
      refine thnF ti fun r s6 ⟨u, hr, h6⟩ => ?_
      subst hr
      refine thnF h6 fun _ s7 ⟨x, H7, I7, r7, y7, st7, n7⟩ => ?_
      have I7' := I7.pinned (stat I7 n7) (T.obj _ _ st7)
      refine thnF (pg _ s7 _ H7 x u _ I7' r7 (step x H7 y7)) fun _ s8 ⟨σ8, H8, I8, hw8, q8⟩ => ?_
      refine thnF (pt _ s8 σ8 H8 _ I8 q8) fun b s9 ⟨H9, I9, q9⟩ => ?_
      -- the turn's end
      have fin : ∀ {s' : Shared} {H' : Hp}, Inv (X.blk s3 H3 scope ce fp) ([] ++ pinsAt fp s7.heap) σ8 H' s' → Nx H' → ∃ m, m < n ∧ ∃ i H', Inv (X.blk s3 H3 scope ce fp) [] (wipe σ (own.map (·.2))) H' s' ∧ tn i s'.heap ∧ (∀ b ∈ fp, H' b = none) ∧ W i m H' := fun {s' H'} I' nx => by
        obtain ⟨m', hm, w'⟩ := hNx H' nx
        have pin' : ∀ b ∈ fp, ∀ o, s7.heap.get? b = some o → s'.heap.get? b = some o ∧ H' b = none := fun b hb o e =>
          let z := I'.pin (b, o) (List.mem_append_right _ (List.mem_append_right _ (mem_pinsAt hb e)))
          ⟨z.1, z.2.1⟩
        have hl : (wipe σ (own.map (·.2))).length = σ8.length := by rw [← hw8, wipe_length]
        refine ⟨m', hm, i + 1, H', (I'.unpinned (pins := [])).weak hl (fun j v e => ?_), T.keep _ _ _ st7 fun b hb o e => (pin' b hb o e).1, fun b hb => ?_, w'⟩
        · rw [← hw8] at e
          exact (wipe_some e).1
        · obtain ⟨o, e, _⟩ := T.obj _ _ st7 b hb
          exact (pin' b hb o e).2
      cases b with
      | false =>
        simp only [Bool.false_eq_true, if_false] at q9 ⊢
        exact fin I9 q9
      | true =>
        simp only [if_true] at q9 ⊢
        refine thnF (pe _ s9 σ8 H9 _ I9 q9) fun z s10 ⟨yv, H10, I10, r10, acc, hD10, hz10, nx⟩ => ?_
        exact app_ok (X := X.blk s3 H3 scope ce fp) I10 hD10 hz10 r10 fun s11 I11 => fin I11 nx
  exact codeAny_compStart_list loop (T.self X.A 0 _ _ _ st4 loop)
/-- as a value -/
theorem pe_lc {elt tg iter : Expr} {ifs : List Expr} {scope : Scope} {own : List (Str × Nat)} {pos : Pos} {wi : TI} {g : TG} {tt : TT} {te : TE} (hc : X.calm = true) (hN : X.N.Nodup) (hi : PI X tg iter wi) (ok : BlkOk X.N X.env.scope scope own)
    (hg : ∀ (s : Shared) (H : Hp) (C : Addr) (cl : List (Str × Addr)) (fp : List Addr), PG (X.blk s H scope (compEnvC scope cl C X.env) fp) tg g) (ht : ∀ (s : Shared) (H : Hp) (C : Addr) (cl : List (Str × Addr)) (fp : List Addr), PTs (X.blk s H scope (compEnvC scope cl C X.env) fp) ifs tt)
    (he : ∀ (s : Shared) (H : Hp) (C : Addr) (cl : List (Str × Addr)) (fp : List Addr), PE (X.blk s H scope (compEnvC scope cl C X.env) fp) elt te) (hs : ∀ x, foldedSetIterable iter X.env x = pure x := by intro _; rfl) :
    PE X (.ListComp elt [⟨tg, iter, ifs, 0⟩] scope pos) (tLc wi g tt te (own.map (·.2))) := by
  intro pins s σ H Q I h
  rw [eval_ListComp]
  refine lc_core hc hN I hi ok hg ht he hs h fun D C s' m H' I' q hn f => ⟨m, hn, fun h'' sb => ?_⟩
  obtain ⟨f0, f1, f2, f3, f4, f5⟩ := f
  exact ⟨.ref D, H', I'.turned (t' := s'.toks) (fun b o hb e => (sb.2 b hb).trans e) f0 f1 f3 f4 f5, rfl, q⟩
/-- name = [..] on one line, the name a local -/
theorem ps_setLc {i : Nat} {y : Str} {py : Pos} {elt tg iter : Expr} {ifs : List Expr} {scope : Scope} {own : List (Str × Nat)} {pos spos : Pos} {wi : TI} {g : TG} {tt : TT} {te : TE} (hc : X.calm = true) (hN : X.N.Nodup) (hy : X.N[i]? = some y) (hyl : X.env.scope.names.lookup y = some .local)
    (hsw : swapsWith (.ListComp elt [⟨tg, iter, ifs, 0⟩] scope pos) (some (.Name y py)) spos.line X.env = pure true) (hi : PI X tg iter wi) (ok : BlkOk X.N X.env.scope scope own)
    (hg : ∀ (s : Shared) (H : Hp) (C : Addr) (cl : List (Str × Addr)) (fp : List Addr), PG (X.blk s H scope (compEnvC scope cl C X.env) fp) tg g) (ht : ∀ (s : Shared) (H : Hp) (C : Addr) (cl : List (Str × Addr)) (fp : List Addr), PTs (X.blk s H scope (compEnvC scope cl C X.env) fp) ifs tt)
    (he : ∀ (s : Shared) (H : Hp) (C : Addr) (cl : List (Str × Addr)) (fp : List Addr), PE (X.blk s H scope (compEnvC scope cl C X.env) fp) elt te) (hs : ∀ x, foldedSetIterable iter X.env x = pure x := by intro _; rfl) :
    PS X (.Assign [.Name y py] (.ListComp elt [⟨tg, iter, ifs, 0⟩] scope pos) spos) (tAsg (tLc wi g tt te (own.map (·.2))) (gName i)) := by
  intro pins s σ H D I h
  rw [exec_Assign_Name_used _ _ _ _ hsw]
  refine wpAny_bind (wpAny_standAt (wpAny_bind ?_))
  show wpAny _ X.A (do let _ ← comprehension (.ListComp elt [⟨tg, iter, ifs, 0⟩] scope pos) scope X.env (firstIterPos [⟨tg, iter, ifs, 0⟩] pos) (newList []) false (eval iter X.env) (some (assign (.Name y py) X.env))) _ _ s
  have h : tLc wi g tt te (own.map (·.2)) σ H (fun x H1 => gName i x σ H1 D.nx) := h
  refine wpAny_bind (thn (lc_core (Qf := fun _ s' => SP X pins D .next s') hc hN I hi ok hg ht he hs h fun L C s' m H' I' q hn f => ?_) fun _ s' hq => wpAny_pure (wpAny_pure hq))
  show wpAny _ _ (assign (.Name y py) X.env (.ref L)) _ _ _
  refine wpAny_assign_Name (store_ok2 (v := V.ref L) I' hN hy (.inl hyl) rfl (fun s2 I2 ⟨a, sb, ha⟩ => ?_) (.inr hyl))
  obtain ⟨f0, f1, f2, f3, f4, f5⟩ := f
  have haC : C ≠ a := by
    rcases ha with z | z
    · rw [z]; exact f1
    · exact fun e => f4 y a z e.symm
  refine ⟨m, hn.sameBut sb haC, fun h3 sb3 => ?_⟩
  exact ⟨_, H', I2.turned (t' := s2.toks) (fun b o hb e => (sb3.2 b hb).trans e) f0 f1 f3 f4 f5, q⟩
theorem sw_true {elt : Expr} {gs : List Comprehension} {scope : Scope} {pos py : Pos} {y : Str} {l : Nat} {env : Env} (hk : env.scope.kind = .function) (hy : env.scope.names.lookup y = some .local) (hl : (py.line == pos.line) = true)
    (ha : (scope.names.any fun (n, k) => n == y && (k == .local || k == .cell)) = false) : swapsWith (.ListComp elt gs scope pos) (some (.Name y py)) l env = pure true := by
  have ky : env.kindOf y = some .local := hy
  have hb : env.blockKind = .function := by unfold Env.blockKind; rw [hk]; rfl
  unfold swapsWith
  simp only [hb, ky, ha, Expr.pos, hl]
  rfl
end
/-! ### the forms one uses -/
/-- over a range: Pv by the turn and the heap (the new list at D within) -/
theorem lc_range {lo : Int} {n : Nat} {g : TG} {tt : TT} {te : TE} {vs : List Nat} {σ : St} {H1 : Hp} {D : Addr} {Qd : Hp → Prop} (Pv : Nat → Hp → Prop) (h0 : Pv 0 (upd H1 D (.lst [])))
    (hs : ∀ i H, i < n → Pv i H → g (.int (lo + i)) (wipe σ vs) H fun σ2 H2 => wipe σ2 vs = wipe σ vs ∧ tt σ2 H2 fun b H3 =>
      if b = true then te σ2 H3 fun y H4 => ∃ acc, H4 D = some (.lst acc) ∧ acc.length < sizeLine ∧ Pv (i + 1) (upd H4 D (.lst (acc ++ [y]))) else Pv (i + 1) H3) (hd : ∀ H, Pv n H → Qd H) :
    ∃ W : Nat → Nat → Hp → Prop, (∃ m, W 0 m (upd H1 D (.lst []))) ∧ ∀ i m H, W i m H →
      ((Itr lo n).stop i H ∧ Qd H) ∨ ((Itr lo n).go i H ∧ ∃ Nx : Hp → Prop, (∀ H', Nx H' → ∃ m', m' < m ∧ W (i + 1) m' H') ∧ ∀ x H', (Itr lo n).yld i H x H' → g x (wipe σ vs) H' fun σ2 H2 => wipe σ2 vs = wipe σ vs ∧ tt σ2 H2 fun b H3 =>
        if b = true then te σ2 H3 fun y H4 => ∃ acc, H4 D = some (.lst acc) ∧ acc.length < sizeLine ∧ Nx (upd H4 D (.lst (acc ++ [y]))) else Nx H3) := by
  refine ⟨fun i m H => m = n - i ∧ i ≤ n ∧ Pv i H, ⟨n, by simp, Nat.zero_le _, h0⟩, ?_⟩
  rintro i m H ⟨rfl, hi, p⟩
  by_cases hlt : i < n
  · refine .inr ⟨hlt, Pv (i + 1), fun H' p' => ⟨n - (i + 1), by omega, rfl, hlt, p'⟩, fun x H' y => ?_⟩
    obtain ⟨e, y⟩ := y
    subst e y
    exact hs i _ hlt p
  · have e : i = n := by omega
    subst e
    exact .inl ⟨Nat.le_refl _, hd H p⟩
/-- over a list that the block leaves as it is -/
theorem lc_list {K : PySem.W.Frag} {a : Addr} {xs : List V} {g : TG} {tt : TT} {te : TE} {vs : List Nat} {σ : St} {H1 : Hp} {D : Addr} {Qd : Hp → Prop} (Pv : Nat → Hp → Prop) (h0 : Pv 0 (upd H1 D (.lst []))) (hl : ∀ i H, i ≤ xs.length → Pv i H → SqL K H a xs)
    (hs : ∀ i x H, xs[i]? = some x → Pv i H → g x (wipe σ vs) H fun σ2 H2 => wipe σ2 vs = wipe σ vs ∧ tt σ2 H2 fun b H3 =>
      if b = true then te σ2 H3 fun y H4 => ∃ acc, H4 D = some (.lst acc) ∧ acc.length < sizeLine ∧ Pv (i + 1) (upd H4 D (.lst (acc ++ [y]))) else Pv (i + 1) H3) (hd : ∀ H, Pv xs.length H → Qd H) :
    ∃ W : Nat → Nat → Hp → Prop, (∃ m, W 0 m (upd H1 D (.lst []))) ∧ ∀ i m H, W i m H →
      ((Itl K a).stop i H ∧ Qd H) ∨ ((Itl K a).go i H ∧ ∃ Nx : Hp → Prop, (∀ H', Nx H' → ∃ m', m' < m ∧ W (i + 1) m' H') ∧ ∀ x H', (Itl K a).yld i H x H' → g x (wipe σ vs) H' fun σ2 H2 => wipe σ2 vs = wipe σ vs ∧ tt σ2 H2 fun b H3 =>
        if b = true then te σ2 H3 fun y H4 => ∃ acc, H4 D = some (.lst acc) ∧ acc.length < sizeLine ∧ Nx (upd H4 D (.lst (acc ++ [y]))) else Nx H3) := by
  refine ⟨fun i m H => m = xs.length - i ∧ i ≤ xs.length ∧ Pv i H, ⟨xs.length, by simp, Nat.zero_le _, h0⟩, ?_⟩
  rintro i m H ⟨rfl, hi, p⟩
  have q := hl i H hi p
  by_cases hlt : i < xs.length
  · refine .inr ⟨⟨xs, xs[i], q, by simp [hlt]⟩, Pv (i + 1), fun H' p' => ⟨xs.length - (i + 1), by omega, rfl, hlt, p'⟩, fun x H' y => ?_⟩
    obtain ⟨e, y⟩ := y
    subst e
    exact hs i x _ (y xs q) p
  · have e : i = xs.length := by omega
    subst e
    exact .inl ⟨⟨xs, q, Nat.le_refl _⟩, hd H p⟩
def blkC (N : List Str) (sc scope : Scope) (own : List (Str × Nat)) : Bool :=
  (match scope.kind with | .function => true | _ => false) && (scope.names.all fun y => decide (scope.names.lookup y.1 = some y.2)) && (own.all fun p => decide (N[p.2]? = some p.1)) &&
    (scope.names.all fun y => match y.2 with
      | .free => (match sc.names.lookup y.1 with | some .cell => true | some .free => true | _ => false)
      | .local => decide (y.1 ∈ own.map (·.1)) || decide (y.1 ∉ N)
      | .cell => decide (y.1 ∈ own.map (·.1)) || decide (y.1 ∉ N)
      | _ => true)
theorem blkOk_by {N : List Str} {sc scope : Scope} {own : List (Str × Nat)} (h : blkC N sc scope own = true) : BlkOk N sc scope own := by
  unfold blkC at h
  simp only [Bool.and_eq_true, List.all_eq_true, decide_eq_true_eq] at h
  obtain ⟨⟨⟨h1, h2⟩, h3⟩, h4⟩ := h
  refine ⟨?_, h2, h3, fun y hy e => ?_, fun y hy e => ?_⟩
  · split at h1
    · assumption
    · cases h1
  · have q := h4 y hy
    simp only [e] at q
    split at q <;> first | exact .inl (by assumption) | exact .inr (by assumption) | cases q
  · have q := h4 y hy
    rcases e with e | e <;> (simp only [e, Bool.or_eq_true, decide_eq_true_eq] at q; exact q)
end L2
namespace L2
open PySem PySem.Spec PyProof.Rows
section
variable {prog : Program} {w : World} {A : Around} {R : Result → Shared → Prop} {s : Shared} {elt t0 i0 t1 i1 : Expr} {ifs0 ifs1 : List Expr} {scope : Scope} {pos : Pos} {it acc : Value} {env : Env}
end
section
variable {X : Cx}
end
end L2
namespace L2
open PySem PySem.Spec PyProof.Rows
/-! ### lists of pairs as tables -/
section
variable {κ : Type} [DecidableEq κ]
def valV (kvs : List (κ × V)) (k : κ) : Option V := (kvs.find? fun kv => decide (kv.1 = k)).map (·.2)
/-- in its place, or at the end -/
def putK (kvs : List (κ × V)) (k : κ) (v : V) : List (κ × V) :=
  if (kvs.any fun kv => decide (kv.1 = k)) = true then kvs.map (fun kv => if kv.1 = k then (kv.1, v) else kv) else kvs ++ [(k, v)]
theorem valV_pos {p : κ × V} {r : List (κ × V)} {k : κ} (e : p.1 = k) : valV (p :: r) k = some p.2 := by simp [valV, List.find?_cons, e]
theorem valV_neg {p : κ × V} {r : List (κ × V)} {k : κ} (e : ¬ p.1 = k) : valV (p :: r) k = valV r k := by simp [valV, List.find?_cons, e]
theorem valV_any (k : κ) : ∀ kvs : List (κ × V), (kvs.any fun kv => decide (kv.1 = k)) = (valV kvs k).isSome
  | [] => rfl
  | p :: r => by
    rw [List.any_cons]
    by_cases e : p.1 = k
    · simp only [valV_pos e, decide_eq_true e, Bool.true_or, Option.isSome_some]
    · rw [valV_neg e, decide_eq_false e, Bool.false_or]; exact valV_any k r
theorem length_putK (kvs : List (κ × V)) (k : κ) (v : V) : (putK kvs k v).length ≤ kvs.length + 1 := by
  unfold putK
  split
  · rw [List.length_map]; omega
  · rw [List.length_append, List.length_cons, List.length_nil]; omega
theorem putK_new {kvs : List (κ × V)} {k : κ} (v : V) (h : valV kvs k = none) : putK kvs k v = kvs ++ [(k, v)] := by
  unfold putK
  rw [valV_any, h]
  exact if_neg (by decide)

theorem RelO.isSome_eq {o : Option V} {u : Option Value} (r : RelO o u) : o.isSome = u.isSome := by
  cases o with
  | none => cases u with
    | none => rfl
    | some _ => exact (show False from r).elim
  | some _ => cases u with
    | none => exact (show False from r).elim
    | some _ => rfl
theorem RelO.getD {o : Option V} {u : Option Value} {d : V} {d' : Value} (r : RelO o u) (rd : RelV d d') : RelV (o.getD d) (u.getD d') := by
  cases o with
  | none => cases u with
    | none => exact rd
    | some _ => exact (show False from r).elim
  | some _ => cases u with
    | none => exact (show False from r).elim
    | some _ => exact r

/-- raw tables of the same keys -/
theorem KV.val {kvs : List (κ × V)} {vs : List (κ × Value)} (r : KV kvs vs) (k : κ) : RelO (valV kvs k) (valueAt vs k) := by
  unfold KV at r
  induction r with
  | nil => exact True.intro
  | @cons p q ps qs h t ih =>
    obtain ⟨h1, h2⟩ := h
    by_cases e : p.1 = k
    · have e' : q.1 = k := h1.symm.trans e
      have b : valueAt (q :: qs) k = some q.2 := by simp [valueAt, List.find?_cons, e']
      rw [valV_pos e, b]; exact h2
    · have e' : ¬ q.1 = k := fun z => e (h1.trans z)
      have b : valueAt (q :: qs) k = valueAt qs k := by simp [valueAt, List.find?_cons, e']
      rw [valV_neg e, b]; exact ih
theorem KV.any {kvs : List (κ × V)} {vs : List (κ × Value)} (r : KV kvs vs) (k : κ) : (kvs.any fun kv => decide (kv.1 = k)) = vs.any fun kv => decide (kv.1 = k) := by
  unfold KV at r
  induction r with
  | nil => rfl
  | cons h t ih => rw [List.any_cons, List.any_cons, ih, h.1]
theorem KV.repl {kvs : List (κ × V)} {vs : List (κ × Value)} (r : KV kvs vs) (k : κ) {y : V} {u : Value} (ry : RelV y u) :
    KV (kvs.map fun kv => if kv.1 = k then (kv.1, y) else kv) (vs.map fun kv => if kv.1 = k then (kv.1, u) else kv) := by
  unfold KV at r ⊢
  induction r with
  | nil => exact .nil
  | @cons p q ps qs h t ih =>
    rw [List.map_cons, List.map_cons]
    refine .cons ?_ ih
    obtain ⟨h1, h2⟩ := h
    by_cases e : p.1 = k
    · rw [if_pos e, if_pos (h1.symm.trans e)]; exact ⟨h1, ry⟩
    · rw [if_neg e, if_neg (fun z => e (h1.trans z))]; exact ⟨h1, h2⟩
theorem KV.put {kvs : List (κ × V)} {vs : List (κ × Value)} (r : KV kvs vs) (k : κ) {y : V} {u : Value} (ry : RelV y u) : KV (putK kvs k y) (stored vs k u) := by
  unfold putK stored
  rw [r.any k]
  by_cases e : (vs.any fun kv => decide (kv.1 = k)) = true
  · rw [if_pos e, if_pos e]; exact r.repl k ry
  · rw [if_neg e, if_neg e]; exact Paired.snoc r ⟨rfl, ry⟩
theorem KV.length {kvs : List (κ × V)} {vs : List (κ × Value)} (r : KV kvs vs) : kvs.length = vs.length := Paired.length r
end
/-! ### a tracked dict, its keys ints and texts or tuples of these -/
theorem kV_is {P : Program} {w : World} {k : Key} {u : Value} (r : RelV (kV k) u) : (mixKind P w).is k u = true := by
  cases k with
  | inl i => obtain ⟨t, e⟩ := (show ∃ t, u = Value.int i t from r); subst e; exact mixKind_int P w i t
  | inr x => obtain ⟨t, e⟩ := (show ∃ t, u = Value.str x t from r); subst e; exact mixKind_str P w x t
theorem items_are {P : Program} {w : World} : ∀ {ks : List Key} {us : List Value}, Vals (ks.map kV) us → ItemsAre (mixKind P w) ks us
  | [], _, r => by rw [List.map_nil] at r; cases r; exact .nil
  | k :: ks, _, r => by
    rw [List.map_cons] at r
    cases r with
    | cons h t => exact .cons (kV_is h) (items_are t)

/-- raw entries of a dict with tuple keys -/
abbrev KT (H : Hp) : List (List Key × V) → List (List Key × Addr × Value) → Prop := Paired fun p q => p.1 = q.1 ∧ H q.2.1 = some (.tup (p.1.map kV)) ∧ RelV p.2 q.2.2
theorem KT.val {H : Hp} {kvs : List (List Key × V)} {xs : List (List Key × Addr × Value)} (r : KT H kvs xs) (k : List Key) : RelO (valV kvs k) ((atKey xs k).map (·.2)) := by
  induction r with
  | nil => exact True.intro
  | @cons p q ps qs h t ih =>
    obtain ⟨h1, _, h2⟩ := h
    by_cases e : p.1 = k
    · have e' : q.1 = k := h1.symm.trans e
      have b : atKey (q :: qs) k = some q.2 := by simp [atKey, List.find?_cons, e']
      rw [valV_pos e, b]; exact h2
    · have e' : ¬ q.1 = k := fun z => e (h1.trans z)
      have b : atKey (q :: qs) k = atKey qs k := by simp [atKey, List.find?_cons, e']
      rw [valV_neg e, b]; exact ih
theorem KT.repl {H : Hp} {kvs : List (List Key × V)} {xs : List (List Key × Addr × Value)} (r : KT H kvs xs) (k : List Key) {y : V} {u : Value} (ry : RelV y u) :
    KT H (kvs.map fun kv => if kv.1 = k then (kv.1, y) else kv) (xs.map (putAt k u)) := by
  induction r with
  | nil => exact .nil
  | @cons p q ps qs h t ih =>
    rw [List.map_cons, List.map_cons]
    refine .cons ?_ ih
    obtain ⟨h1, h2, h3⟩ := h
    unfold putAt
    by_cases e : p.1 = k
    · rw [if_pos e, if_pos (h1.symm.trans e)]; exact ⟨h1, h2, ry⟩
    · rw [if_neg e, if_neg (fun z => e (h1.trans z))]; exact ⟨h1, h2, h3⟩
theorem KT.put {H : Hp} {kvs : List (List Key × V)} {xs : List (List Key × Addr × Value)} (r : KT H kvs xs) (k : List Key) {b : Addr} {y : V} {u : Value} (hb : H b = some (.tup (k.map kV))) (ry : RelV y u) :
    KT H (putK kvs k y) (storedH xs k b u) := by
  have e : (kvs.any fun kv => decide (kv.1 = k)) = (atKey xs k).isSome := by
    rw [valV_any, (r.val k).isSome_eq, Option.isSome_map]
  unfold putK storedH
  rw [e]
  by_cases q : (atKey xs k).isSome = true
  · rw [if_pos q, if_pos q]; exact r.repl k ry
  · rw [if_neg q, if_neg q]; exact Paired.snoc r ⟨rfl, hb, ry⟩
theorem KT.keeps {H H' : Hp} {kvs : List (List Key × V)} {xs : List (List Key × Addr × Value)} (r : KT H kvs xs) (ht : ∀ b ys, H b = some (.tup ys) → H' b = some (.tup ys)) : KT H' kvs xs :=
  Paired.mapP r fun _ _ z => ⟨z.1, ht _ _ z.2.1, z.2.2⟩

section
variable {P : Program} {w : World} {H : Hp} {h : Heap} {a : Addr}
theorem rd_of {u : HO} (ok : HOk P w H h) (e : Rd H a u) : ObjOk P w H h a u := e.ok ok
theorem dk_rd {kvs : List (Key × V)} (ok : HOk P w H h) (e : Rd H a (.dK kvs)) : kvs.length ≤ sizeLine ∧ (a == sysModules) = false ∧ ∃ vs, KV kvs vs ∧ h.DictOf (mixKind P w) a vs :=
  show ObjOk P w H h a (.dK kvs) from rd_of ok e
theorem dk_of {kvs : List (Key × V)} (ok : HOk P w H h) (e : H a = some (.dK kvs)) : kvs.length ≤ sizeLine ∧ (a == sysModules) = false ∧ ∃ vs, KV kvs vs ∧ h.DictOf (mixKind P w) a vs := dk_rd ok (.inl e)
/-- a tracked tuple of ints and texts is a key -/
theorem key_of {ks : List Key} (ok : HOk P w H h) (e : H a = some (.tup (ks.map kV))) : (tupleKind (mixKind P w)).is h ks a := by
  obtain ⟨_, its, r, o, h1, h2, n, h3⟩ := (show ObjOk P w H h a (.tup (ks.map kV)) from ok a _ e)
  exact ⟨o, its.toArray, n, h1, h2, h3, by simpa using items_are r⟩
theorem dt_rd {kvs : List (List Key × V)} (ok : HOk P w H h) (e : Rd H a (.dT kvs)) : kvs.length ≤ sizeLine ∧ (a == sysModules) = false ∧
    ∃ xs, KT H kvs xs ∧ h.DictOfH (tupleKind (mixKind P w)) a xs := by
  obtain ⟨z, y, xs, r, o, es, ep, h1, h2, h3, h4, h5⟩ := (show ObjOk P w H h a (.dT kvs) from rd_of ok e)
  refine ⟨z, y, xs, r, o, es, ep, h1, h2, h3, h4, fun x hx => ?_, h5⟩
  have all : ∀ {l : List (List Key × V)} {m : List (List Key × Addr × Value)}, KT H l m → ∀ x ∈ m, (tupleKind (mixKind P w)).is h x.1 x.2.1 := by
    intro l m q
    induction q with
    | nil => intro x hx; exact nomatch hx
    | @cons p q ps qs hq t ih =>
      intro x hx
      rcases List.mem_cons.mp hx with e | hx
      · subst e
        exact key_of ok (by rw [← hq.1]; exact hq.2.1)
      · exact ih x hx
  exact all r x hx
theorem dt_of {kvs : List (List Key × V)} (ok : HOk P w H h) (e : H a = some (.dT kvs)) : kvs.length ≤ sizeLine ∧ (a == sysModules) = false ∧
    ∃ xs, KT H kvs xs ∧ h.DictOfH (tupleKind (mixKind P w)) a xs := dt_rd ok (.inl e)
end
/-- what the dict at a holds at the key y -/
def DGet (H : Hp) (a : Addr) (y : V) (r : Option V) : Prop :=
  (∃ kvs k, Rd H a (.dK kvs) ∧ y = kV k ∧ r = valV kvs k) ∨ ∃ kvs k b, Rd H a (.dT kvs) ∧ y = .ref b ∧ H b = some (.tup (k.map kV)) ∧ r = valV kvs k
/-- the heap behind a[y] = v -/
def DPut (H : Hp) (a : Addr) (y v : V) (H' : Hp) : Prop :=
  (∃ kvs k, H a = some (.dK kvs) ∧ y = kV k ∧ kvs.length < sizeLine ∧ H' = upd H a (.dK (putK kvs k v))) ∨
  ∃ kvs k b, H a = some (.dT kvs) ∧ y = .ref b ∧ H b = some (.tup (k.map kV)) ∧ kvs.length < sizeLine ∧ H' = upd H a (.dT (putK kvs k v))
theorem DGet.k {H : Hp} {a : Addr} {kvs : List (Key × V)} {k : Key} (e : H a = some (.dK kvs)) : DGet H a (kV k) (valV kvs k) := .inl ⟨kvs, k, .inl e, rfl, rfl⟩
theorem DPut.k {H : Hp} {a : Addr} {kvs : List (Key × V)} {k : Key} {v : V} (e : H a = some (.dK kvs)) (hl : kvs.length < sizeLine) : DPut H a (kV k) v (upd H a (.dK (putK kvs k v))) := .inl ⟨kvs, k, e, rfl, hl, rfl⟩
section
variable {X : Cx} {pins : List (Addr × Obj)} {σ : St} {H : Hp} {s : Shared} {a : Addr} {y v : V} {u r : Value} {o : Option V} {A : Around} {E : Value → Shared → Prop}
theorem Inv.big (I : Inv X pins σ H s) : sysModules < s.heap.objs.size := by
  have h : mainGlobals < s.heap.objs.size := (I.mod.glob.keeps I.bk).lt
  exact Nat.lt_trans (by decide) h

/-- a dict's object is replaced -/
theorem d_write {h' : Heap} {t' : Nat} {ob : HO} (I : Inv X pins σ H s) (mu : Mut (H a)) (hs : Heap.SameBut a s.heap h') (he : ∃ q, h'.get? a = some q) (new : ObjOk X.prog X.w (upd H a ob) h' a ob) :
    Inv X pins σ (upd H a ob) { s with heap := h', toks := t' } :=
  I.write (x := a) (e := a) mu (.inl rfl) (fun b q hb z => (hs.2 b hb).trans z) he new
theorem dk_new {P : Program} {w : World} {H' : Hp} {h' : Heap} {kvs : List (Key × V)} {vs : List (Key × Value)} (z : kvs.length ≤ sizeLine) (hd : (a == sysModules) = false) (rel : KV kvs vs) (dd : h'.DictOf (mixKind P w) a vs) :
    ObjOk P w H' h' a (.dK kvs) := ⟨z, hd, vs, rel, dd⟩
/-- d[y] = v -/
theorem d_setItem {H' : Hp} {Q : Unit → Shared → Prop} (hu : A.units + 1 < cLine) (I : Inv X pins σ H s) (g : DPut H a y v H') (ry : RelV y u) (rv : RelV v r) (h : ∀ s', Inv X pins σ H' s' → Q () s') :
    wpAny (model X.prog X.w) A (setItem (.ref a) u r) Q E s := by
  rcases g with ⟨kvs, k, e, ey, l, eH⟩ | ⟨kvs, k, b, e, ey, eb, l, eH⟩
  · subst ey eH
    obtain ⟨z, hd, vs, rel, dd⟩ := dk_of I.hok e
    have hz : vs.length ≤ sizeLine := by rw [← rel.length]; exact z
    have hl : (putK kvs k v).length ≤ sizeLine := by have := length_putK kvs k v; omega
    refine wpAny_setItem_pairs (hsz := hz) (kV_is ry) dd fun h' dd' hs => h _ ?_
    have he : ∃ q, h'.get? a = some q := let ⟨q, _, _, hq, _⟩ := dd'; ⟨q, hq⟩
    exact d_write I (by rw [e]; exact True.intro) hs he (dk_new hl hd (rel.put k rv) dd')
  · subst ey eH
    cases (show u = Value.ref b from ry)
    obtain ⟨z, hd, xs, rel, dd⟩ := dt_of I.hok e
    have hz : xs.length ≤ sizeLine := by rw [← Paired.length rel]; exact z
    have hl : (putK kvs k v).length ≤ sizeLine := by have := length_putK kvs k v; omega
    refine wpAny_setItem_heap (hsz := hz) (tupleKind_room_in1 hu) (key_of I.hok eb) dd fun h' dd' hs => h _ ?_
    obtain ⟨q, es, ep, hq, h2, h3, h4, _, h5⟩ := dd'
    refine d_write I (by rw [e]; exact True.intro) hs ⟨q, hq⟩ ⟨hl, hd, _, (rel.put k eb rv).keeps fun c ys ec => ?_, q, es, ep, hq, h2, h3, h4, h5⟩
    rw [upd_ne (ne_of ec e (fun z => nomatch z))]
    exact ec
end
section
variable {X : Cx} {pins : List (Addr × Obj)} {σ : St} {H : Hp} {s : Shared} {a : Addr} {kvs : List (Key × V)} {k : Key} {u : Value} {A : Around} {E : Value → Shared → Prop}
end
/-! ### readings and rules -/
/-- d[y] = v -/
def sDPut (td ty tv : TE) : TS := fun D σ H => tv σ H fun v H1 => td σ H1 fun x H2 => ty σ H2 fun y H3 => ∃ a H4, x = .ref a ∧ DPut H3 a y v H4 ∧ D.nx σ H4
section
variable {X : Cx} {o i e value : Expr} {pos pos' tpos : Pos} {td ty tv : TE}
theorem ps_dput (hu : X.A.units + 1 < cLine) (ho : PE X o td) (hi : PE X i ty) (hv : PE X value tv) (hs : swapsWith value (some (.Subscript o i pos')) pos.line X.env = pure false) :
    PS X (.Assign [.Subscript o i pos'] value pos) (sDPut td ty tv) := by
  intro pins s σ H D I h
  refine wpAny_Assign_Subscript (thn (hv pins s σ H _ I h) fun r s1 ⟨v, H1, I1, rv, q1⟩ => thn (ho pins s1 σ H1 _ I1 q1) fun u s2 ⟨x, H2, I2, rx, q2⟩ => thn (hi pins s2 σ H2 _ I2 q2) fun iv s3 ⟨y, H3, I3, ry, a, H4, ex, g, q3⟩ => ?_) hs
  subst ex
  obtain rfl : u = Value.ref a := rx
  exact d_setItem hu I3 g ry rv fun s4 I4 => ⟨σ, H4, I4, q3⟩
end
/-! ### displays -/
theorem dk_empty {P : Program} {w : World} {H : Hp} (h : Heap) (hb : sysModules < h.objs.size) : ObjOk P w H (h.push { cls := .type "dict", data := .dict #[] }) h.objs.size (.dK []) :=
  ⟨Nat.zero_le _, beq_eq_false_iff_ne.mpr (Ne.symm (Nat.ne_of_lt hb)), [], .nil, Heap.DictOf.new h⟩
/-- {}, to be a dict of the kind that is wanted -/
def tDNewK : TE := fun _ H Q => ∀ p, H p = none → Q (.ref p) (upd H p (.dK []))
section
variable {X : Cx} {pos : Pos}
theorem pe_dnewK : PE X (.Dict [] [] pos) tDNewK := fun pins s σ H Q I h =>
  wpAny_Dict_empty ⟨.ref s.heap.objs.size, _, I.laid (a := s.heap.objs.size) (o := .dK []) (t' := s.toks) (fun _ _ q => Heap.get?_push_of_some _ q) (Nat.le_refl _) (dk_empty s.heap I.big), rfl, h _ (I.hok.fresh (Nat.le_refl _))⟩
end
/-! ### methods -/
/-- a method call o.m(e) of a built-in, with one argument: what must be seen of the text -/
structure M1 (X : Cx) (o : Expr) (m : Str) (apos : Pos) (e : Expr) (cpos : Pos) : Prop where
  base : attributeBase o m X.env (eval o X.env) = eval o X.env
  few : ((backTo cpos (starEach [e] X.env)).all (fun x => !x.1) && (backToKw cpos (keywordEach [] X.env)).all (fun x => x.1.isSome)
    && decide (([e] : List Expr).length + ([] : List Keyword).length + (if ([] : List Keyword).isEmpty then 0 else 1) < 30)) = true
  line : (apos.endLine == cpos.line) = true
  trees : backTo cpos (starEach [e] X.env) = [(false, eval e X.env)]
/-- a is a dict, whatever its keys -/
def IsD (H : Hp) (a : Addr) : Prop := (∃ kvs, Rd H a (.dK kvs)) ∨ ∃ kvs, Rd H a (.dT kvs)
theorem isD_at {X : Cx} {pins : List (Addr × Obj)} {σ : St} {H : Hp} {s : Shared} {a : Addr} (I : Inv X pins σ H s) (d : IsD H a) :
    s.TypeIs (.ref a) "dict" ∧ (∀ b, Value.ref a = .ref b → ∃ ob, s.heap.get? b = some ob ∧ ob.dict = none) ∧ (a == sysModules) = false := by
  rcases d with ⟨kvs, e⟩ | ⟨kvs, e⟩
  · obtain ⟨_, hd, vs, _, dd⟩ := dk_rd I.hok e
    refine ⟨dd.typeIs, fun b q => ?_, hd⟩
    cases q
    obtain ⟨ob, _, _, h1, h2, _⟩ := dd
    exact ⟨ob, h1, h2.2.1⟩
  · obtain ⟨_, hd, xs, _, dd⟩ := dt_rd I.hok e
    refine ⟨dd.typeIs, fun b q => ?_, hd⟩
    cases q
    obtain ⟨ob, _, _, h1, h2, _⟩ := dd
    exact ⟨ob, h1, h2.2.1⟩

section
variable {X : Cx} {pins : List (Addr × Obj)} {σ : St} {H : Hp} {s : Shared} {a : Addr} {y d : V} {u r : Value} {o : Option V} {A : Around} {E : Value → Shared → Prop}
/-- d.get(y) -/
theorem d_get1 {Q : Value → Shared → Prop} (hu : A.units + 1 < cLine) (I : Inv X pins σ H s) (g : DGet H a y o) (ry : RelV y u) (h : ∀ w' s', Inv X pins σ H s' → RelV (o.getD .non) w' → Q w' s') :
    wpAny (model X.prog X.w) A (call (.builtin "dict.get") [.ref a, u]) Q E s := by
  rcases g with ⟨kvs, k, e, ey, l⟩ | ⟨kvs, k, b, e, ey, eb, l⟩
  · subst ey
    obtain ⟨z, hd, vs, rel, dd⟩ := dk_rd I.hok e
    refine call_meetsIn PySem.F.slot_dict_get dd.typeIs PySem.F.entry_dict_get (PySem.F.args_dict_get_2 _ _) (meets_dict_get (mixKind X.prog X.w) a (kV_is ry) hd) ⟨_, dd.mapOf, h _ _ (I.tok _) ?_⟩
    rw [l]
    exact (rel.val k).getD rfl
  · subst ey
    cases (show u = Value.ref b from ry)
    obtain ⟨z, hd, xs, rel, dd⟩ := dt_rd I.hok e
    refine call_meetsIn PySem.F.slot_dict_get dd.typeIs PySem.F.entry_dict_get (PySem.F.args_dict_get_2 _ _) (meetsH_dict_get (tupleKind (mixKind X.prog X.w)) a b hd) ⟨tupleKind_room_in1 hu, k, xs, key_of I.hok eb, dd, h _ _ (I.tok _) ?_⟩
    rw [l]
    exact (rel.val k).getD rfl
end
def tDGet1 (td ty : TE) : TE := fun σ H Q => td σ H fun x H1 => ∃ a, x = .ref a ∧ IsD H1 a ∧ ty σ H1 fun y H2 => ∃ o, DGet H2 a y o ∧ Q (o.getD .non) H2
section
variable {X : Cx} {o e f : Expr} {apos cpos : Pos} {td ty tx : TE}
theorem pe_dget1 (hu : X.A.units + 1 < cLine) (ho : PE X o td) (he : PE X e ty) (m : M1 X o "get" apos e cpos) : PE X (.Call (.Attribute o "get" apos) [e] [] cpos) (tDGet1 td ty) := by
  intro pins s σ H Q I h
  refine wpAny_Call_method m.base m.few m.line PySem.F.plainAttrs_dict PySem.F.slot_dict_get PySem.F.type_dict_get (thn (ho pins s σ H _ I h) fun u s1 ⟨x, H1, I1, rx, a, ex, d, q1⟩ => ?_)
  subst ex
  obtain rfl : u = Value.ref a := rx
  obtain ⟨t1, t2, _⟩ := isD_at I1 d
  refine ⟨t1, t2, ?_⟩
  rw [m.trees]
  refine Calls.callWith_builtin rfl (Calls.evalArgs_plain (Calls.spliced_cons (thn (he pins s1 σ H1 _ I1 q1) fun iv s2 ⟨y, H2, I2, ry, ov, g, q2⟩ => Calls.spliced_nil ?_)))
  exact d_get1 hu I2 g ry fun w' s3 I3 rw' => ⟨_, H2, I3, rw', q2⟩
end
/-! ### dict(d): a copy -/
section
variable {X : Cx} {pins : List (Addr × Obj)} {σ : St} {H : Hp} {s : Shared} {a : Addr} {kvs : List (Key × V)} {A : Around} {E : Value → Shared → Prop}
end
section
variable {X : Cx} {pins : List (Addr × Obj)} {σ : St} {H : Hp} {s : Shared} {a : Addr} {y : V} {u : Value} {A : Around} {E : Value → Shared → Prop}
end
end L2
namespace L2
open PySem PySem.Spec PyProof.Rows
section
variable {prog : Program} {w : World} {A : Around} {E : Value → Shared → Prop}
end
section
variable {X : Cx}
end
end L2
namespace L2
open PySem PySem.Spec PyProof.Rows
section
variable {X : Cx} {pins : List (Addr × Obj)} {σ : St} {H : Hp} {s : Shared} {h' : Heap}
/-- .. and one new object is laid -/
theorem Inv.turnedNew {t' : Nat} {ch : List Addr} {T : Addr} {ob : HO} (I : Inv X pins σ H s) (k : ∀ b o, b ∉ ch → s.heap.get? b = some o → h'.get? b = some o) (hf : ∀ b ∈ ch, FpOk X pins H b) (hT : s.heap.objs.size ≤ T)
    (new : ObjOk X.prog X.w (upd H T ob) h' T ob) : Inv X pins σ (upd H T ob) { s with heap := h', toks := t' } := by
  have hn : H T = none := I.hok.fresh hT
  have nit : ∀ b u, H b = some u → b ∉ ch := fun b u e z => by
    have q := (hf b z).1
    rw [q] at e; cases e
  refine I.step (g' := s.gens) (d' := s.drawn) (ch := ch) (fun b hb => ⟨(hf b hb).2.2.2.1, (hf b hb).2.1, (hf b hb).2.2.2.2.1, (hf b hb).2.2.2.2.2⟩) (fun b o _ _ hc e _ => k b o hc e) (fun b o _ _ hc e _ => ⟨o.slots, k b o hc e⟩)
    (fun b o _ e n => ?_) (fun b o hc e => ⟨o, k b o hc e⟩) (fun b xs e => ?_) (fun b o u e => ?_) (fun b ps e => ⟨#[], ?_⟩) (fun m hm => ?_) (fun b u e => ?_) I.bare
  · rw [upd_ne (Nat.ne_of_lt (Nat.lt_of_lt_of_le (Heap.lt_size e) hT))]; exact n
  · rw [upd_ne (ne_of_none e hn)]; exact e
  · rw [upd_ne (ne_of_none e hn)]; exact e
  · rw [upd_ne (ne_of_none e hn), e]; simp
  · obtain ⟨o, es, ep, ho, r⟩ := hm
    exact ⟨o, es, ep, k _ o (fun z => (hf _ z).2.1 rfl) ho, r⟩
  · by_cases hb : b = T
    · subst hb
      rw [upd_same] at e
      cases e
      exact new
    · rw [upd_ne hb] at e
      refine (I.hok b u e).stay (fun c v hc q => k c v ?_ q) (fun c q => by rw [upd_ne (ne_of_none q hn)]; exact q) fun c xs q => by rw [upd_ne (ne_of_none q hn)]; exact q
      rcases hc with z | z
      · rw [z]; exact nit b u e
      · exact nit c _ z

/-! ### locking a thing while a statement runs -/
end
section
variable {X : Cx}
/-! ### one iterator just laid -/
theorem pi_one {tg : Expr} {pins : List (Addr × Obj)} {σ : St} {H : Hp} {s : Shared} {R : It → Hp → Prop} {J : It} {tn : Nat → Heap → Prop} {tk : Nat} (I : Inv X pins σ H s) (o : Obj)
    (T : Turn X.prog X.w X.K tg J [s.heap.objs.size] s.heap.objs.size tn) (st : tn 0 (s.heap.push o)) (q : R J H) : PIE X pins σ tg R (.ref s.heap.objs.size) { s with heap := s.heap.push o, toks := tk } := by
  refine ⟨s.heap.objs.size, [s.heap.objs.size], tn, J, H, rfl, I.kept fun b ob e => Heap.get?_push_of_some _ e, T, st, fun b hb => ?_, q⟩
  have e : b = s.heap.objs.size := by simpa using hb
  subst e
  exact I.fpOk (Nat.le_refl _) (I.hok.fresh (Nat.le_refl _))
end
/-! ### range with a step -/
/-- lo, lo + c, .. (n of them) -/
def Itc (lo c : Int) (n : Nat) : It := ⟨fun i _ => i < n, fun i H x H' => H' = H ∧ x = .int (lo + (i : Nat) * c), fun i _ => n ≤ i⟩
theorem turn_rangeC {P : Program} {w : World} {K : PySem.W.Frag} {tg : Expr} (it : Addr) (lo c : Int) (n : Nat) : Turn P w K tg (Itc lo c n) [it] it (fun i h => IsRangeIter h it (lo + (i : Nat) * c) ((n : Int) - (i : Nat)) c) where
  mem := by simp
  obj := fun i h st b hb => by
    have e : b = it := by simpa using hb
    subst e
    exact ⟨_, st, fun v z => nomatch z⟩
  keep := fun i h h' st k => k it (by simp) _ st
  item := by
    intro X hP hw hK hc i pins s σ H E I hf st hg
    subst hP hw hK
    obtain ⟨f0, f1, f2, f3, f4, f5⟩ := hf it (by simp)
    have W := Walks.range (prog := X.prog) (w := X.w) (I.ok.hd hc) it lo c n
    refine W.item i s _ _ hg st fun v h' tk hv st' kk => ?_
    obtain ⟨t, rfl⟩ := hv
    have I1 : Inv X pins σ H { s with heap := h', toks := tk } := I.turned (fun b o hb e => kk b o (by simpa using hb) e) f0 f1 f3 f4 f5
    exact ⟨_, rfl, go_of (s := { s with heap := h', toks := tk }) (n := "range_iterator") st' rfl rfl (by decide) ⟨.int (lo + (i : Nat) * c), H, I1, ⟨t, rfl⟩, ⟨rfl, rfl⟩, st', fun b hb => (hf b hb).1⟩⟩
  done := by
    intro X hP hw hK hc i pins s σ H E I hf st hg
    subst hP hw hK
    obtain ⟨f0, f1, f2, f3, f4, f5⟩ := hf it (by simp)
    exact wpAny_pyNext_range_end (I.ok.hd hc) st (by have : n ≤ i := hg; omega) fun h' eb => ⟨rfl, I.turned (t' := s.toks) (fun b o hb e => eb b o hb e) f0 f1 f3 f4 f5⟩
  self := fun A i s Q E st h => wpAny_pyIter_rangeiter st h
/-- range(i, j, c): small bounds, n items -/
def RgC (i j c : Int) (n : Nat) : Prop := c ≠ 0 ∧ c.natAbs < 1073741824 ∧ Builtin.Range.small i j c = true ∧ Builtin.Range.rangeSize i j c = n
def iRng3 (ta : TA) : TI := fun σ H R => ta σ H fun vs H1 => ∃ (i j c : Int) (n : Nat), vs = [.int i, .int j, .int c] ∧ RgC i j c n ∧ R (Itc i c n) H1
section
variable {X : Cx} {tg : Expr}
theorem pi_range3 {a b c : Expr} {ta : TA} {p pos : Pos} (hg : Gl X "range") (hm : X.mg "range" = none) (ha : PA X [a, b, c] ta)
    (hs : starEach [a, b, c] X.env = (false, eval a X.env) :: starEach [b, c] X.env := by rfl) (hpl : (backTo pos (starEach [b, c] X.env)).any (·.1) = false := by rfl) :
    PI X tg (.Call (.Name "range" p) [a, b, c] [] pos) (iRng3 ta) := by
  intro pins s σ H R I h
  refine Call_ (ld_blt I hg hm boot_range (PyProof.Rows.callWith_type1 (thn (ha pos pins s σ H _ I h) fun us s1 ⟨vs, H1, I1, r1, q1⟩ => ?_) hs hpl))
  obtain ⟨i, j, k, n, e, ⟨c0, c1, c2, c3⟩, q⟩ := q1
  subst e
  cases r1 with
  | cons r rr =>
    cases rr with
    | cons r' rr =>
      cases rr with
      | cons r'' rr =>
        cases rr
        obtain ⟨t, rfl⟩ := r
        obtain ⟨t', rfl⟩ := r'
        obtain ⟨t'', rfl⟩ := r''
        refine call_range_3 c0 ?_ (.inl (PyProof.noPylong_small c1))
        refine wpAny_pyIter_range (IsRange.new ..) c2 ?_
        have I2 : Inv X pins σ H1 { s1 with heap := s1.heap.push { cls := .type "range", data := .fields #[.int i t, .int j t', .int k t''] } } := I1.kept (t' := s1.toks) fun b o e => Heap.get?_push_of_some _ e
        refine pi_one (tk := s1.toks) I2 _ (turn_rangeC _ i k n) ?_ q
        have e1 : i + ((0 : Nat) : Int) * k = i := by simp
        have e2 : (n : Int) - ((0 : Nat) : Int) = Builtin.Range.rangeSize i j k := by rw [c3]; simp
        show IsRangeIter _ _ (i + ((0 : Nat) : Int) * k) ((n : Int) - ((0 : Nat) : Int)) k
        rw [e1, e2]
        exact Heap.get?_push_size _ rfl
end
/-! ### reversed(list) -/
section
variable {X : Cx} {tg : Expr}
end
/-! ### a str -/
/-! ### a dict's keys: any dict's entries -/
section
variable {prog : Program} {w : World} {A : Around} {E : Value → Shared → Prop} {s : Shared}
end
/-! ### a locked dict -/
section
variable {X : Cx} {pins : List (Addr × Obj)} {σ : St} {H : Hp} {s : Shared} {d : Addr} {o : Obj}
end
section
variable {P : Program} {w : World} {K : PySem.W.Frag} {tg : Expr} {d : Addr} {o : Obj} {es : Array DictEntry} {ep : Nat}
end
/-! ### for k in d, d.keys(), d.values(), d.items() -/
section
variable {X : Cx} {tg e : Expr} {td : TE} {apos cpos : Pos}
end
/-! ### enumerate(list) -/
/-- the list at a as it stands at each turn, each item in a new pair -/
def Ite (K : PySem.W.Frag) (a : Addr) : It :=
  ⟨fun i H => ∃ (xs : List V) (x : V), SqL K H a xs ∧ xs[i]? = some x, fun i H v H' => ∃ T x, v = .ref T ∧ H T = none ∧ H' = upd H T (.tup [.int (i : Nat), x]) ∧ ∀ xs, SqL K H a xs → xs[i]? = some x, fun i H => ∃ xs : List V, SqL K H a xs ∧ xs.length ≤ i⟩
theorem turn_enum {P : Program} {w : World} {K : PySem.W.Frag} {elts : List Expr} {kk : Nat} {tpos : Pos} (a e it : Addr) :
    Turn P w K (.Tuple elts kk tpos) (Ite K a) [e, it] e (fun i h => (∃ old, IsEnum h e it ((i : Nat) : Int) old) ∧ h.IsListIter it a i ∧ e ≠ it) where
  mem := by simp
  obj := fun i h st b hb => by
    obtain ⟨⟨old, he⟩, ⟨o, ho, hc, hd⟩, _⟩ := st
    have e' : b = e ∨ b = it := by simpa using hb
    rcases e' with z | z
    · rw [z]; exact ⟨_, he, fun v q => nomatch q⟩
    · rw [z]; exact ⟨o, ho, fun v q => by rw [hd] at q; cases q⟩
  keep := fun i h h' st k => let ⟨⟨old, he⟩, hi, hne⟩ := st; ⟨⟨old, k e (by simp) _ he⟩, hi.at fun o q => k it (by simp) o q, hne⟩
  item := by
    intro X hP hw hK hc i pins s σ H E I hf st hg
    subst hP hw hK
    obtain ⟨⟨old, he⟩, hit, hne⟩ := st
    obtain ⟨xs, x, hq, hx⟩ := hg
    obtain ⟨its, rv, p, hz⟩ := I.list hq
    obtain ⟨u, hu, ru⟩ := rv.get hx
    have hel : e < s.heap.objs.size := Heap.lt_size he
    have hil : it < s.heap.objs.size := by obtain ⟨_, q, _⟩ := hit; exact Heap.lt_size q
    refine wpAny_pyNext_enum_item he hit p.isList (x := u) (by simpa using hu) hne fun h' ho hit' hT hsz hk => ?_
    refine ⟨_, rfl, wpAny_letOwnedTupleGo_enum (s := { s with heap := h', toks := s.toks + 1 }) ho fun h'' he' sb => ?_⟩
    have hT2 : h''.get? s.heap.objs.size = some { cls := .type "tuple", data := .seq #[.int i s.toks, u] } := (sb.2 _ (Nat.ne_of_gt hel)).trans hT
    have new : ObjOk X.prog X.w (upd H s.heap.objs.size (.tup [.int (i : Nat), x])) h'' s.heap.objs.size (.tup [.int (i : Nat), x]) :=
      ⟨by show 2 ≤ sizeLine; decide, [.int i s.toks, u], .cons ⟨_, rfl⟩ (.cons ru .nil), ⟨_, hT2, rfl, _, rfl⟩⟩
    have I1 : Inv X pins σ (upd H s.heap.objs.size (.tup [.int (i : Nat), x])) { s with heap := h'', toks := s.toks + 1 } :=
      I.turnedNew (ch := [e, it]) (fun b ob hb q => (sb.2 b (fun z => hb (by simp [z]))).trans (hk b ob (fun z => hb (by simp [z])) (fun z => hb (by simp [z])) q)) hf (Nat.le_refl _) new
    refine ⟨.ref s.heap.objs.size, _, I1, rfl, ⟨_, x, rfl, I.hok.fresh (Nat.le_refl _), rfl, fun ys hy => by rw [I.list_inj hy hq]; exact hx⟩, ⟨⟨u, ?_⟩, hit'.at fun o q => (sb.2 it (Ne.symm hne)).trans q, hne⟩, fun b hb => ?_⟩
    · have e1 : ((i + 1 : Nat) : Int) = (i : Int) + 1 := by omega
      rw [e1]; exact he'
    · have hb' : b < s.heap.objs.size := by
        have e' : b = e ∨ b = it := by simpa using hb
        rcases e' with z | z
        · rw [z]; exact hel
        · rw [z]; exact hil
      rw [upd_ne (Nat.ne_of_lt hb')]
      exact (hf b hb).1
  done := by
    intro X hP hw hK hc i pins s σ H E I hf st hg
    subst hP hw hK
    obtain ⟨⟨old, he⟩, hit, hne⟩ := st
    obtain ⟨xs, hq, hx⟩ := hg
    obtain ⟨its, rv, p, hz⟩ := I.list hq
    obtain ⟨f0, f1, f2, f3, f4, f5⟩ := hf it (by simp)
    have hl := rv.length
    exact wpAny_pyNext_enum_end (I.ok.hd hc) he hit p.isList (by simp; omega) fun h' eb => ⟨rfl, I.turned (t' := s.toks) (fun b o hb q => eb b o hb q) f0 f1 f3 f4 f5⟩
  self := fun A i s Q E st h => let ⟨⟨_, he⟩, _⟩ := st; wpAny_pyIter_enum he h
def iEnum (K : PySem.W.Frag) (ta : TA) : TI := fun σ H R => ta σ H fun vs H1 => ∃ a xs, vs = [.ref a] ∧ SqL K H1 a xs ∧ R (Ite K a) H1
theorem pi_enum {X : Cx} {e : Expr} {ta : TA} {p pos tpos : Pos} {elts : List Expr} {kk : Nat} (hg : Gl X "enumerate") (hm : X.mg "enumerate" = none) (ha : PA X [e] ta) (hs : starEach [e] X.env = [(false, eval e X.env)] := by rfl) :
    PI X (.Tuple elts kk tpos) (.Call (.Name "enumerate" p) [e] [] pos) (iEnum X.K ta) := by
  intro pins s σ H R I h
  refine Call_ (ld_blt I hg hm boot_enumerate (PyProof.Rows.callWith_type1 (thn (ha pos pins s σ H _ I h) fun us s1 ⟨vs, H1, I1, r1, q1⟩ => ?_) hs rfl))
  obtain ⟨a, xs, ex, hq, q⟩ := q1
  subst ex
  cases r1 with
  | cons r rr =>
    cases rr
    cases r
    obtain ⟨its, rv, p', hz⟩ := I1.list hq
    refine call_enumerate_list p'.isList fun h' he hit hsz hk => wpAny_pyIter_enum he ?_
    have I2 : Inv X pins σ H1 { s1 with heap := h' } := I1.kept (t' := s1.toks) hk
    refine ⟨s1.heap.objs.size + 1, [s1.heap.objs.size + 1, s1.heap.objs.size], _, _, H1, rfl, I2, turn_enum a (s1.heap.objs.size + 1) s1.heap.objs.size, ⟨⟨.none, he⟩, hit, Nat.succ_ne_self _⟩, fun b hb => ?_, q⟩
    have e' : b = s1.heap.objs.size + 1 ∨ b = s1.heap.objs.size := by simpa using hb
    have hle : s1.heap.objs.size ≤ b := by
      rcases e' with z | z
      · rw [z]; exact Nat.le_add_right _ _
      · rw [z]; exact Nat.le_refl _
    exact I1.fpOk hle (I1.hok.fresh hle)
/-! ### zip(list, list) -/
end L2
section 
namespace Bits
open PySem PyProof.Rows
end Bits
end 
section 
namespace TL
open PySem PySem.Builtin PySem.Builtin.Str PySem.StrLaws
/-! ### the list functions -/
/-! ### the model's split and partition are these -/
/-! ### computing spl and par -/
/-! ### digits -/
/-! ### words: x.split() -/
end TL
end 
namespace L2
open PySem PySem.Spec PyProof.Rows
section
variable {X : Cx} {pins : List (Addr × Obj)} {σ : St} {H : Hp} {s : Shared} {Q : VK}
end
section
variable {X : Cx}
/-! ### of a text alone -/
/-! ### of a text and a text -/
end
section
variable {X : Cx} {o e : Expr} {to te : TE}
end
end L2
namespace L2
open PySem PySem.Spec PyProof.Rows
section
variable {X : Cx}
end
/-! ### slices of a text -/
end L2
namespace Att
open PySem PySem.W PySem.Calls PyProof.Rows
/-! ### the script -/
/-! ### the attachment: holds_open's last premise (the goal 'hc' behind k_head) from a wpAny of the law's body -/
/-! ### rules over ANY heap (no ledger) from facts about the written part K: the library's own take a ledger (News) for what they write -/
section
variable {prog : Program} {w : World} {A : Around} {E : Value → Shared → Prop} {s : Shared} {K : Frag}
/-! the whole heap as the ledger: makes every rule that writes through a ledger a rule over any heap -/
end
end Att
namespace L2
open PySem PySem.Spec PyProof.Rows
end L2
namespace L2
open PySem PySem.Spec PyProof.Rows
end L2
/- THE LAST THEOREM (shape; LID, My.* are yours):
   My.Adr: a structure of the addresses that your layer names (classes, functions); My.Txt K t: a structure (Prop) of the equations over K;
   My.txt_mk : {K} {implicit addresses ..} (e1 : nsIn K mainGlobals "law" = some (some (.ref f))) (e2 : K.lookup f = some ⟨oc, od, .func (fnOf "law" "law" params body scope dV kV doc pm an cdv ct), sl⟩) (e3 : codeIn K cdv "law" = true) .. : ∃ t, My.Txt K t
set_option maxRecDepth 100000 in
(the tactic k_is has no namespace: write k_is) -/
/-! SHORT WORDS over the layer: a def of the text, its body, what a loop and a test want. -/
namespace L2
open PySem PySem.Spec PyProof.Rows
/-! ### the text by places -/
/-- the j-th statement of a class's body -/
def inClass (s : Stmt) (j : Nat) : Stmt := match s with
  | .ClassDef _ _ _ body _ _ _ _ _ _ _ => body.getD j (.Pass ⟨0, 0, 0, 0⟩)
  | _ => .Pass ⟨0, 0, 0, 0⟩
def defArgs (s : Stmt) : Arguments := match s with
  | .FunctionDef _ a _ _ _ _ _ _ _ _ => a
  | _ => { posonlyargs := [], args := [], vararg := none, kwonlyargs := [], kw_defaults := [], kwarg := none, defaults := [] }
def defBody (s : Stmt) : List Stmt := match s with
  | .FunctionDef _ _ b _ _ _ _ _ _ _ => b
  | _ => []
def defScope (s : Stmt) : Scope := match s with
  | .FunctionDef _ _ _ _ _ _ sc _ _ _ => sc
  | _ => { kind := .function, names := [], isGenerator := false, isCoroutine := false }

/-! ### no exception leaves a def -/
abbrev CX0 : CXT := fun _ _ _ _ _ _ => False
abbrev E0 : XK := fun _ _ _ => False
theorem pass0 {X : Cx} : Passes CX0 X E0 := fun _ _ _ _ _ _ _ h => h.elim

/-! ### a def (or method) of the text as it stands behind the top -/
structure Fun (K : PySem.W.Frag) (x qual : Str) (st : Stmt) (f : Addr) (fd : FuncData) : Prop where
  ex : ∃ (oc : Value) (od : Option Addr) (kV doc pm : Value) (an : Option Addr) (cdv ct : Value) (osl : Array (Option Value)),
    fd = PySem.W.fnOf x qual (defArgs st) (defBody st) (defScope st) .none kV doc pm an cdv ct ∧ K.lookup f = some ⟨oc, od, .func fd, osl⟩ ∧ PySem.W.codeIn K cdv qual = true
  kp : PySem.W.keepIn K (.ref f) = true
section
variable {P : Program} {w : World} {K : PySem.W.Frag} {mg : Str → Option Value} {base : Heap}
/-- THE RULE for a def: its body as a term of rules, and the reading of that term -/
theorem Fun.ok {x qual : Str} {st : Stmt} {f : Addr} {fd : FuncData} {N ps : List Str} {k : Nat} {sp : Sp} (F : Fun K x qual st f fd) (S : FnScope N ps (defScope st)) (len : ∀ vs H Q E, sp vs H Q E → vs.length = ps.length)
    (hbody : ∀ (cdv : Value) (A : Around) (outer : List Env) (s : Shared) (H : Hp) (vs : List V) (Q : VK) (E : XK), Room k (A.deeper (envOfC qual (defScope st) s.heap.objs.size f cdv)) → sp vs H Q E →
      ∃ t, PSs (cxOf CX0 P w K mg base N qual (defScope st) f cdv A outer s H E).nox (defBody st) t ∧ t { nx := fun _ H' => Q .non H', rt := Q } (start N vs) H) : FnOk P w K mg base CX0 (k + 1) f fd ps sp := by
  obtain ⟨oc, od, kV, doc, pm, an, cdv, ct, osl, rfl, lk, hcd⟩ := F.ex
  refine fn_of lk hcd S len fun A outer s H vs Q E hr hsp => ?_
  obtain ⟨t, h, q⟩ := hbody cdv A outer s H vs Q E hr hsp
  exact ⟨t, h.nox, q⟩
/-- how its arguments bind (no defaults): h is «fun _ _ _ _ _ _ us hl => match us, hl with | [_, _], _ => rfl», one _ a parameter -/
theorem Fun.binds {x qual : Str} {st : Stmt} {f : Addr} {fd : FuncData} {ps : List Str} (F : Fun K x qual st f fd)
    (h : ∀ (kV doc pm : Value) (an : Option Addr) (cdv ct : Value) (us : List Value), us.length = ps.length → bindArgs (PySem.W.fnOf x qual (defArgs st) (defBody st) (defScope st) .none kV doc pm an cdv ct) ⟨us, []⟩ = pure (ps.zip us)) : Binds K fd ps [] := by
  obtain ⟨oc, od, kV, doc, pm, an, cdv, ct, osl, rfl, lk, hcd⟩ := F.ex
  exact .all (h kV doc pm an cdv ct)
theorem fun_mk {x qual : Str} {st : Stmt} {f : Addr} {oc : Value} {od an : Option Addr} {osl : Array (Option Value)} {kV doc pm cdv ct : Value} (l : K.lookup f = some ⟨oc, od, .func (PySem.W.fnOf x qual (defArgs st) (defBody st) (defScope st) .none kV doc pm an cdv ct), osl⟩)
    (c : PySem.W.codeIn K cdv qual = true) (k : PySem.W.keepIn K (.ref f) = true) : Fun K x qual st f (PySem.W.fnOf x qual (defArgs st) (defBody st) (defScope st) .none kV doc pm an cdv ct) := ⟨⟨oc, od, kV, doc, pm, an, cdv, ct, osl, rfl, l, c⟩, k⟩
end
theorem hu_of {A : Around} {k : Nat} (hr : Room k A) : A.units + 1 < cLine := Nat.lt_of_le_of_lt (Nat.add_le_add_left (by decide : 1 ≤ 64) _) hr.units
/-! ### expressions in short: the name that stands in the i-th slot -/
section
variable {X : Cx}
theorem pv (i : Nat) {x : Str} {pos : Pos} (hN : X.N[i]? = some x := by rfl) (hv : Vis X.env.scope x := by first | exact Or.inl rfl | exact Or.inr (Or.inl rfl) | exact Or.inr (Or.inr rfl)) (hd : (x == ("__debug__" : Str)) = false := by decide)
    (hcd : (x == ("__classdict__" : Str)) = false := by decide) : PE X (.Name x pos) (tVar i) := pe_var hN hv hd hcd
end
/-! ### tests -/
theorem iteF {A B : Prop} (h : B) : if false = true then A else B := by
  rw [if_neg Bool.false_ne_true]
  exact h
theorem iteT {A B : Prop} (h : A) : if true = true then A else B := by
  rw [if_pos rfl]
  exact h
theorem ite2 {c A B : Prop} [Decidable c] (h1 : c → A) (h2 : ¬ c → B) : if c then A else B := by
  by_cases h : c
  · rw [if_pos h]
    exact h1 h
  · rw [if_neg h]
    exact h2 h
/-! ### heaps -/
/-- all that was tracked is as it was -/
def Same (H H' : Hp) : Prop := ∀ b o, H b = some o → H' b = some o
theorem Same.refl (H : Hp) : Same H H := fun _ _ h => h
theorem Same.trans {H H1 H2 : Hp} (a : Same H H1) (b : Same H1 H2) : Same H H2 := fun c o h => b c o (a c o h)
theorem Same.free {H H' : Hp} (e : Same H H') {l : Addr} (h : H' l = Option.none) : H l = Option.none := by
  cases q : H l with
  | none => rfl
  | some o =>
    rw [e l o q] at h
    cases h
theorem Same.seq {K : PySem.W.Frag} {H H' : Hp} {a : Addr} {xs : List V} (e : Same H H') (h : SqL K H a xs) : SqL K H' a xs := by
  rcases h with (h | ⟨o, h⟩) | h
  · exact .inl (.inl (e _ _ h))
  · exact .inl (.inr ⟨o, e _ _ h⟩)
  · exact .inr h

/-! ### a dict's pairs: keys that differ -/
section
variable {κ : Type} [DecidableEq κ]
theorem valV_not {kvs : List (κ × V)} {k : κ} (h : valV kvs k = none) : ¬ k ∈ kvs.map (·.1) := by
  intro m
  obtain ⟨p, hp, e⟩ := List.mem_map.mp m
  have q : (kvs.any fun kv => decide (kv.1 = k)) = true := List.any_eq_true.mpr ⟨p, hp, decide_eq_true e⟩
  rw [valV_any, h] at q
  exact absurd q (by simp)
theorem nd_snoc : ∀ {l : List κ} {k : κ}, l.Nodup → ¬ k ∈ l → (l ++ [k]).Nodup
  | [], k, _, _ => by simp
  | a :: r, k, h, hk => by
    obtain ⟨h1, h2⟩ := List.nodup_cons.mp h
    show (a :: (r ++ [k])).Nodup
    refine List.nodup_cons.mpr ⟨fun m => ?_, nd_snoc h2 fun m => hk (List.mem_cons.mpr (Or.inr m))⟩
    rcases List.mem_append.mp m with q | q
    · exact h1 q
    · exact hk (List.mem_cons.mpr (Or.inl (List.mem_singleton.mp q).symm))
theorem nd_putK {kvs : List (κ × V)} {k : κ} (v : V) (hn : (kvs.map (·.1)).Nodup) (h : valV kvs k = none) : ((putK kvs k v).map (·.1)).Nodup := by
  rw [putK_new v h, List.map_append]
  exact nd_snoc hn (valV_not h)
end
/-! ### lists -/
theorem at_of {xs : List V} {z : Int} {j : Nat} {v : V} (e : z = (j : Int)) (h : xs[j]? = some v) : atI xs z = some v := by
  rw [e]
  exact atI_nat h
theorem nd_ix {α : Type} {l : List α} (hN : l.Nodup) {i j : Nat} {x : α} (a : l[i]? = some x) (b : l[j]? = some x) : i = j := by
  obtain ⟨h1, e1⟩ := List.getElem?_eq_some_iff.mp a
  obtain ⟨h2, e2⟩ := List.getElem?_eq_some_iff.mp b
  exact (List.getElem_inj hN).mp (e1.trans e2.symm)
/-- a new instance and its __init__ leave all that was tracked as it was -/
theorem Same.made {H H1 : Hp} {x dx C : Addr} (nx : H x = Option.none) (nd : H dx = Option.none) (k : ∀ b o, (upd (upd H dx (.own x)) x (.ins C dx [])) b = some o → b ≠ x → H1 b = some o) : Same H H1 := fun b o e =>
  k b o (by rw [upd_ne (ne_of_none e nx), upd_ne (ne_of_none e nd)]; exact e) (ne_of_none e nx)
end L2
end
section
section
set_option Elab.async false
set_option linter.all false
set_option maxRecDepth 100000
set_option maxHeartbeats 2000000
namespace L2
open PySem PySem.Spec PyProof.Rows
open PySem.W (WData Codec OpenSpec Well WellAll ReadsW ReadsAllW)
/-! ### an answer as data -/
mutual
/-- x stands for the datum d, lists and tuples all the way -/
inductive Dw (K : PySem.W.Frag) (H : Hp) : V → WData → Prop
  | non : Dw K H .non .none
  | bl (b : Bool) : Dw K H (.bl b) (.bool b)
  | int (i : Int) : Dw K H (.int i) (.int i)
  | str (x : Str) : Dw K H (.str x) (.str x)
  | byt (b : Array UInt8) : Dw K H (.byt b) (.bytes b.toList)
  | lst {a : Addr} {xs : List V} {ds : List WData} : SqL K H a xs → DwAll K H xs ds → Dw K H (.ref a) (.list ds)
  | tup {a : Addr} {xs : List V} {ds : List WData} : SqT K H a xs → DwAll K H xs ds → Dw K H (.ref a) (.tuple ds)
inductive DwAll (K : PySem.W.Frag) (H : Hp) : List V → List WData → Prop
  | nil : DwAll K H [] []
  | cons {v : V} {vs : List V} {d : WData} {ds : List WData} : Dw K H v d → DwAll K H vs ds → DwAll K H (v :: vs) (d :: ds)
end
theorem dw_ints {K : PySem.W.Frag} {H : Hp} : ∀ ns : List Int, DwAll K H (ns.map V.int) (ns.map WData.int)
  | [] => .nil
  | n :: r => .cons (.int n) (dw_ints r)
theorem ints_dw {K : PySem.W.Frag} {H : Hp} : ∀ (ns : List Int) (xs : List V), DwAll K H xs (ns.map WData.int) → xs = ns.map V.int
  | [], xs, h => by
    cases h
    rfl
  | n :: r, xs, h => by
    cases h with
    | cons h1 h2 =>
      cases h1
      rw [ints_dw r _ h2] <;> rfl
section
variable {P : Program} {w : World} {K : PySem.W.Frag} {H : Hp} {h : Heap} {R : PySem.W.WRecords} {cl : Str → Option Addr}
theorem sqL_at {a : Addr} {xs : List V} (hok : HOk P w H h) (KX : K.In h) (q : SqL K H a xs) : ∃ (its : List Value) (o : Obj) (n : Nat), Vals xs its ∧ h.get? a = some o ∧ o.cls = .type "list" ∧ o.data = .seq its.toArray n := by
  rcases q with q | ⟨o, its, n, e, hc, _, hd, _, hv⟩
  · obtain ⟨_, its, n, hv, e⟩ := (show ObjOk P w H h a (.lst xs) from q.ok hok)
    exact ⟨its, _, n, hv, e, rfl, rfl⟩
  · exact ⟨its.toList, o, n, hv, KX _ _ e, hc, by simp [hd]⟩
theorem sqT_at {a : Addr} {xs : List V} (hok : HOk P w H h) (KX : K.In h) (q : SqT K H a xs) : ∃ (its : List Value) (o : Obj) (n : Nat), Vals xs its ∧ h.get? a = some o ∧ o.cls = .type "tuple" ∧ o.data = .seq its.toArray n := by
  rcases q with q | ⟨o, its, n, e, hc, hd, _, hv⟩
  · obtain ⟨_, its, hv, o, e, hc, n, hd⟩ := (show ObjOk P w H h a (.tup xs) from q.ok hok)
    exact ⟨its, o, n, hv, e, hc, hd⟩
  · exact ⟨its.toList, o, n, hv, KX _ _ e, hc, by simp [hd]⟩
mutual
theorem Dw.reads (hok : HOk P w H h) (KX : K.In h) : ∀ (d : WData) (v : V) (u : Value), Dw K H v d → RelV v u → ∃ as, ReadsW R cl h u d as
  | .none, _, _, x, r => by
    cases x
    cases r
    exact ⟨_, ReadsW.none⟩
  | .bool b, _, _, x, r => by
    cases x
    cases r
    exact ⟨_, ReadsW.bool b⟩
  | .int i, _, _, x, r => by
    cases x
    obtain ⟨t, rfl⟩ := r
    exact ⟨_, ReadsW.int i t⟩
  | .str s, _, _, x, r => by
    cases x
    obtain ⟨t, rfl⟩ := r
    exact ⟨_, ReadsW.str s t⟩
  | .bytes b, _, _, x, r => by
    cases x
    obtain ⟨t, rfl⟩ := r
    exact ⟨_, ReadsW.bytes _ t⟩
  | .list ds, _, _, x, r => by
    cases x with
    | lst hs ha =>
      cases r
      obtain ⟨its, o, n, rv, ho, hc, hd⟩ := sqL_at hok KX hs
      obtain ⟨as, hr⟩ := Dw.readsAll hok KX ds _ its ha rv
      exact ⟨_, ReadsW.list ho hc hd hr⟩
  | .tuple ds, _, _, x, r => by
    cases x with
    | tup hs ha =>
      cases r
      obtain ⟨its, o, n, rv, ho, hc, hd⟩ := sqT_at hok KX hs
      obtain ⟨as, hr⟩ := Dw.readsAll hok KX ds _ its ha rv
      exact ⟨_, ReadsW.tuple ho hc hd hr⟩
  | .float _, _, _, x, _ => by cases x
  | .dict _, _, _, x, _ => by cases x
  | .bytearray _, _, _, x, _ => by cases x
  | .set _, _, _, x, _ => by cases x
  | .frozenset _, _, _, x, _ => by cases x
  | .obj _ _, _, _, x, _ => by cases x
theorem Dw.readsAll (hok : HOk P w H h) (KX : K.In h) : ∀ (ds : List WData) (vs : List V) (us : List Value), DwAll K H vs ds → Vals vs us → ∃ as, ReadsAllW R cl h us ds as
  | [], _, _, x, r => by
    cases x
    cases r
    exact ⟨_, ReadsAllW.nil⟩
  | d :: ds, _, _, x, r => by
    cases x with
    | cons h1 h2 =>
      cases r with
      | cons r1 r2 =>
        obtain ⟨as, q1⟩ := Dw.reads hok KX d _ _ h1 r1
        obtain ⟨bs, q2⟩ := Dw.readsAll hok KX ds _ _ h2 r2
        exact ⟨_, ReadsAllW.cons q1 q2⟩
end
end
/-! ### the arguments -/
mutual
/-- data that a codec tells -/
def plW : WData → Bool
  | .none => true
  | .bool _ => true
  | .int _ => true
  | .str _ => true
  | .bytes _ => true
  | .list xs => plWs xs
  | .tuple xs => plWs xs
  | _ => false
def plWs : List WData → Bool
  | [] => true
  | x :: r => plW x && plWs r
end
theorem plWs_map {α : Type} {f : α → WData} (h : ∀ a, plW (f a) = true) : ∀ l : List α, plWs (l.map f) = true
  | [] => rfl
  | x :: r => by
    show (plW (f x) && plWs (r.map f)) = true
    rw [h x, plWs_map h r] <;> rfl
theorem pl_enc : ∀ (c : Codec) (a : c.denote), plW (c.enc a) = true
  | .unit, _ => rfl
  | .bool, _ => rfl
  | .int _ _, _ => rfl
  | .nat _ _, _ => rfl
  | .u8, _ => rfl
  | .bytes _ _, _ => rfl
  | .text _ _ _ _, _ => rfl
  | .list _ _ c, a => plWs_map (fun x => pl_enc c x) a
  | .pair c d, a => by
    show (plW (c.enc a.1) && (plW (d.enc a.2) && true)) = true
    rw [pl_enc c a.1, pl_enc d a.2] <;> rfl
  | .triple c d e, a => by
    show (plW (c.enc a.1) && (plW (d.enc a.2.1) && (plW (e.enc a.2.2) && true))) = true
    rw [pl_enc c a.1, pl_enc d a.2.1, pl_enc e a.2.2] <;> rfl
  | .option c, none => rfl
  | .option c, some x => pl_enc c x
theorem pl_encAll : ∀ (cs : List Codec) (a : Codec.denoteAll cs), plWs (Codec.encAll cs a) = true
  | [], _ => rfl
  | c :: cs, a => by
    show (plW (c.enc a.1) && plWs (Codec.encAll cs a.2)) = true
    rw [pl_enc c a.1, pl_encAll cs a.2] <;> rfl
theorem weight_mem : ∀ {xs : List WData} {d : WData}, d ∈ xs → d.weight ≤ WData.weightAll xs
  | [], d, h => absurd h (by simp)
  | x :: r, d, h => by
    show d.weight ≤ x.weight + 1 + WData.weightAll r
    rcases List.mem_cons.mp h with e | m
    · rw [e]
      omega
    · have z := weight_mem m
      omega
def toV : Value → V
  | .none => .non
  | .bool b => .bl b
  | .int i _ => .int i
  | .str x _ => .str x
  | .bytes b _ => .byt b
  | .ref a => .ref a
  | _ => .non
/-- a value of the arguments, its objects among A -/
def OkU (A : List Addr) : Value → Prop
  | .none => True
  | .bool _ => True
  | .int _ _ => True
  | .str _ _ => True
  | .bytes _ _ => True
  | .ref a => a ∈ A
  | _ => False
theorem OkU.mono {A B : List Addr} (h : ∀ a ∈ A, a ∈ B) : ∀ {u : Value}, OkU A u → OkU B u := fun {u} x => by
  cases u with
  | ref a => exact h a x
  | none => trivial
  | bool b => trivial
  | int i t => trivial
  | str s t => trivial
  | bytes b t => trivial
  | _ => exact False.elim x
theorem relV_toV {A : List Addr} {u : Value} (x : OkU A u) : RelV (toV u) u := by
  cases u with
  | ref a => rfl
  | none => rfl
  | bool b => rfl
  | int i t => exact ⟨t, rfl⟩
  | str s t => exact ⟨t, rfl⟩
  | bytes b t => exact ⟨t, rfl⟩
  | _ => exact False.elim x
theorem vals_toV {A : List Addr} : ∀ {vs : List Value}, (∀ u ∈ vs, OkU A u) → Vals (vs.map toV) vs
  | [], _ => .nil
  | u :: r, h => .cons (relV_toV (h u (List.mem_cons_self ..))) (vals_toV fun x hx => h x (List.mem_cons_of_mem _ hx))
/-- an object of the arguments -/
def ArgOb (h : Heap) (A : List Addr) (a : Addr) : Prop := ∃ vs : List Value, vs.length ≤ sizeLine ∧ (∀ u ∈ vs, OkU A u) ∧
  (h.get? a = some { cls := .type "list", data := .seq vs.toArray } ∨ h.get? a = some { cls := .type "tuple", data := .seq vs.toArray })
theorem ArgOb.mono {h : Heap} {A B : List Addr} {a : Addr} (k : ∀ a ∈ A, a ∈ B) (x : ArgOb h A a) : ArgOb h B a := by
  obtain ⟨vs, h1, h2, h3⟩ := x
  exact ⟨vs, h1, fun u hu => (h2 u hu).mono k, h3⟩
theorem wellAll_len {P : Params} {h : Heap} : ∀ {vs : List Value} {ds : List WData}, WellAll P h vs ds → vs.length = ds.length
  | _, _, .nil => rfl
  | _, _, .cons _ b => by
    show _ + 1 = _ + 1
    rw [wellAll_len b]
theorem well_list {P : Params} {h : Heap} {v : Value} {ds : List WData} (x : Well P h v (.list ds)) : ∃ (a : Addr) (vs : List Value), v = .ref a ∧ h.get? a = some { cls := .type "list", data := .seq vs.toArray } ∧ WellAll P h vs ds := by
  cases x with
  | list ho hall => exact ⟨_, _, rfl, ho, hall⟩
theorem well_tuple {P : Params} {h : Heap} {v : Value} {ds : List WData} (x : Well P h v (.tuple ds)) : ∃ (a : Addr) (vs : List Value), v = .ref a ∧ h.get? a = some { cls := .type "tuple", data := .seq vs.toArray } ∧ WellAll P h vs ds := by
  cases x with
  | tuple ho hall => exact ⟨_, _, rfl, ho, hall⟩
theorem well_cons {P : Params} {h : Heap} {us : List Value} {d : WData} {ds : List WData} (x : WellAll P h us (d :: ds)) : ∃ (v : Value) (vs : List Value), us = v :: vs ∧ Well P h v d ∧ WellAll P h vs ds := by
  cases x with
  | cons a b => exact ⟨_, _, rfl, a, b⟩
theorem line_of {n : Nat} (h : n ≤ 1048576) : n ≤ sizeLine := Nat.le_trans h (by decide)
section
variable {P : Params} {h : Heap}
mutual
theorem area_one : ∀ (d : WData) (v : Value), Well P h v d → plW d = true → d.weight ≤ 1048576 → ∃ A : List Addr, OkU A v ∧ ∀ a ∈ A, ArgOb h A a
  | .none, _, x, _, _ => by
    cases x
    exact ⟨[], trivial, fun a m => absurd m (by simp)⟩
  | .bool b, _, x, _, _ => by
    cases x
    exact ⟨[], trivial, fun a m => absurd m (by simp)⟩
  | .int i, _, x, _, _ => by
    cases x
    exact ⟨[], trivial, fun a m => absurd m (by simp)⟩
  | .str s, _, x, _, _ => by
    cases x
    exact ⟨[], trivial, fun a m => absurd m (by simp)⟩
  | .bytes b, _, x, _, _ => by
    cases x
    exact ⟨[], trivial, fun a m => absurd m (by simp)⟩
  | .list ds, _, x, p, z => by
    obtain ⟨a, vs, rfl, ho, hall⟩ := well_list x
    have z2 : WData.weightAll ds ≤ 1048576 := z
    obtain ⟨A, h1, h2⟩ := area_all ds _ hall p fun d hd => Nat.le_trans (weight_mem hd) z2
    have k : ∀ b ∈ A, b ∈ a :: A := fun b hb => List.mem_cons_of_mem _ hb
    refine ⟨a :: A, List.mem_cons_self .., fun b hb => ?_⟩
    rcases List.mem_cons.mp hb with e | m
    · rw [e]
      exact ⟨vs, line_of (by rw [wellAll_len hall]; exact Nat.le_trans (PySem.W.length_le_weightAllW ds) z2), fun u hu => (h1 u hu).mono k, .inl ho⟩
    · exact (h2 b m).mono k
  | .tuple ds, _, x, p, z => by
    obtain ⟨a, vs, rfl, ho, hall⟩ := well_tuple x
    have z2 : WData.weightAll ds ≤ 1048576 := z
    obtain ⟨A, h1, h2⟩ := area_all ds _ hall p fun d hd => Nat.le_trans (weight_mem hd) z2
    have k : ∀ b ∈ A, b ∈ a :: A := fun b hb => List.mem_cons_of_mem _ hb
    refine ⟨a :: A, List.mem_cons_self .., fun b hb => ?_⟩
    rcases List.mem_cons.mp hb with e | m
    · rw [e]
      exact ⟨vs, line_of (by rw [wellAll_len hall]; exact Nat.le_trans (PySem.W.length_le_weightAllW ds) z2), fun u hu => (h1 u hu).mono k, .inr ho⟩
    · exact (h2 b m).mono k
  | .float _, _, _, p, _ => Bool.noConfusion (show false = true from p)
  | .dict _, _, _, p, _ => Bool.noConfusion (show false = true from p)
  | .bytearray _, _, _, p, _ => Bool.noConfusion (show false = true from p)
  | .set _, _, _, p, _ => Bool.noConfusion (show false = true from p)
  | .frozenset _, _, _, p, _ => Bool.noConfusion (show false = true from p)
  | .obj _ _, _, _, p, _ => Bool.noConfusion (show false = true from p)
theorem area_all : ∀ (ds : List WData) (vs : List Value), WellAll P h vs ds → plWs ds = true → (∀ d ∈ ds, d.weight ≤ 1048576) → ∃ A : List Addr, (∀ u ∈ vs, OkU A u) ∧ ∀ a ∈ A, ArgOb h A a
  | [], _, x, _, _ => by
    cases x
    exact ⟨[], fun u m => absurd m (by simp), fun a m => absurd m (by simp)⟩
  | d :: ds, _, x, p, z => by
    obtain ⟨v, vs, rfl, x1, x2⟩ := well_cons x
    have q : plW d = true ∧ plWs ds = true := Bool.and_eq_true_iff.mp p
    obtain ⟨A, a1, a2⟩ := area_one d v x1 q.1 (z d (List.mem_cons_self ..))
    obtain ⟨B, b1, b2⟩ := area_all ds vs x2 q.2 fun e he => z e (List.mem_cons_of_mem _ he)
    have kA : ∀ b ∈ A, b ∈ A ++ B := fun b hb => List.mem_append.mpr (.inl hb)
    have kB : ∀ b ∈ B, b ∈ A ++ B := fun b hb => List.mem_append.mpr (.inr hb)
    refine ⟨A ++ B, fun u hu => ?_, fun b hb => ?_⟩
    · rcases List.mem_cons.mp hu with e | m
      · rw [e]
        exact a1.mono kA
      · exact (b1 u m).mono kB
    · rcases List.mem_append.mp hb with m | m
      · exact (a2 b m).mono kA
      · exact (b2 b m).mono kB
end
end
/-- what is tracked of an argument's object -/
def hoOf (o : Obj) : Option HO := match o.data with
  | .seq vs _ => if (o.cls == Value.type "list") = true then some (.frz o (.lst (vs.toList.map toV))) else some (.frz o (.tup (vs.toList.map toV)))
  | _ => none
def argH (K : PySem.W.Frag) (h : Heap) (A : List Addr) : Hp := fun b => if b ∈ A then (if (K.lookup b).isNone = true then (h.get? b).bind hoOf else none) else none
/-- nothing is tracked but what is known to the object -/
def OnlyF (H : Hp) : Prop := ∀ b, H b = none ∨ ∃ o u, H b = some (.frz o u)
theorem hoOf_lst (vs : List Value) : hoOf { cls := .type "list", data := .seq vs.toArray } = some (.frz { cls := .type "list", data := .seq vs.toArray } (.lst (vs.map toV))) := by
  show (if (Value.type "list" == Value.type "list") = true then some (HO.frz { cls := .type "list", data := .seq vs.toArray } (.lst (vs.toArray.toList.map toV))) else some (HO.frz { cls := .type "list", data := .seq vs.toArray } (.tup (vs.toArray.toList.map toV)))) = _
  rw [if_pos (beq_self_eq_true _)]
theorem hoOf_tup (vs : List Value) : hoOf { cls := .type "tuple", data := .seq vs.toArray } = some (.frz { cls := .type "tuple", data := .seq vs.toArray } (.tup (vs.map toV))) := by
  show (if (Value.type "tuple" == Value.type "list") = true then some (HO.frz { cls := .type "tuple", data := .seq vs.toArray } (.lst (vs.toArray.toList.map toV))) else some (HO.frz { cls := .type "tuple", data := .seq vs.toArray } (.tup (vs.toArray.toList.map toV)))) = _
  rw [if_neg (by decide)]
section
variable {P : Program} {w : World} {K : PySem.W.Frag} {h : Heap} {A : List Addr}
theorem argH_at {b : Addr} {o : Obj} (hb : b ∈ A) (hk : K.lookup b = none) (e : h.get? b = some o) : argH K h A b = hoOf o := by
  unfold argH
  rw [if_pos hb, hk, if_pos (show (none : Option Obj).isNone = true from rfl), e] <;> rfl
theorem of_argH {b : Addr} {u : HO} (q : argH K h A b = some u) : b ∈ A ∧ K.lookup b = none := by
  unfold argH at q
  by_cases hb : b ∈ A
  · rw [if_pos hb] at q
    cases hk : K.lookup b with
    | none => exact ⟨hb, rfl⟩
    | some o =>
      rw [hk, if_neg (by simp)] at q
      cases q
  · rw [if_neg hb] at q
    cases q
/-- what stands tracked -/
theorem argH_is (ar : ∀ a ∈ A, ArgOb h A a) {b : Addr} {u : HO} (q : argH K h A b = some u) : K.lookup b = none ∧ ∃ vs : List Value, vs.length ≤ sizeLine ∧ (∀ u ∈ vs, OkU A u) ∧
    ((h.get? b = some { cls := .type "list", data := .seq vs.toArray } ∧ u = .frz { cls := .type "list", data := .seq vs.toArray } (.lst (vs.map toV))) ∨
     (h.get? b = some { cls := .type "tuple", data := .seq vs.toArray } ∧ u = .frz { cls := .type "tuple", data := .seq vs.toArray } (.tup (vs.map toV)))) := by
  obtain ⟨hb, hk⟩ := of_argH q
  obtain ⟨vs, h1, h2, h3⟩ := ar b hb
  refine ⟨hk, vs, h1, h2, ?_⟩
  rcases h3 with e | e
  · rw [argH_at hb hk e, hoOf_lst] at q
    exact .inl ⟨e, (Option.some.inj q).symm⟩
  · rw [argH_at hb hk e, hoOf_tup] at q
    exact .inr ⟨e, (Option.some.inj q).symm⟩
theorem argH_only (ar : ∀ a ∈ A, ArgOb h A a) : OnlyF (argH K h A) := fun b => by
  cases q : argH K h A b with
  | none => exact .inl rfl
  | some u =>
    obtain ⟨_, vs, _, _, ⟨_, e⟩ | ⟨_, e⟩⟩ := argH_is ar q
    · exact .inr ⟨_, _, by rw [e]⟩
    · exact .inr ⟨_, _, by rw [e]⟩
theorem argH_ok (ar : ∀ a ∈ A, ArgOb h A a) : HOk P w (argH K h A) h := fun b u q => by
  obtain ⟨_, vs, h1, h2, ⟨e, rfl⟩ | ⟨e, rfl⟩⟩ := argH_is ar q
  · exact ⟨e, by rw [List.length_map]; exact h1, vs, _, vals_toV h2, e⟩
  · exact ⟨e, by rw [List.length_map]; exact h1, vs, vals_toV h2, _, e, rfl, _, rfl⟩
theorem seq_inj {c c' : Value} {vs us : List Value} (e : (some { cls := c, data := .seq vs.toArray } : Option Obj) = some { cls := c', data := .seq us.toArray }) : c = c' ∧ vs = us := by
  have e1 := Option.some.inj e
  have e2 : c = c' := congrArg Obj.cls e1
  have e3 : Data.seq vs.toArray = Data.seq us.toArray := congrArg Obj.data e1
  injection e3 with e4
  refine ⟨e2, ?_⟩
  have e5 := congrArg Array.toList e4
  simpa using e5
/-- a list argument -/
theorem argL (KX : K.In h) (ar : ∀ a ∈ A, ArgOb h A a) {a : Addr} {vs : List Value} (ha : a ∈ A) (e : h.get? a = some { cls := .type "list", data := .seq vs.toArray }) : (∀ u ∈ vs, OkU A u) ∧ SqL K (argH K h A) a (vs.map toV) := by
  obtain ⟨us, h1, h2, h3⟩ := ar a ha
  have hu : us = vs := by
    rcases h3 with q | q
    · rw [e] at q
      exact (seq_inj q).2.symm
    · rw [e] at q
      exact absurd (Value.type.inj (seq_inj q).1) (by decide)
  subst hu
  refine ⟨h2, ?_⟩
  cases hk : K.lookup a with
  | none => exact .inl (.inr ⟨_, by rw [argH_at ha hk e, hoOf_lst]⟩)
  | some o =>
    have e2 := KX a o hk
    rw [e] at e2
    obtain rfl := Option.some.inj e2
    exact .inr ⟨_, us.toArray, _, hk, rfl, rfl, rfl, by rw [List.size_toArray]; exact h1, by simpa using vals_toV h2⟩
theorem argT (KX : K.In h) (ar : ∀ a ∈ A, ArgOb h A a) {a : Addr} {vs : List Value} (ha : a ∈ A) (e : h.get? a = some { cls := .type "tuple", data := .seq vs.toArray }) : (∀ u ∈ vs, OkU A u) ∧ SqT K (argH K h A) a (vs.map toV) := by
  obtain ⟨us, h1, h2, h3⟩ := ar a ha
  have hu : us = vs := by
    rcases h3 with q | q
    · rw [e] at q
      exact absurd (Value.type.inj (seq_inj q).1) (by decide)
    · rw [e] at q
      exact (seq_inj q).2.symm
  subst hu
  refine ⟨h2, ?_⟩
  cases hk : K.lookup a with
  | none => exact .inl (.inr ⟨_, by rw [argH_at ha hk e, hoOf_tup]⟩)
  | some o =>
    have e2 := KX a o hk
    rw [e] at e2
    obtain rfl := Option.some.inj e2
    exact .inr ⟨_, us.toArray, _, hk, rfl, rfl, by rw [List.size_toArray]; exact h1, by simpa using vals_toV h2⟩
mutual
theorem dw_one {Pm : Params} (KX : K.In h) (ar : ∀ a ∈ A, ArgOb h A a) : ∀ (d : WData) (v : Value), Well Pm h v d → plW d = true → OkU A v → Dw K (argH K h A) (toV v) d
  | .none, _, x, _, _ => by
    cases x
    exact .non
  | .bool b, _, x, _, _ => by
    cases x
    exact .bl b
  | .int i, _, x, _, _ => by
    cases x
    exact .int i
  | .str s, _, x, _, _ => by
    cases x
    exact .str s
  | .bytes b, _, x, _, _ => by
    cases x
    have z := Dw.byt (K := K) (H := argH K h A) b.toArray
    exact z
  | .list ds, _, x, p, hu => by
    obtain ⟨a, vs, rfl, ho, hall⟩ := well_list x
    obtain ⟨h2, hs⟩ := argL KX ar hu ho
    exact .lst hs (dw_all KX ar ds _ hall p h2)
  | .tuple ds, _, x, p, hu => by
    obtain ⟨a, vs, rfl, ho, hall⟩ := well_tuple x
    obtain ⟨h2, hs⟩ := argT KX ar hu ho
    exact .tup hs (dw_all KX ar ds _ hall p h2)
  | .float _, _, _, p, _ => Bool.noConfusion (show false = true from p)
  | .dict _, _, _, p, _ => Bool.noConfusion (show false = true from p)
  | .bytearray _, _, _, p, _ => Bool.noConfusion (show false = true from p)
  | .set _, _, _, p, _ => Bool.noConfusion (show false = true from p)
  | .frozenset _, _, _, p, _ => Bool.noConfusion (show false = true from p)
  | .obj _ _, _, _, p, _ => Bool.noConfusion (show false = true from p)
theorem dw_all {Pm : Params} (KX : K.In h) (ar : ∀ a ∈ A, ArgOb h A a) : ∀ (ds : List WData) (vs : List Value), WellAll Pm h vs ds → plWs ds = true → (∀ u ∈ vs, OkU A u) → DwAll K (argH K h A) (vs.map toV) ds
  | [], _, x, _, _ => by
    cases x
    exact .nil
  | d :: ds, _, x, p, hu => by
    obtain ⟨v, vs, rfl, x1, x2⟩ := well_cons x
    have q : plW d = true ∧ plWs ds = true := Bool.and_eq_true_iff.mp p
    exact .cons (dw_one KX ar d v x1 q.1 (hu _ (List.mem_cons_self ..))) (dw_all KX ar ds vs x2 q.2 fun u m => hu u (List.mem_cons_of_mem _ m))
end
end
/-! ### the call -/
theorem spec_call {P : Program} {w : World} {K : PySem.W.Frag} {mg mb : Str → Option Value} {CX : CXT} {k : Nat} {fa : Addr} {fd : FuncData} {ps : List Str} {sp : Sp} {s₁ : Shared} {vals : List Value} {ds : List WData} {R : PySem.W.WRecords} {cl : Str → Option Addr} {d0 : WData}
    (KX : K.In s₁.heap) (hns : s₁.heap.Ns mainGlobals mg) (hb : s₁.heap.Ns builtinsNs mb) (hbb : ∀ x : Str, x ≠ "__name__" → mb x = bootBuiltins x) (hlim : s₁.heap.NoLimit) (hg : s₁.gens = #[])
    (hwl : WellAll w.params s₁.heap vals ds) (hpl : plWs ds = true) (hwt : ∀ d ∈ ds, d.weight ≤ 1048576) (hr : Room k callerA)
    (F : ∀ base : Heap, K.In base → base.Ns mainGlobals mg → FnOk P w K mg base CX k fa fd ps sp) (hbind : ∀ (s : Shared) (us : List Value), us.length = ps.length → BindsTo s fd ⟨us, []⟩ (ps.zip us)) (hlen : ds.length = ps.length)
    (hsp : ∀ (H : Hp) (xs : List V), OnlyF H → DwAll K H xs ds → sp xs H (fun v H' => Dw K H' v d0) fun _ _ _ => False)
    (hCX : ∀ H e s', CX [] H s₁ (fun _ _ _ => False) e s' → False) :
    codeAny (model P w) callerA (.call (.ref fa) ⟨vals, []⟩) (fun r s' => ∃ u as, r = .ok (.ret u) ∧ ReadsW R cl s'.heap u d0 as ∧ OldK s₁.heap s'.heap ∧ s'.os = s₁.os ∧ AllBare s'.gens) s₁ := by
  obtain ⟨A, ho, ar⟩ := area_all ds vals hwl hpl hwt
  have hO : OnlyF (argH K s₁.heap A) := argH_only ar
  have hok : HOk P w (argH K s₁.heap A) s₁.heap := argH_ok ar
  have hS := dw_all KX ar ds vals hwl hpl ho
  have hV := vals_toV ho
  have hK : ∀ b u, argH K s₁.heap A b = some u → K.lookup b = none := fun b u q => (argH_is ar q).1
  have noA : ∀ {b : Addr} {o : Obj} {es : Array DictEntry} {ep : Nat}, s₁.heap.get? b = some o → o.data = .dict es ep → argH K s₁.heap A b = none := fun {b o es ep} e d => by
    cases q : argH K s₁.heap A b with
    | none => rfl
    | some u =>
      obtain ⟨_, vs, _, _, ⟨e2, _⟩ | ⟨e2, _⟩⟩ := argH_is ar q
      · rw [e2] at e
        cases e
        have d' : Data.seq vs.toArray _ = Data.dict es ep := d
        cases d'
      · rw [e2] at e
        cases e
        have d' : Data.seq vs.toArray _ = Data.dict es ep := d
        cases d'
  generalize argH K s₁.heap A = H at hO hok hS hK noA
  have base_of : ∀ {b : Addr} {o : Obj}, s₁.heap.get? b = some o → H b = none → (hidT s₁.heap H).get? b = some o := fun e n => hidT_get e n
  have nsK : ∀ {b : Addr} {m : Str → Option Value}, s₁.heap.Ns b m → (hidT s₁.heap H).Ns b m := fun {b m} ⟨o, es, ep, e, d, r⟩ => ⟨o, es, ep, base_of e (noA e d), d, r⟩
  have nK : ∀ b o, K.lookup b = some o → H b = none := fun b o e => by
    cases q : H b with
    | none => rfl
    | some u =>
      rw [hK b u q] at e
      cases e
  have hKb : K.In (hidT s₁.heap H) := fun b o e => base_of (KX b o e) (nK b o e)
  have hM : Mod K mg (hidT s₁.heap H) := ⟨hKb, nsK hns, ⟨mb, nsK hb, hbb⟩, let ⟨mc, h1, h2⟩ := hlim; ⟨mc, nsK h1, h2⟩⟩
  have e0 : Env0 P w K mg (hidT s₁.heap H) callerA [] s₁ H := ⟨rfl, hM, fun b o e => of_hidT e, Nat.le_of_eq (hidT_size _ _), trivial, fun b hb => absurd (show b ∈ ([] : List Addr) from hb) (by simp), hok, .of_eq hg⟩
  have hl : vals.length = ps.length := by rw [wellAll_len hwl]; exact hlen
  refine codeAny_mono ((F _ hKb (nsK hns)).run callerA [] s₁ H ⟨vals, []⟩ vals (vals.map toV) _ _ hr e0 (hbind s₁ vals hl) hV (hsp H _ hO hS)) fun r s' x => ?_
  cases r with
  | error e => exact (hCX H e s' x).elim
  | ok fl =>
    cases fl with
    | next => exact False.elim x
    | brk => exact False.elim x
    | cont => exact False.elim x
    | ret u =>
      obtain ⟨v, H', os, bare, un, hok', r', q⟩ := x
      have kept : ∀ b o, s₁.heap.get? b = some o → s'.heap.get? b = some o := fun b o e => by
        cases q2 : H b with
        | none => exact un.keep b o e q2 (by intro z; exact absurd (show b ∈ ([] : List Addr) from z) (by simp)) (by simp)
        | some u2 =>
          rcases hO b with z | ⟨ob, u3, z⟩
          · rw [q2] at z
            cases z
          · have z2 := un.frzs b ob _ z
            obtain ⟨e1, _⟩ := hok b _ z
            obtain ⟨e2, _⟩ := hok' b _ z2
            rw [e] at e1
            cases e1
            exact e2
      have KX' : K.In s'.heap := fun b o e => kept b o (KX b o e)
      obtain ⟨as, hrd⟩ := Dw.reads (R := R) (cl := cl) hok' KX' d0 v u q r'
      exact ⟨u, as, rfl, hrd, OldK.of_keep kept, os, bare⟩
/-! ### the row -/
theorem layable_weight {ds : List WData} (h : WData.layableAll ds = true) : ∀ d ∈ ds, d.weight ≤ 1048576 := fun d hd =>
  (PySem.W.layableW_iff.mp (List.all_eq_true.mp h d hd)).2.2
theorem encAll_len : ∀ (cs : List Codec) (a : Codec.denoteAll cs), (Codec.encAll cs a).length = cs.length
  | [], _ => rfl
  | c :: cs, a => by
    show (Codec.encAll cs a.2).length + 1 = cs.length + 1
    rw [encAll_len cs a.2]
/-- the goal that k_headS leaves (case hc), from the promise of the row's def: whatever the arguments that the codecs let and the row asks for, the def gives what stands for enc (f ..) -/
theorem walk_spec {r : OpenSpec} {k : Nat} {q : Program} {loose : List Str} {XP : (Str → Option Value) → Heap → Prop} {YP : World → Heap → Prop} {d : DefRec} {K : Params → PySem.W.Frag} {CX : World → CXT} {ps : List Str} {sp : World → Sp}
    (hwell : r.wellSaid = true) (hdf : d.params.defaults = []) (hlen : r.args.length = ps.length) (hr : Room k callerA)
    (hY : ∀ (w : World) (h : Heap), YP w h → (K w.params).In h)
    (F : ∀ (w : World) (mg : Str → Option Value) (fa : Addr) (h : Heap), YP w h → (K w.params).In h → h.Ns mainGlobals mg → mg d.name = some (.ref fa) →
      ∃ fd : FuncData, (∀ (s : Shared) (us : List Value), us.length = ps.length → BindsTo s fd ⟨us, []⟩ (ps.zip us)) ∧
        ∀ base : Heap, (K w.params).In base → base.Ns mainGlobals mg → FnOk r.prog w (K w.params) mg base (CX w) k fa fd ps (sp w))
    (hsp : ∀ (w : World) (H : Hp) (xs : List V) (a : Codec.denoteAll r.args), OnlyF H → Codec.withinAll r.args a = true → Codec.app r.args r.asked a = true → DwAll (K w.params) H xs (Codec.encAll r.args a) →
      sp w xs H (fun v H' => Dw (K w.params) H' v (r.ret.enc (Codec.app r.args r.f a))) fun _ _ _ => False)
    (hCX : ∀ (w : World) (H : Hp) (s : Shared) (e : Value) (s' : Shared), CX w [] H s (fun _ _ _ => False) e s' → False) :
    PySem.W.WalkOS q loose XP YP r d [] (fun f vs => PySem.call f vs) := by
  intro w s_0 s₁ mg mb G Y fa o pm cd doc dV kV ho hd hcd hD hmg hg args vals as hpre hlay hrd hwl hlo
  obtain ⟨a, e1, e2⟩ := PySem.W.os_pre_some hpre
  obtain ⟨e3, hwi⟩ := Codec.encAll_of_decAll r.args args a e1
  subst e3
  have KX := hY w _ Y
  obtain ⟨fd, hb, hF⟩ := F w mg fa _ Y KX G.T.g hmg
  refine PySem.W.enter_call (codeAny_mono (spec_call (R := []) (cl := classAt s_0.heap) (d0 := r.ret.enc (Codec.app r.args r.f a)) KX G.T.g G.T.b G.T.builtins G.T.nolimit hg hwl (pl_encAll _ _) (layable_weight hlay) hr hF hb (by rw [encAll_len]; exact hlen)
    (fun H xs hO hS => hsp w H xs a hO hwi e2 hS) fun H e s' => hCX w H s₁ e s') fun r' s' hq => ?_)
  obtain ⟨u, as', rfl, h1, h2, h3, h4⟩ := hq
  exact ⟨.inl ⟨u, _, as', rfl, fun _ => rfl, h1, (OpenSpec.post_iff hwell hwi _ _).mpr rfl, fun z => Bool.noConfusion (show false = true from z)⟩, h2, h3, h4⟩
/-- the same where the promise hangs on the written part alone -/
theorem walk_specK {r : OpenSpec} {k : Nat} {q : Program} {loose : List Str} {XP : (Str → Option Value) → Heap → Prop} {YP : World → Heap → Prop} {d : DefRec} {K : Params → PySem.W.Frag} {CX : CXT} {ps : List Str} {sp : PySem.W.Frag → Sp}
    (hwell : r.wellSaid = true) (hdf : d.params.defaults = []) (hlen : r.args.length = ps.length) (hr : Room k callerA)
    (hY : ∀ (w : World) (h : Heap), YP w h → (K w.params).In h)
    (F : ∀ (w : World) (mg : Str → Option Value) (fa : Addr) (h : Heap), YP w h → (K w.params).In h → h.Ns mainGlobals mg → mg d.name = some (.ref fa) →
      ∃ fd : FuncData, (∀ (s : Shared) (us : List Value), us.length = ps.length → BindsTo s fd ⟨us, []⟩ (ps.zip us)) ∧
        ∀ base : Heap, (K w.params).In base → base.Ns mainGlobals mg → FnOk r.prog w (K w.params) mg base CX k fa fd ps (sp (K w.params)))
    (hsp : ∀ (K : PySem.W.Frag) (H : Hp) (xs : List V) (a : Codec.denoteAll r.args), OnlyF H → Codec.withinAll r.args a = true → Codec.app r.args r.asked a = true → DwAll K H xs (Codec.encAll r.args a) →
      sp K xs H (fun v H' => Dw K H' v (r.ret.enc (Codec.app r.args r.f a))) fun _ _ _ => False)
    (hCX : ∀ (H : Hp) (s : Shared) (e : Value) (s' : Shared), CX [] H s (fun _ _ _ => False) e s' → False) :
    PySem.W.WalkOS q loose XP YP r d [] (fun f vs => PySem.call f vs) :=
  walk_spec (K := K) (CX := fun _ => CX) (sp := fun w => sp (K w.params)) hwell hdf hlen hr hY F (fun w H xs a h1 h2 h3 h4 => hsp (K w.params) H xs a h1 h2 h3 h4) fun _ H s e s' => hCX H s e s'
end L2
-- rests on (row put in by the clerk, for the bench that shows a file only what it spells): KE.SpHead KE.OsShapes
end
end
section
set_option Elab.async false
set_option linter.all false
set_option maxRecDepth 100000
set_option maxHeartbeats 4000000
/-! The text by its places, and what the top has written. -/
namespace Aj
open PySem PySem.Spec PyProof.Rows L2
def top (i : Nat) : Stmt := PySem.Challenge.pw_askedjust_s01_answers.main.body.getD i (.Pass ⟨0, 0, 0, 0⟩)
abbrev s_placed : Stmt := top 6
abbrev s_mark : Stmt := top 7
abbrev s_need_of : Stmt := top 8
abbrev s_names_of : Stmt := top 9
abbrev s_is_asked : Stmt := top 10
abbrev s_come_of : Stmt := top 11
abbrev s_what_comes : Stmt := top 12
abbrev s_keep_way : Stmt := top 13
abbrev s_ways_behind : Stmt := top 14
abbrev s_named_behind : Stmt := top 15
abbrev s_ways_through : Stmt := top 16
abbrev s_earliest_row : Stmt := top 17
abbrev s_is_valid_condition : Stmt := top 30
abbrev s_is_valid_need : Stmt := top 31
abbrev s_Form_init : Stmt := inClass (top 32) 0
abbrev s_Form_begin : Stmt := inClass (top 32) 1
abbrev s_Form_has_question : Stmt := inClass (top 32) 2
abbrev s_Form_add_question : Stmt := inClass (top 32) 3
abbrev s_Form_add_need : Stmt := inClass (top 32) 4
abbrev s_Form_as_things_are : Stmt := inClass (top 32) 5
abbrev s_Form_next_question : Stmt := inClass (top 32) 6
abbrev s_Form_answer : Stmt := inClass (top 32) 7
abbrev s_Form_forget : Stmt := inClass (top 32) 8
abbrev s_Form_result : Stmt := inClass (top 32) 9
abbrev s_Form_ways_before : Stmt := inClass (top 32) 10
abbrev s_Form_tell_way : Stmt := inClass (top 32) 11
abbrev s_Form_ever : Stmt := inClass (top 32) 12
abbrev s_Form_always : Stmt := inClass (top 32) 13
abbrev s_Form_most : Stmt := inClass (top 32) 14
abbrev s_call_length : Stmt := top 44
abbrev s_in_pairs : Stmt := top 45
abbrev s_make : Stmt := top 46
abbrev s_fill_in : Stmt := top 47
abbrev s_look_over : Stmt := top 48
abbrev s_answer_call : Stmt := top 49
abbrev s_answers : Stmt := top 50
theorem sc_placed : FnScope ["question", "bits"] ["question", "bits"] (defScope s_placed) := ⟨rfl, rfl, rfl, by decide +kernel, rfl, by decide +kernel, by decide +kernel⟩
theorem sc_mark : FnScope ["question", "come"] ["question", "come"] (defScope s_mark) := ⟨rfl, rfl, rfl, by decide +kernel, rfl, by decide +kernel, by decide +kernel⟩
theorem sc_need_of : FnScope ["conditions", "need", "question", "bits"] ["conditions"] (defScope s_need_of) := ⟨rfl, rfl, rfl, by decide +kernel, rfl, by decide +kernel, by decide +kernel⟩
theorem sc_names_of : FnScope ["conditions", "condition"] ["conditions"] (defScope s_names_of) := ⟨rfl, rfl, rfl, by decide +kernel, rfl, by decide +kernel, by decide +kernel⟩
theorem sc_is_asked : FnScope ["needs", "row", "need"] ["needs", "row"] (defScope s_is_asked) := ⟨rfl, rfl, rfl, by decide +kernel, rfl, by decide +kernel, by decide +kernel⟩
theorem sc_come_of : FnScope ["question", "row", "bits"] ["question", "row"] (defScope s_come_of) := ⟨rfl, rfl, rfl, by decide +kernel, rfl, by decide +kernel, by decide +kernel⟩
theorem sc_what_comes : FnScope ["row", "count", "question"] ["row", "count"] (defScope s_what_comes) := ⟨rfl, rfl, rfl, by decide +kernel, rfl, by decide +kernel, by decide +kernel⟩
theorem sc_keep_way : FnScope ["alike", "row", "asked", "named", "same", "kept"] ["alike", "row", "asked", "named"] (defScope s_keep_way) := ⟨rfl, rfl, rfl, by decide +kernel, rfl, by decide +kernel, by decide +kernel⟩
theorem sc_ways_behind : FnScope ["ways", "question", "size", "needs", "named", "options", "passed_over", "alike", "row", "asked", "option"] ["ways", "question", "size", "needs", "named"] (defScope s_ways_behind) := ⟨rfl, rfl, rfl, by decide +kernel, rfl, by decide +kernel, by decide +kernel⟩
theorem sc_named_behind : FnScope ["names", "question", "named", "bits"] ["names", "question"] (defScope s_named_behind) := ⟨rfl, rfl, rfl, by decide +kernel, rfl, by decide +kernel, by decide +kernel⟩
theorem sc_ways_through : FnScope ["sizes", "needs", "names", "ways", "told", "question", "size"] ["sizes", "needs", "names"] (defScope s_ways_through) := ⟨rfl, rfl, rfl, by decide +kernel, rfl, by decide +kernel, by decide +kernel⟩
theorem sc_earliest_row : FnScope ["ways", "needs", "wanted", "row", "asked"] ["ways", "needs", "wanted"] (defScope s_earliest_row) := ⟨rfl, rfl, rfl, by decide +kernel, rfl, by decide +kernel, by decide +kernel⟩
theorem sc_is_valid_condition : FnScope ["condition", "question"] ["condition", "question"] (defScope s_is_valid_condition) := ⟨rfl, rfl, rfl, by decide +kernel, rfl, by decide +kernel, by decide +kernel⟩
theorem sc_is_valid_need : FnScope ["conditions", "question", "condition"] ["conditions", "question"] (defScope s_is_valid_need) := ⟨rfl, rfl, rfl, by decide +kernel, rfl, by decide +kernel, by decide +kernel⟩
theorem sc_Form_init : FnScope ["self"] ["self"] (defScope s_Form_init) := ⟨rfl, rfl, rfl, by decide +kernel, rfl, by decide +kernel, by decide +kernel⟩
theorem sc_Form_begin : FnScope ["self"] ["self"] (defScope s_Form_begin) := ⟨rfl, rfl, rfl, by decide +kernel, rfl, by decide +kernel, by decide +kernel⟩
theorem sc_Form_has_question : FnScope ["self", "question"] ["self", "question"] (defScope s_Form_has_question) := ⟨rfl, rfl, rfl, by decide +kernel, rfl, by decide +kernel, by decide +kernel⟩
theorem sc_Form_add_question : FnScope ["self", "size"] ["self", "size"] (defScope s_Form_add_question) := ⟨rfl, rfl, rfl, by decide +kernel, rfl, by decide +kernel, by decide +kernel⟩
theorem sc_Form_add_need : FnScope ["self", "question", "conditions", "needs"] ["self", "question", "conditions"] (defScope s_Form_add_need) := ⟨rfl, rfl, rfl, by decide +kernel, rfl, by decide +kernel, by decide +kernel⟩
theorem sc_Form_as_things_are : FnScope ["self", "row", "question", "needs"] ["self"] (defScope s_Form_as_things_are) := ⟨rfl, rfl, rfl, by decide +kernel, rfl, by decide +kernel, by decide +kernel⟩
theorem sc_Form_next_question : FnScope ["self", "comes"] ["self"] (defScope s_Form_next_question) := ⟨rfl, rfl, rfl, by decide +kernel, rfl, by decide +kernel, by decide +kernel⟩
theorem sc_Form_answer : FnScope ["self", "question", "option", "comes"] ["self", "question", "option"] (defScope s_Form_answer) := ⟨rfl, rfl, rfl, by decide +kernel, rfl, by decide +kernel, by decide +kernel⟩
theorem sc_Form_forget : FnScope ["self", "question"] ["self", "question"] (defScope s_Form_forget) := ⟨rfl, rfl, rfl, by decide +kernel, rfl, by decide +kernel, by decide +kernel⟩
theorem sc_Form_result : FnScope ["self", "told", "question", "come"] ["self"] (defScope s_Form_result) := ⟨rfl, rfl, rfl, by decide +kernel, rfl, by decide +kernel, by decide +kernel⟩
theorem sc_Form_ways_before : FnScope ["self", "count"] ["self", "count"] (defScope s_Form_ways_before) := ⟨rfl, rfl, rfl, by decide +kernel, rfl, by decide +kernel, by decide +kernel⟩
theorem sc_Form_tell_way : FnScope ["self", "question", "asked", "ways", "row"] ["self", "question", "asked"] (defScope s_Form_tell_way) := ⟨rfl, rfl, rfl, by decide +kernel, rfl, by decide +kernel, by decide +kernel⟩
theorem sc_Form_ever : FnScope ["self", "question"] ["self", "question"] (defScope s_Form_ever) := ⟨rfl, rfl, rfl, by decide +kernel, rfl, by decide +kernel, by decide +kernel⟩
theorem sc_Form_always : FnScope ["self", "question"] ["self", "question"] (defScope s_Form_always) := ⟨rfl, rfl, rfl, by decide +kernel, rfl, by decide +kernel, by decide +kernel⟩
theorem sc_Form_most : FnScope ["self", "ways", "row", "asked"] ["self"] (defScope s_Form_most) := ⟨rfl, rfl, rfl, by decide +kernel, rfl, by decide +kernel, by decide +kernel⟩
theorem sc_call_length : FnScope ["calls", "start", "length"] ["calls", "start"] (defScope s_call_length) := ⟨rfl, rfl, rfl, by decide +kernel, rfl, by decide +kernel, by decide +kernel⟩
theorem sc_in_pairs : FnScope ["numbers", "k"] ["numbers"] (defScope s_in_pairs) := ⟨rfl, rfl, rfl, by decide +kernel, rfl, by decide +kernel, by decide +kernel⟩
theorem sc_make : FnScope ["form", "call"] ["form", "call"] (defScope s_make) := ⟨rfl, rfl, rfl, by decide +kernel, rfl, by decide +kernel, by decide +kernel⟩
theorem sc_fill_in : FnScope ["form", "call"] ["form", "call"] (defScope s_fill_in) := ⟨rfl, rfl, rfl, by decide +kernel, rfl, by decide +kernel, by decide +kernel⟩
theorem sc_look_over : FnScope ["form", "call"] ["form", "call"] (defScope s_look_over) := ⟨rfl, rfl, rfl, by decide +kernel, rfl, by decide +kernel, by decide +kernel⟩
theorem sc_answer_call : FnScope ["form", "call"] ["form", "call"] (defScope s_answer_call) := ⟨rfl, rfl, rfl, by decide +kernel, rfl, by decide +kernel, by decide +kernel⟩
theorem sc_answers : FnScope ["calls", "form", "told", "start", "end", "numbers"] ["calls"] (defScope s_answers) := ⟨rfl, rfl, rfl, by decide +kernel, rfl, by decide +kernel, by decide +kernel⟩
/-- where the top's things stand -/
structure Defs where
  C_Form : Addr
  f_placed : Addr
  d_placed : FuncData
  f_mark : Addr
  d_mark : FuncData
  f_need_of : Addr
  d_need_of : FuncData
  f_names_of : Addr
  d_names_of : FuncData
  f_is_asked : Addr
  d_is_asked : FuncData
  f_come_of : Addr
  d_come_of : FuncData
  f_what_comes : Addr
  d_what_comes : FuncData
  f_keep_way : Addr
  d_keep_way : FuncData
  f_ways_behind : Addr
  d_ways_behind : FuncData
  f_named_behind : Addr
  d_named_behind : FuncData
  f_ways_through : Addr
  d_ways_through : FuncData
  f_earliest_row : Addr
  d_earliest_row : FuncData
  f_is_valid_condition : Addr
  d_is_valid_condition : FuncData
  f_is_valid_need : Addr
  d_is_valid_need : FuncData
  f_Form_init : Addr
  d_Form_init : FuncData
  f_Form_begin : Addr
  d_Form_begin : FuncData
  f_Form_has_question : Addr
  d_Form_has_question : FuncData
  f_Form_add_question : Addr
  d_Form_add_question : FuncData
  f_Form_add_need : Addr
  d_Form_add_need : FuncData
  f_Form_as_things_are : Addr
  d_Form_as_things_are : FuncData
  f_Form_next_question : Addr
  d_Form_next_question : FuncData
  f_Form_answer : Addr
  d_Form_answer : FuncData
  f_Form_forget : Addr
  d_Form_forget : FuncData
  f_Form_result : Addr
  d_Form_result : FuncData
  f_Form_ways_before : Addr
  d_Form_ways_before : FuncData
  f_Form_tell_way : Addr
  d_Form_tell_way : FuncData
  f_Form_ever : Addr
  d_Form_ever : FuncData
  f_Form_always : Addr
  d_Form_always : FuncData
  f_Form_most : Addr
  d_Form_most : FuncData
  f_call_length : Addr
  d_call_length : FuncData
  f_in_pairs : Addr
  d_in_pairs : FuncData
  f_make : Addr
  d_make : FuncData
  f_fill_in : Addr
  d_fill_in : FuncData
  f_look_over : Addr
  d_look_over : FuncData
  f_answer_call : Addr
  d_answer_call : FuncData
  f_answers : Addr
  d_answers : FuncData
  a_LENGTHS : Addr
/-- what the top has written -/
structure Known (K : PySem.W.Frag) (mg : Str → Option Value) (D : Defs) : Prop where
  cl_Form : Cls K D.C_Form
  mg_Form : mg "Form" = some (.ref D.C_Form)
  mk_Form : Mk K D.C_Form D.f_Form_init
  n_Form_given : NoAttr K D.C_Form "given"
  n_Form_names : NoAttr K D.C_Form "names"
  n_Form_needs : NoAttr K D.C_Form "needs"
  n_Form_sizes : NoAttr K D.C_Form "sizes"
  n_Form_ways : NoAttr K D.C_Form "ways"
  F_placed : Fun K "placed" "placed" s_placed D.f_placed D.d_placed
  b_placed : Binds K D.d_placed ["question", "bits"] []
  m_placed : mg "placed" = some (.ref D.f_placed)
  F_mark : Fun K "mark" "mark" s_mark D.f_mark D.d_mark
  b_mark : Binds K D.d_mark ["question", "come"] []
  m_mark : mg "mark" = some (.ref D.f_mark)
  F_need_of : Fun K "need_of" "need_of" s_need_of D.f_need_of D.d_need_of
  b_need_of : Binds K D.d_need_of ["conditions"] []
  m_need_of : mg "need_of" = some (.ref D.f_need_of)
  F_names_of : Fun K "names_of" "names_of" s_names_of D.f_names_of D.d_names_of
  b_names_of : Binds K D.d_names_of ["conditions"] []
  m_names_of : mg "names_of" = some (.ref D.f_names_of)
  F_is_asked : Fun K "is_asked" "is_asked" s_is_asked D.f_is_asked D.d_is_asked
  b_is_asked : Binds K D.d_is_asked ["needs", "row"] []
  m_is_asked : mg "is_asked" = some (.ref D.f_is_asked)
  F_come_of : Fun K "come_of" "come_of" s_come_of D.f_come_of D.d_come_of
  b_come_of : Binds K D.d_come_of ["question", "row"] []
  m_come_of : mg "come_of" = some (.ref D.f_come_of)
  F_what_comes : Fun K "what_comes" "what_comes" s_what_comes D.f_what_comes D.d_what_comes
  b_what_comes : Binds K D.d_what_comes ["row", "count"] []
  m_what_comes : mg "what_comes" = some (.ref D.f_what_comes)
  F_keep_way : Fun K "keep_way" "keep_way" s_keep_way D.f_keep_way D.d_keep_way
  b_keep_way : Binds K D.d_keep_way ["alike", "row", "asked", "named"] []
  m_keep_way : mg "keep_way" = some (.ref D.f_keep_way)
  F_ways_behind : Fun K "ways_behind" "ways_behind" s_ways_behind D.f_ways_behind D.d_ways_behind
  b_ways_behind : Binds K D.d_ways_behind ["ways", "question", "size", "needs", "named"] []
  m_ways_behind : mg "ways_behind" = some (.ref D.f_ways_behind)
  F_named_behind : Fun K "named_behind" "named_behind" s_named_behind D.f_named_behind D.d_named_behind
  b_named_behind : Binds K D.d_named_behind ["names", "question"] []
  m_named_behind : mg "named_behind" = some (.ref D.f_named_behind)
  F_ways_through : Fun K "ways_through" "ways_through" s_ways_through D.f_ways_through D.d_ways_through
  b_ways_through : Binds K D.d_ways_through ["sizes", "needs", "names"] []
  m_ways_through : mg "ways_through" = some (.ref D.f_ways_through)
  F_earliest_row : Fun K "earliest_row" "earliest_row" s_earliest_row D.f_earliest_row D.d_earliest_row
  b_earliest_row : Binds K D.d_earliest_row ["ways", "needs", "wanted"] []
  m_earliest_row : mg "earliest_row" = some (.ref D.f_earliest_row)
  F_is_valid_condition : Fun K "is_valid_condition" "is_valid_condition" s_is_valid_condition D.f_is_valid_condition D.d_is_valid_condition
  b_is_valid_condition : Binds K D.d_is_valid_condition ["condition", "question"] []
  m_is_valid_condition : mg "is_valid_condition" = some (.ref D.f_is_valid_condition)
  F_is_valid_need : Fun K "is_valid_need" "is_valid_need" s_is_valid_need D.f_is_valid_need D.d_is_valid_need
  b_is_valid_need : Binds K D.d_is_valid_need ["conditions", "question"] []
  m_is_valid_need : mg "is_valid_need" = some (.ref D.f_is_valid_need)
  F_Form_init : Fun K "__init__" "Form.__init__" s_Form_init D.f_Form_init D.d_Form_init
  b_Form_init : Binds K D.d_Form_init ["self"] []
  F_Form_begin : Fun K "begin" "Form.begin" s_Form_begin D.f_Form_begin D.d_Form_begin
  b_Form_begin : Binds K D.d_Form_begin ["self"] []
  m_Form_begin : Meth K D.C_Form "begin" D.f_Form_begin
  F_Form_has_question : Fun K "has_question" "Form.has_question" s_Form_has_question D.f_Form_has_question D.d_Form_has_question
  b_Form_has_question : Binds K D.d_Form_has_question ["self", "question"] []
  m_Form_has_question : Meth K D.C_Form "has_question" D.f_Form_has_question
  F_Form_add_question : Fun K "add_question" "Form.add_question" s_Form_add_question D.f_Form_add_question D.d_Form_add_question
  b_Form_add_question : Binds K D.d_Form_add_question ["self", "size"] []
  m_Form_add_question : Meth K D.C_Form "add_question" D.f_Form_add_question
  F_Form_add_need : Fun K "add_need" "Form.add_need" s_Form_add_need D.f_Form_add_need D.d_Form_add_need
  b_Form_add_need : Binds K D.d_Form_add_need ["self", "question", "conditions"] []
  m_Form_add_need : Meth K D.C_Form "add_need" D.f_Form_add_need
  F_Form_as_things_are : Fun K "as_things_are" "Form.as_things_are" s_Form_as_things_are D.f_Form_as_things_are D.d_Form_as_things_are
  b_Form_as_things_are : Binds K D.d_Form_as_things_are ["self"] []
  m_Form_as_things_are : Meth K D.C_Form "as_things_are" D.f_Form_as_things_are
  F_Form_next_question : Fun K "next_question" "Form.next_question" s_Form_next_question D.f_Form_next_question D.d_Form_next_question
  b_Form_next_question : Binds K D.d_Form_next_question ["self"] []
  m_Form_next_question : Meth K D.C_Form "next_question" D.f_Form_next_question
  F_Form_answer : Fun K "answer" "Form.answer" s_Form_answer D.f_Form_answer D.d_Form_answer
  b_Form_answer : Binds K D.d_Form_answer ["self", "question", "option"] []
  m_Form_answer : Meth K D.C_Form "answer" D.f_Form_answer
  F_Form_forget : Fun K "forget" "Form.forget" s_Form_forget D.f_Form_forget D.d_Form_forget
  b_Form_forget : Binds K D.d_Form_forget ["self", "question"] []
  m_Form_forget : Meth K D.C_Form "forget" D.f_Form_forget
  F_Form_result : Fun K "result" "Form.result" s_Form_result D.f_Form_result D.d_Form_result
  b_Form_result : Binds K D.d_Form_result ["self"] []
  m_Form_result : Meth K D.C_Form "result" D.f_Form_result
  F_Form_ways_before : Fun K "ways_before" "Form.ways_before" s_Form_ways_before D.f_Form_ways_before D.d_Form_ways_before
  b_Form_ways_before : Binds K D.d_Form_ways_before ["self", "count"] []
  m_Form_ways_before : Meth K D.C_Form "ways_before" D.f_Form_ways_before
  F_Form_tell_way : Fun K "tell_way" "Form.tell_way" s_Form_tell_way D.f_Form_tell_way D.d_Form_tell_way
  b_Form_tell_way : Binds K D.d_Form_tell_way ["self", "question", "asked"] []
  m_Form_tell_way : Meth K D.C_Form "tell_way" D.f_Form_tell_way
  F_Form_ever : Fun K "ever" "Form.ever" s_Form_ever D.f_Form_ever D.d_Form_ever
  b_Form_ever : Binds K D.d_Form_ever ["self", "question"] []
  m_Form_ever : Meth K D.C_Form "ever" D.f_Form_ever
  F_Form_always : Fun K "always" "Form.always" s_Form_always D.f_Form_always D.d_Form_always
  b_Form_always : Binds K D.d_Form_always ["self", "question"] []
  m_Form_always : Meth K D.C_Form "always" D.f_Form_always
  F_Form_most : Fun K "most" "Form.most" s_Form_most D.f_Form_most D.d_Form_most
  b_Form_most : Binds K D.d_Form_most ["self"] []
  m_Form_most : Meth K D.C_Form "most" D.f_Form_most
  F_call_length : Fun K "call_length" "call_length" s_call_length D.f_call_length D.d_call_length
  b_call_length : Binds K D.d_call_length ["calls", "start"] []
  m_call_length : mg "call_length" = some (.ref D.f_call_length)
  F_in_pairs : Fun K "in_pairs" "in_pairs" s_in_pairs D.f_in_pairs D.d_in_pairs
  b_in_pairs : Binds K D.d_in_pairs ["numbers"] []
  m_in_pairs : mg "in_pairs" = some (.ref D.f_in_pairs)
  F_make : Fun K "make" "make" s_make D.f_make D.d_make
  b_make : Binds K D.d_make ["form", "call"] []
  m_make : mg "make" = some (.ref D.f_make)
  F_fill_in : Fun K "fill_in" "fill_in" s_fill_in D.f_fill_in D.d_fill_in
  b_fill_in : Binds K D.d_fill_in ["form", "call"] []
  m_fill_in : mg "fill_in" = some (.ref D.f_fill_in)
  F_look_over : Fun K "look_over" "look_over" s_look_over D.f_look_over D.d_look_over
  b_look_over : Binds K D.d_look_over ["form", "call"] []
  m_look_over : mg "look_over" = some (.ref D.f_look_over)
  F_answer_call : Fun K "answer_call" "answer_call" s_answer_call D.f_answer_call D.d_answer_call
  b_answer_call : Binds K D.d_answer_call ["form", "call"] []
  m_answer_call : mg "answer_call" = some (.ref D.f_answer_call)
  F_answers : Fun K "answers" "answers" s_answers D.f_answers D.d_answers
  b_answers : Binds K D.d_answers ["calls"] []
  m_answers : mg "answers" = some (.ref D.f_answers)
  g_MOST_WAYS : ∃ t : Tok, mg "MOST_WAYS" = some (.int (300) t)
  g_WIDTH : ∃ t : Tok, mg "WIDTH" = some (.int (9) t)
  g_ALL_BITS : ∃ t : Tok, mg "ALL_BITS" = some (.int (511) t)
  g_PASSED_OVER : ∃ t : Tok, mg "PASSED_OVER" = some (.int (8) t)
  g_WAITING : ∃ t : Tok, mg "WAITING" = some (.int (-1) t)
  g_NO_QUESTION : ∃ t : Tok, mg "NO_QUESTION" = some (.int (-2) t)
  g_NO_ANSWER : ∃ t : Tok, mg "NO_ANSWER" = some (.int (-6) t)
  g_NOT_ASKED : ∃ t : Tok, mg "NOT_ASKED" = some (.int (-16) t)
  g_NOT_VALID : ∃ t : Tok, mg "NOT_VALID" = some (.int (-22) t)
  g_NO_ROOM : ∃ t : Tok, mg "NO_ROOM" = some (.int (-28) t)
  g_TOO_MANY : ∃ t : Tok, mg "TOO_MANY" = some (.int (-75) t)
  g_MOST_QUESTIONS : ∃ t : Tok, mg "MOST_QUESTIONS" = some (.int (24) t)
  g_MOST_OPTIONS : ∃ t : Tok, mg "MOST_OPTIONS" = some (.int (8) t)
  g_MOST_NEEDS : ∃ t : Tok, mg "MOST_NEEDS" = some (.int (4) t)
  g_MOST_CONDITIONS : ∃ t : Tok, mg "MOST_CONDITIONS" = some (.int (4) t)
  g_SET_LIMIT : ∃ t : Tok, mg "SET_LIMIT" = some (.int (512) t)
  g_BEGIN : ∃ t : Tok, mg "BEGIN" = some (.int (0) t)
  g_QUESTION : ∃ t : Tok, mg "QUESTION" = some (.int (1) t)
  g_NEED : ∃ t : Tok, mg "NEED" = some (.int (2) t)
  g_NEXT : ∃ t : Tok, mg "NEXT" = some (.int (3) t)
  g_ANSWER : ∃ t : Tok, mg "ANSWER" = some (.int (4) t)
  g_FORGET : ∃ t : Tok, mg "FORGET" = some (.int (5) t)
  g_RESULT : ∃ t : Tok, mg "RESULT" = some (.int (6) t)
  g_EVER : ∃ t : Tok, mg "EVER" = some (.int (7) t)
  g_ALWAYS : ∃ t : Tok, mg "ALWAYS" = some (.int (8) t)
  g_LENGTHS : mg "LENGTHS" = some (.ref D.a_LENGTHS)
  t_LENGTHS : ∀ H : Hp, SqT K H D.a_LENGTHS [.int (1), .int (2), .int (3), .int (1), .int (3), .int (2), .int (1), .int (2), .int (2), .int (1)]
  z_all : mg "all" = none
  z_enumerate : mg "enumerate" = none
  z_len : mg "len" = none
  z_list : mg "list" = none
  z_max : mg "max" = none
  z_range : mg "range" = none
end Aj
end
section
set_option Elab.async false
set_option linter.all false
set_option maxRecDepth 100000
set_option maxHeartbeats 4000000
/-! Rules that the layer lacks: list(d.values()), n.bit_length(), for over enumerate. -/
namespace Aj
open PySem PySem.Spec PyProof.Rows L2
section
variable {X : Cx}
theorem KV.vals {κ : Type} : ∀ {kvs : List (κ × V)} {vs : List (κ × Value)}, KV kvs vs → Vals (kvs.map (·.2)) (vs.map (·.2))
  | _, _, .nil => .nil
  | _, _, .cons r t => .cons r.2 (KV.vals t)
def tListVals (td : TE) : TE := fun σ H Q => td σ H fun x H1 => ∃ d kvs, x = .ref d ∧ H1 d = some (.dK kvs) ∧ ∀ l, H1 l = none → Q (.ref l) (upd H1 l (.lst (kvs.map (·.2))))
theorem pe_listVals {e : Expr} {td : TE} {p pos apos cpos : Pos} (hc : X.calm = true) (hg : Gl X "list") (hm : X.mg "list" = none) (he : PE X e td)
    (hbase : attributeBase e "values" X.env (eval e X.env) = eval e X.env := by rfl) (hline : (apos.endLine == cpos.line) = true := by rfl)
    (hs : starEach [.Call (.Attribute e "values" apos) [] [] cpos] X.env = [(false, eval (.Call (.Attribute e "values" apos) [] [] cpos) X.env)] := by rfl) :
    PE X (.Call (.Name "list" p) [.Call (.Attribute e "values" apos) [] [] cpos] [] pos) (tListVals td) := by
  intro pins s σ H Q I h
  refine wpAny_Call_Name_kw (ld_blt I hg hm (show bootBuiltins "list" = some (.type "list") by decide +kernel) ?_ (by decide) (by decide))
  refine PyProof.Rows.callWith_type1 ?_ hs rfl
  rw [hs]
  show wpAny _ _ (spliced ((false, eval (.Call (.Attribute e "values" apos) [] [] cpos) X.env) :: backTo pos [])) _ _ s
  refine Calls.spliced_cons ?_
  refine wpAny_Call_method (T := "dict") (id := "dict.values") hbase rfl hline PySem.F.plainAttrs_dict PySem.F.slot_dict_values PySem.F.type_dict_values (thn (he pins s σ H _ I h) fun u s1 ⟨x, H1, I1, rx, d, kvs, ex, hd, q⟩ => ?_)
  subst ex
  obtain rfl : u = Value.ref d := rx
  obtain ⟨hz, hsd, vs, kv, dd⟩ := dk_of I1.hok hd
  refine ⟨dd.typeIs, dd.mapOf.noDict, ?_⟩
  show wpAny _ _ (callWith cpos (.builtin "dict.values") [.ref d] [] []) _ X.xe s1
  refine method_meetsIn PySem.F.slot_dict_values PySem.F.entry_dict_values rfl (PySem.evalArgs_none ⟨rfl, dd.typeIs, PySem.F.args_dict_values_1 _, _, meets_dict_values (mixKind X.prog X.w) d hsd, ⟨vs, dd⟩, ?_⟩)
  refine Calls.spliced_nil ?_
  obtain ⟨ep, hat⟩ := dd.dictAt
  have I2 : Inv X pins σ H1 { s1 with heap := s1.heap.push { cls := .type "dict_values", data := .fields #[.ref d] } } := I1.kept (t' := s1.toks) fun b ob q => Heap.get?_push_of_some _ q
  have hl : kvs.length = vs.length := Paired.length kv
  refine PySem.W.kdl_call (PySem.W.kdl_values (knd := mixKind X.prog X.w) (kvs := vs) (ep := ep) (r := s1.heap.objs.size) (d := d)) (I2.ok.hd hc) ⟨⟨_, Heap.get?_push_size _ rfl, rfl, rfl⟩, hat.push _⟩ (by rw [← hl]; exact hz) fun h' tk acc' c' hk hD hacc => ?_
  have ev : acc'.toList = vs.map (·.2) := PySem.W.kdl_vals_eq acc'.toList (by rw [Array.length_toList]; exact hacc.1) fun j v e => hacc.2 j v (by rw [← Array.getElem?_toList]; exact e)
  refine ⟨.ref (s1.heap.push { cls := .type "dict_values", data := .fields #[.ref d] }).objs.size, _, I2.laid (t' := tk) (h' := h') hk (Nat.le_refl _) ?_, rfl, q _ (I2.hok.fresh (Nat.le_refl _))⟩
  refine ⟨by rw [List.length_map]; exact hz, acc'.toList, c', ?_, ?_⟩
  · rw [ev]
    exact KV.vals kv
  · rw [Array.toArray_toList]
    exact hD
/-- n.bit_length() -/
theorem mt_bitlen : MtR X "int.bit_length" (fun x xs H Q => ∃ i, x = .int i ∧ xs = [] ∧ Q (.int (Builtin.Int.intBits i)) H) := by
  intro pins s σ H x xs v us Q I rx rs h
  obtain ⟨i, rfl, rfl, q⟩ := h
  cases rs
  obtain ⟨t, rfl⟩ := rx
  exact call_int_bit_length ⟨.int (Builtin.Int.intBits i), H, I.tok _, ⟨_, rfl⟩, q⟩
end
/-- for i, x in enumerate(list): each turn a new pair -/
theorem for_enum {K : PySem.W.Frag} {a : Addr} {xs : List V} {g : TG} {tb : TS} {D : Ends} {σ : L2.St} {H : Hp} (Pv : Nat → L2.St → Hp → Prop) (h0 : Pv 0 σ H) (hl : ∀ i σ H, i ≤ xs.length → Pv i σ H → SqL K H a xs)
    (hs : ∀ i x σ H T, xs[i]? = some x → Pv i σ H → H T = none → g (.ref T) σ (upd H T (.tup [.int (i : Nat), x])) fun σ2 H2 => tb { D with nx := Pv (i + 1), ct := Pv (i + 1), bk := D.nx } σ2 H2) (hd : ∀ σ H, Pv xs.length σ H → D.nx σ H) :
    ∃ W : Nat → Nat → L2.St → Hp → Prop, (∃ m, W 0 m σ H) ∧ ∀ i m σ H, W i m σ H →
      ((Ite K a).stop i H ∧ D.nx σ H) ∨ ((Ite K a).go i H ∧ ∃ N : L2.St → Hp → Prop, (∀ σ' H', N σ' H' → ∃ m', m' < m ∧ W (i + 1) m' σ' H') ∧ ∀ x H', (Ite K a).yld i H x H' → g x σ H' fun σ2 H2 => tb { D with nx := N, ct := N, bk := D.nx } σ2 H2) := by
  refine ⟨fun i m σ H => m = xs.length - i ∧ i ≤ xs.length ∧ Pv i σ H, ⟨xs.length, by simp, Nat.zero_le _, h0⟩, ?_⟩
  rintro i m σ H ⟨rfl, hi, p⟩
  have q := hl i σ H hi p
  by_cases hlt : i < xs.length
  · refine .inr ⟨⟨xs, xs[i], q, by simp [hlt]⟩, Pv (i + 1), fun σ' H' p' => ⟨xs.length - (i + 1), by omega, rfl, hlt, p'⟩, fun x H' y => ?_⟩
    obtain ⟨T, x', e1, hT, e2, y⟩ := y
    subst e1 e2
    exact hs i x' σ _ T (y xs q) p hT
  · have e : i = xs.length := by omega
    subst e
    exact .inl ⟨⟨xs, q, Nat.le_refl _⟩, hd σ H p⟩
end Aj
end
section
set_option Elab.async false
set_option linter.all false
set_option maxRecDepth 100000
set_option maxHeartbeats 4000000
/-! A form's data on the heap; small words. -/
namespace Aj
open PySem PySem.Spec PyProof.Rows L2
open Kp201 (Literal House Came Ans Way)
abbrev nV (n : Nat) : V := .int (n : Int)

/-! ### pairs of lists -/
theorem pairGet {α β : Type} {F : α → β → Prop} : ∀ {as : List α} {bs : List β}, Paired F as bs → ∀ {i : Nat} {a : α}, as[i]? = some a → ∃ b, bs[i]? = some b ∧ F a b
  | _, _, .nil, i, a, e => by simp at e
  | _, _, .cons r _, 0, a, e => ⟨_, rfl, by have e' := Option.some.inj e; rw [← e']; exact r⟩
  | _, _, .cons _ t, i + 1, a, e => pairGet t (i := i) (by simpa using e)
theorem pairGetR {α β : Type} {F : α → β → Prop} : ∀ {as : List α} {bs : List β}, Paired F as bs → ∀ {i : Nat} {b : β}, bs[i]? = some b → ∃ a, as[i]? = some a ∧ F a b
  | _, _, .nil, i, b, e => by simp at e
  | _, _, .cons r _, 0, b, e => ⟨_, rfl, by have e' := Option.some.inj e; rw [← e']; exact r⟩
  | _, _, .cons _ t, i + 1, b, e => pairGetR t (i := i) (by simpa using e)
theorem pairLen {α β : Type} {F : α → β → Prop} : ∀ {as : List α} {bs : List β}, Paired F as bs → as.length = bs.length
  | _, _, .nil => rfl
  | _, _, .cons _ t => by rw [List.length_cons, List.length_cons, pairLen t]
theorem pairMono {α β : Type} {F G : α → β → Prop} (f : ∀ a b, F a b → G a b) : ∀ {as : List α} {bs : List β}, Paired F as bs → Paired G as bs
  | _, _, .nil => .nil
  | _, _, .cons r t => .cons (f _ _ r) (pairMono f t)
theorem pairMem {α β : Type} {F G : α → β → Prop} : ∀ {as : List α} {bs : List β}, Paired F as bs → (∀ a ∈ as, ∀ b ∈ bs, F a b → G a b) → Paired G as bs
  | _, _, .nil, _ => .nil
  | _, _, .cons r t, f => .cons (f _ (List.mem_cons_self ..) _ (List.mem_cons_self ..) r) (pairMem t fun a ha b hb => f a (List.mem_cons_of_mem _ ha) b (List.mem_cons_of_mem _ hb))
theorem pairSet {α β : Type} {F G : α → β → Prop} : ∀ {as : List α} {bs : List β} {i : Nat} {b : β}, Paired F as bs → (∀ j a b', j ≠ i → as[j]? = some a → bs[j]? = some b' → F a b' → G a b') → (∀ a, as[i]? = some a → G a b) → Paired G as (bs.set i b)
  | _, _, _, _, .nil, _, _ => .nil
  | _, _, 0, b, .cons r t, f, g => by
    refine .cons (g _ rfl) (pairMem' t fun j a b' h1 h2 => f (j + 1) a b' (by omega) h1 h2)
  | _, _, i + 1, b, .cons r t, f, g => .cons (f 0 _ _ (by omega) rfl rfl r) (pairSet t (fun j a b' hj h1 h2 => f (j + 1) a b' (by omega) h1 h2) fun a h => g a h)
where
  pairMem' {α β : Type} {F G : α → β → Prop} : ∀ {as : List α} {bs : List β}, Paired F as bs → (∀ (j : Nat) (a : α) (b : β), as[j]? = some a → bs[j]? = some b → F a b → G a b) → Paired G as bs
    | _, _, .nil, _ => .nil
    | _, _, .cons r t, f => .cons (f 0 _ _ rfl rfl r) (pairMem' t fun j a b h1 h2 => f (j + 1) a b h1 h2)

/-! ### conditions, needs, ways -/
def LitAt (H : Hp) (t : Addr) (l : Literal) : Prop := H t = some (.tup [nV l.q, nV l.set])
def ClAt (H : Hp) (a : Addr) (k : List Literal) : Prop := ∃ ts : List Addr, H a = some (.lst (ts.map V.ref)) ∧ Paired (LitAt H) ts k
theorem LitAt.same {H H' : Hp} (s : Same H H') {t : Addr} {l : Literal} (h : LitAt H t l) : LitAt H' t l := s _ _ h
theorem ClAt.same {H H' : Hp} (s : Same H H') {a : Addr} {k : List Literal} (h : ClAt H a k) : ClAt H' a k := let ⟨ts, h1, h2⟩ := h; ⟨ts, s _ _ h1, pairMono (fun _ _ q => LitAt.same s q) h2⟩
/-- a question's needs -/
def NdAt (H : Hp) (n : Addr) (x : Kp201.Question) : Prop := ∃ reps : List Nat, H n = some (.lst (reps.map nV)) ∧ Paired NeedRep reps x.clauses
theorem NdAt.same {H H' : Hp} (s : Same H H') {n : Addr} {x : Kp201.Question} (h : NdAt H n x) : NdAt H' n x := let ⟨r, h1, h2⟩ := h; ⟨r, s _ _ h1, h2⟩
def WayAt (H : Hp) (t : Addr) (w : Way) : Prop := ∃ R : Nat, H t = some (.tup [nV R, nV w.many]) ∧ Rep w.came R
def WaysAt (H : Hp) (v : Addr) (ws : List Way) : Prop := ∃ ts : List Addr, H v = some (.lst (ts.map V.ref)) ∧ Paired (WayAt H) ts ws
theorem WayAt.same {H H' : Hp} (s : Same H H') {t : Addr} {w : Way} (h : WayAt H t w) : WayAt H' t w := let ⟨R, h1, h2⟩ := h; ⟨R, s _ _ h1, h2⟩
theorem WaysAt.same {H H' : Hp} (s : Same H H') {v : Addr} {ws : List Way} (h : WaysAt H v ws) : WaysAt H' v ws := let ⟨ts, h1, h2⟩ := h; ⟨ts, s _ _ h1, pairMono (fun _ _ q => WayAt.same s q) h2⟩
/-- what the program tells of a question -/
def comeI (v : Nat) : Int := if v = 9 then -1 else (v : Int)
abbrev comeV (v : Nat) : V := .int (comeI v)
theorem comeI_le {v : Nat} (h : v ≤ 8) : comeI v = (v : Int) := by
  unfold comeI
  rw [if_neg (by omega)]

/-! ### bits -/
theorem and_nat (a b : Nat) : Builtin.bitAnd (a : Int) (b : Int) = ((a &&& b : Nat) : Int) := by
  rw [bitAnd_pp (Int.natCast_nonneg a) (Int.natCast_nonneg b), Int.toNat_natCast, Int.toNat_natCast]
theorem or_nat (a b : Nat) : Builtin.bitOr (a : Int) (b : Int) = ((a ||| b : Nat) : Int) := by
  have e : ∀ n : Nat, Builtin.bitNot (n : Int) = -((n : Int) + 1) := fun n => by unfold Builtin.bitNot; omega
  unfold Builtin.bitOr
  have h1 : ¬ (0 : Int) ≤ Builtin.bitNot (a : Int) := by rw [e]; omega
  have h2 : ¬ (0 : Int) ≤ Builtin.bitNot (b : Int) := by rw [e]; omega
  have h3 : Builtin.bitAnd (Builtin.bitNot (a : Int)) (Builtin.bitNot (b : Int)) = Builtin.bitNot (((Builtin.bitNot (Builtin.bitNot (a : Int))).toNat ||| (Builtin.bitNot (Builtin.bitNot (b : Int))).toNat : Nat) : Int) := by
    simp only [Builtin.bitAnd, h1, h2, decide_false]
  have h4 : ∀ z : Int, Builtin.bitNot (Builtin.bitNot z) = z := fun z => by unfold Builtin.bitNot; omega
  rw [h3, h4, h4, h4, Int.toNat_natCast, Int.toNat_natCast]
theorem pow_nat (b n : Nat) : (b : Int) * 2 ^ n = ((b * 2 ^ n : Nat) : Int) := by
  rw [Int.natCast_mul, Int.natCast_pow]
  rfl
theorem div_nat (b n : Nat) : (b : Int) / 2 ^ n = ((b / 2 ^ n : Nat) : Int) := by
  rw [Int.natCast_ediv, Int.natCast_pow]
  rfl
theorem bits_come {v : Nat} (h : v ≤ 9) : ((Builtin.Int.intBits (((if v = 9 then 0 else 2 ^ v : Nat)) : Int) : Nat) : Int) - 1 = comeI v := by
  have : v = 0 ∨ v = 1 ∨ v = 2 ∨ v = 3 ∨ v = 4 ∨ v = 5 ∨ v = 6 ∨ v = 7 ∨ v = 8 ∨ v = 9 := by omega
  rcases this with rfl | rfl | rfl | rfl | rfl | rfl | rfl | rfl | rfl | rfl <;> decide +kernel
theorem at_nat {xs : List V} {j : Nat} {v : V} (h : xs[j]? = some v) : atI xs (j : Int) = some v := at_of rfl h
theorem refs_at {as : List Addr} {i : Nat} {x : V} (h : (as.map V.ref)[i]? = some x) : ∃ a, as[i]? = some a ∧ x = .ref a := by
  rw [List.getElem?_map] at h
  cases e : as[i]? with
  | none => rw [e] at h; cases h
  | some a => rw [e] at h; exact ⟨a, rfl, (Option.some.inj h).symm⟩

section
variable {X : Cx} {pos : Pos}
/-- a constant of the file -/
theorem pe_gi {x : Str} {i : Int} (hm : ∃ t : Tok, X.mg x = some (.int i t)) (hg : Gl X x := by rfl) (hd : (x == ("__debug__" : Str)) = false := by decide) : PE X (.Name x pos) (tC (.int i)) := by
  obtain ⟨t, h⟩ := hm
  exact pe_glob (v := .int i) hg h ⟨t, rfl⟩ hd
end
theorem plain {b : Expr} (h : ∀ o i, subscripted b false o i = operate [o, i] (getItem o i) := by intro _ _; rfl) : PlainIx b := h
/-- a new object beside what was -/
theorem _root_.L2.Same.upd {H H' : Hp} {D : Addr} {o : HO} (s : Same H H') (n : H D = none) : Same H (upd H' D o) := fun b u e => by
  rw [upd_ne (ne_of_none e n)]
  exact s b u e
theorem _root_.L2.Same.new {H : Hp} {D : Addr} {o : HO} (n : H D = none) : Same H (L2.upd H D o) := Same.upd (fun _ _ e => e) n
theorem small {n : Nat} (h : n ≤ 1000000) : n ≤ sizeLine := Nat.le_trans h (by decide)
theorem small' {n : Nat} (h : n < 1000000) : n < sizeLine := Nat.lt_of_lt_of_le h (by decide)
end Aj
end
section
set_option Elab.async false
set_option linter.all false
set_option maxRecDepth 100000
set_option maxHeartbeats 4000000
/-! The defs that only look. -/
namespace Aj
open PySem PySem.Spec PyProof.Rows L2
open Kp201 (Literal House Came Ans Way)
section
variable {P : Program} {w : World} {K : PySem.W.Frag} {mg : Str → Option Value} {base : Heap} {D : Defs}

def spVC : Sp := fun vs H Q _ => ∃ (t : Addr) (l : Literal) (q : Nat), vs = [.ref t, nV q] ∧ LitAt H t l ∧ Q (.bl (decide (l.q < q) && decide (l.set < 512))) H
theorem ok_vc (T : Known K mg D) : FnOk P w K mg base CX0 1 D.f_is_valid_condition D.d_is_valid_condition ["condition", "question"] spVC := by
  refine T.F_is_valid_condition.ok sc_is_valid_condition (fun vs H Q E h => ?_) (fun cdv A outer s H vs Q E hr h => ?_)
  · obtain ⟨t, l, q, rfl, _⟩ := h
    rfl
  · obtain ⟨t, l, q, rfl, hl, k⟩ := h
    refine ⟨_, pss_one (ps_ret (pe_and (pe_cmpR op_lt (pe_ix ix_tup (pv 0) pe_int plain) (pv 1) (nomark _)) (pe_one (pe_cmpR op_lt (pe_ix ix_tup (pv 0) pe_int plain) (pe_gi T.g_SET_LIMIT) (nomark _))))), ?_⟩
    refine ⟨_, rfl, t, _, _, _, rfl, rfl, SqT.of hl, at_nat (j := 0) rfl, _, rfl, _, _, rfl, rfl, _, rfl, ?_⟩
    refine ite2 (fun c => ?_) (fun c => ?_)
    · refine ⟨_, rfl, t, _, _, _, rfl, rfl, SqT.of hl, at_nat (j := 1) rfl, _, _, rfl, rfl, ?_⟩
      have e1 : l.q < q := by have := of_decide_eq_true c; omega
      have e2 : (decide (l.q < q) && decide (l.set < 512)) = decide ((l.set : Int) < 512) := by
        rw [decide_eq_true e1, Bool.true_and]
        exact decide_eq_decide.mpr (by omega)
      rw [e2] at k
      exact k
    · have e1 : ¬ l.q < q := fun z => c (decide_eq_true (by omega))
      rw [decide_eq_false e1, Bool.false_and] at k
      exact k


def spPlaced : Sp := fun vs H Q _ => ∃ (q b : Nat), vs = [nV q, nV b] ∧ q ≤ 24 ∧ b < 512 ∧ Q (nV (b * 2 ^ (9 * q))) H
theorem ok_placed (T : Known K mg D) : FnOk P w K mg base CX0 1 D.f_placed D.d_placed ["question", "bits"] spPlaced := by
  refine T.F_placed.ok sc_placed (fun vs H Q E h => ?_) (fun cdv A outer s H vs Q E hr h => ?_)
  · obtain ⟨q, b, rfl, _⟩ := h
    rfl
  · obtain ⟨q, b, rfl, hq, hb, k⟩ := h
    refine ⟨_, pss_one (ps_ret (pe_op op_shl (pv 1) (pe_op op_mul (pe_gi T.g_WIDTH) (pv 0)))), ?_⟩
    refine ⟨_, rfl, _, rfl, _, _, rfl, rfl, .inl ⟨by decide, by decide⟩, _, _, rfl, rfl, ⟨by omega, by omega, by omega⟩, ?_⟩
    have e : ((9 : Int) * (q : Int)).toNat = 9 * q := by omega
    have e2 : (b : Int) * 2 ^ ((9 : Int) * (q : Int)).toNat = ((b * 2 ^ (9 * q) : Nat) : Int) := by rw [e, pow_nat]
    change Q (V.int ((b * 2 ^ (9 * q) : Nat) : Int)) H at k
    rw [← e2] at k
    exact k

def spMark : Sp := fun vs H Q _ => ∃ (q v : Nat), vs = [nV q, nV v] ∧ q ≤ 24 ∧ v ≤ 8 ∧ Q (nV (2 ^ v * 2 ^ (9 * q))) H
theorem ok_mark (T : Known K mg D) : FnOk P w K mg base CX0 2 D.f_mark D.d_mark ["question", "come"] spMark := by
  have GP : FnOk P w K mg base CX0 1 D.f_placed D.d_placed ["question", "bits"] spPlaced := ok_placed T
  refine T.F_mark.ok sc_mark (fun vs H Q E h => ?_) (fun cdv A outer s H vs Q E hr h => ?_)
  · obtain ⟨q, v, rfl, _⟩ := h
    rfl
  · obtain ⟨q, v, rfl, hq, hv, k⟩ := h
    refine ⟨_, pss_one (ps_ret (pe_call GP hr rfl T.m_placed T.F_placed.kp T.b_placed .nil pass0 (pa_cons (pv 0) (pa_cons (pe_op op_shl pe_int (pv 1)) pa_nil)))), ?_⟩
    have e : (1 : Int) * 2 ^ ((v : Int)).toNat = ((2 ^ v : Nat) : Int) := by
      rw [Int.toNat_natCast, Int.one_mul, Int.natCast_pow]
      rfl
    refine ⟨_, rfl, _, rfl, _, _, rfl, rfl, ⟨by omega, by omega, by decide⟩, q, 2 ^ v, ?_, hq, pow_lt512 hv, k⟩
    show [nV q, V.int ((1 : Int) * 2 ^ ((v : Int)).toNat)] = [nV q, nV (2 ^ v)]
    rw [e]

def spNeedOf : Sp := fun vs H Q _ => ∃ (c : Addr) (ks : List Literal), vs = [.ref c] ∧ ClAt H c ks ∧ (∀ l ∈ ks, l.q < 24 ∧ l.set < 512) ∧ Q (nV (needN ks)) H
theorem ok_need_of (T : Known K mg D) : FnOk P w K mg base CX0 2 D.f_need_of D.d_need_of ["conditions"] spNeedOf := by
  have GP : FnOk P w K mg base CX0 1 D.f_placed D.d_placed ["question", "bits"] spPlaced := ok_placed T
  refine T.F_need_of.ok sc_need_of (fun vs H Q E h => ?_) (fun cdv A outer s H vs Q E hr h => ?_)
  · obtain ⟨c, ks, rfl, _⟩ := h
    rfl
  · obtain ⟨c, ks, rfl, ⟨ts, hc, hp⟩, hin, k⟩ := h
    refine ⟨_, pss_cons (ps_set (i := 1) sc_need_of.nd rfl (Or.inl rfl) pe_int)
      (pss_cons (ps_for PassesOwn.never rfl (pi_list (pv 0)) (pg_tup rfl (pgs_cons (pg_name (i := 2) sc_need_of.nd rfl (Or.inl rfl)) (pgs_cons (pg_name (i := 3) sc_need_of.nd rfl (Or.inl rfl)) pgs_nil)))
        (pss_one (ps_set (i := 1) sc_need_of.nd rfl (Or.inl rfl) (pe_op op_or (pv 1) (pe_call GP hr rfl T.m_placed T.F_placed.kp T.b_placed .nil pass0 (pa_cons (pv 2) (pa_cons (pv 3) pa_nil)))))))
      (pss_one (ps_ret (pv 1)))), ?_⟩
    refine ⟨_, rfl, c, rfl, ⟨_, SqL.of hc⟩, ?_⟩
    refine for_list (K := K) (a := c) (xs := ts.map V.ref) (fun i σ H' => ∃ v2 v3, σ = [some (.ref c), some (nV (needN (ks.take i))), v2, v3] ∧ H' = H)
      ⟨none, none, rfl, rfl⟩ (fun i σ H' _ ⟨_, _, _, e⟩ => by rw [e]; exact SqL.of hc) ?_ ?_
    · rintro i x σ H' hi ⟨v2, v3, rfl, rfl⟩
      obtain ⟨t, ht, rfl⟩ := refs_at hi
      obtain ⟨l, hl, hlt⟩ := pairGet hp ht
      have g := hin l (List.mem_of_getElem? hl)
      refine ⟨t, _, rfl, SqT.of hlt, rfl, _, _, rfl, _, _, rfl, rfl, ?_⟩
      refine ⟨_, rfl, _, rfl, _, rfl, l.q, l.set, rfl, by omega, g.2, _, _, rfl, rfl, some (nV l.q), some (nV l.set), ?_, rfl⟩
      have e : Builtin.bitOr ((needN (ks.take i) : Nat) : Int) ((l.set * 2 ^ (9 * l.q) : Nat) : Int) = ((needN (ks.take (i + 1)) : Nat) : Int) := by
        rw [or_nat, take_snoc' hl, needN_snoc]
      show [some (V.ref c), some (V.int (Builtin.bitOr ((needN (ks.take i) : Nat) : Int) ((l.set * 2 ^ (9 * l.q) : Nat) : Int))), some (nV l.q), some (nV l.set)] = _
      rw [e]
    · rintro σ H' ⟨v2, v3, rfl, rfl⟩
      refine ⟨_, rfl, ?_⟩
      rw [List.length_map, pairLen hp, List.take_length]
      exact k

def spNamesOf : Sp := fun vs H Q _ => ∃ (c : Addr) (ks : List Literal), vs = [.ref c] ∧ ClAt H c ks ∧ ks.length ≤ 4 ∧ (∀ l ∈ ks, l.q < 24) ∧ ∀ H', Same H H' → Q (nV (needN (full ks))) H'
theorem ok_names_of (T : Known K mg D) : FnOk P w K mg base CX0 3 D.f_names_of D.d_names_of ["conditions"] spNamesOf := by
  have GN : FnOk P w K mg base CX0 2 D.f_need_of D.d_need_of ["conditions"] spNeedOf := ok_need_of T
  refine T.F_names_of.ok sc_names_of (fun vs H Q E h => ?_) (fun cdv A outer s H vs Q E hr h => ?_)
  · obtain ⟨c, ks, rfl, _⟩ := h
    rfl
  · obtain ⟨c, ks, rfl, ⟨ts, hc, hp⟩, h4, hin, k⟩ := h
    refine ⟨_, pss_one (ps_ret (pe_call GN hr rfl T.m_need_of T.F_need_of.kp T.b_need_of .nil pass0 (pa_cons
      (pe_lc (own := [("condition", 1)]) rfl sc_names_of.nd (pi_list (pv 0)) (blkOk_by (N := ["conditions", "condition"]) (sc := defScope s_names_of) (by decide +kernel)) (fun _ _ _ _ _ => pg_name (i := 1) sc_names_of.nd rfl (Or.inl rfl)) (fun _ _ _ _ _ => pts_nil)
        (fun _ _ _ _ _ => pe_tup (pa_cons (pe_ix (r := rIxT K) ix_tup (pv 1) pe_int plain) (pa_cons (pe_gi T.g_ALL_BITS) pa_nil)))) pa_nil))), ?_⟩
    refine ⟨_, rfl, c, rfl, ⟨_, SqL.of hc⟩, fun L hL => ?_⟩
    refine lc_list (K := K) (a := c) (xs := ts.map V.ref) (fun i H' => Same H H' ∧ ∃ us : List Addr, H' L = some (.lst (us.map V.ref)) ∧ Paired (LitAt H') us ((full ks).take i))
      ⟨Same.new hL, [], upd_same, .nil⟩ (fun i H' _ ⟨s1, _⟩ => s1.seq (SqL.of hc)) ?_ ?_
    · rintro i x H' hi ⟨s1, us, h1, hus⟩
      obtain ⟨t, ht, rfl⟩ := refs_at hi
      obtain ⟨l, hl, hlt⟩ := pairGet hp ht
      refine ⟨rfl, _, rfl, t, _, _, _, rfl, rfl, SqT.of (hlt.same s1), at_nat (j := 0) rfl, (by show 2 ≤ sizeLine; decide), fun t2 ht2 => ?_⟩
      have nL : L ≠ t2 := ne_of_none h1 ht2
      have hul : us.length ≤ 4 := by
        rw [pairLen hus, List.length_take]
        unfold full
        rw [List.length_map]
        omega
      refine ⟨_, by rw [upd_ne nL]; exact h1, by rw [List.length_map]; exact small' (by omega), (s1.upd (s1.free ht2)).upd hL, us ++ [t2], ?_, ?_⟩
      · rw [upd_same, List.map_append]
        rfl
      · have hf : (full ks)[i]? = some ⟨l.q, 511⟩ := by
          unfold full
          rw [List.getElem?_map, hl]
          rfl
        rw [take_snoc' hf]
        have st : ∀ (o : HO) (x : Addr) (l' : Literal), LitAt H' x l' → LitAt (upd (upd H' t2 (.tup [nV l.q, V.int 511])) L o) x l' := fun o x l' hx => by
          have hx' : H' x = some (.tup [nV l'.q, nV l'.set]) := hx
          show upd _ L o x = _
          rw [upd_ne (ne_of hx' h1 (by intro z; cases z)), upd_ne (ne_of_none hx' ht2)]
          exact hx'
        refine Paired.snoc (pairMono (fun x l' hx => st _ x l' hx) hus) ?_
        show upd _ L _ t2 = _
        rw [upd_ne nL.symm, upd_same]
        rfl
    · rintro H' ⟨s1, us, h1, hus⟩
      have e : ts.length = (full ks).length := by
        unfold full
        rw [List.length_map]
        exact pairLen hp
      rw [List.length_map, e, List.take_length] at hus
      refine ⟨L, full ks, rfl, ⟨us, h1, hus⟩, fun l hl => ⟨?_, full_set l hl⟩, k H' s1⟩
      obtain ⟨y, hy, rfl⟩ := List.mem_map.mp hl
      exact hin y hy

/-- a question that stands behind a row, and the row -/
structure AskOk (x : Kp201.Question) : Prop where
  nc : x.clauses.length ≤ 4
  st : ∀ k ∈ x.clauses, ∀ l ∈ k, l.set < 512
theorem asked_bits {c : Came} {R : Nat} {x : Kp201.Question} (hR : Rep c R) (hs : ∀ k ∈ x.clauses, ∀ l ∈ k, l.set < 512) {reps : List Nat} (hp : Paired NeedRep reps x.clauses) : (reps.all fun N => decide (R &&& N ≠ 0)) = Kp201.asked c x := by
  unfold Kp201.asked
  generalize x.clauses = cs at hs hp
  induction hp with
  | nil => rfl
  | cons r _ ih =>
    rw [List.all_cons, List.all_cons, met_bits hR r (hs _ (List.mem_cons_self ..)), ih fun k hk => hs k (List.mem_cons_of_mem _ hk)]
def spAsked : Sp := fun vs H Q _ => ∃ (n : Addr) (R : Nat) (c : Came) (x : Kp201.Question), vs = [.ref n, nV R] ∧ NdAt H n x ∧ AskOk x ∧ Rep c R ∧ ∀ H', Same H H' → Q (.bl (Kp201.asked c x)) H'
theorem ok_asked (T : Known K mg D) : FnOk P w K mg base CX0 1 D.f_is_asked D.d_is_asked ["needs", "row"] spAsked := by
  refine T.F_is_asked.ok sc_is_asked (fun vs H Q E h => ?_) (fun cdv A outer s H vs Q E hr h => ?_)
  · obtain ⟨n, R, c, x, rfl, _⟩ := h
    rfl
  · obtain ⟨n, R, c, x, rfl, ⟨reps, hn, hp⟩, ax, hR, k⟩ := h
    refine ⟨_, pss_one (ps_ret (pe_callB (cr_all rfl) (by rfl) T.z_all boot_all (pa_cons
      (pe_lc (own := [("need", 2)]) rfl sc_is_asked.nd (pi_list (pv 0)) (blkOk_by (N := ["needs", "row", "need"]) (sc := defScope s_is_asked) (by decide +kernel)) (fun _ _ _ _ _ => pg_name (i := 2) sc_is_asked.nd rfl (Or.inl rfl)) (fun _ _ _ _ _ => pts_nil)
        (fun _ _ _ _ _ => pe_cmpR op_ne (pe_op op_and (pv 1) (pv 2)) pe_int (nomark _))) pa_nil))), ?_⟩
    refine ⟨_, rfl, n, rfl, ⟨_, SqL.of hn⟩, fun L hL => ?_⟩
    have hl4 : reps.length ≤ 4 := by rw [pairLen hp]; exact ax.nc
    refine lc_list (K := K) (a := n) (xs := reps.map nV) (fun i H' => Same H H' ∧ H' L = some (.lst ((reps.take i).map fun N => V.bl (decide (R &&& N ≠ 0)))))
      ⟨Same.new hL, upd_same⟩ (fun i H' _ ⟨s1, _⟩ => s1.seq (SqL.of hn)) ?_ ?_
    · rintro i v H' hi ⟨s1, h1⟩
      obtain ⟨N, hN, rfl⟩ : ∃ N, reps[i]? = some N ∧ v = nV N := by
        rw [List.getElem?_map] at hi
        cases e : reps[i]? with
        | none => rw [e] at hi; cases hi
        | some N => rw [e] at hi; exact ⟨N, rfl, (Option.some.inj hi).symm⟩
      refine ⟨rfl, _, rfl, _, rfl, _, _, rfl, rfl, rfl, _, h1, ?_, s1.upd hL, ?_⟩
      · rw [List.length_map, List.length_take]
        exact small' (by omega)
      · rw [upd_same, take_snoc' hN, List.map_append]
        have e : (!decide (V.int (Builtin.bitAnd (R : Int) (N : Int)) = V.int 0)) = decide (R &&& N ≠ 0) := by
          rw [and_nat, Bool.eq_iff_iff, Bool.not_eq_true', decide_eq_false_iff_not, decide_eq_true_eq]
          constructor
          · intro h z
            exact h (by rw [z]; rfl)
          · intro h z
            have z' : (((R &&& N : Nat)) : Int) = 0 := by injection z
            omega
        show some (HO.lst (_ ++ [V.bl (!decide (V.int (Builtin.bitAnd (R : Int) (N : Int)) = V.int 0))])) = _
        rw [e]
        rfl
    · rintro H' ⟨s1, h1⟩
      rw [List.length_map, List.take_length] at h1
      refine ⟨L, reps.map fun N => decide (R &&& N ≠ 0), rfl, SqL.of (by rw [h1, List.map_map]; rfl), ?_⟩
      have e := asked_bits hR ax.st hp
      rw [List.all_map]
      have := k H' s1
      rw [← e] at this
      exact this

def spCome : Sp := fun vs H Q _ => ∃ (q R v : Nat) (c : Came), vs = [nV q, nV R] ∧ q ≤ 24 ∧ Rep c R ∧ c[q]? = some v ∧ v ≤ 9 ∧ Q (comeV v) H
theorem ok_come_of (T : Known K mg D) : FnOk P w K mg base CX0 1 D.f_come_of D.d_come_of ["question", "row"] spCome := by
  refine T.F_come_of.ok sc_come_of (fun vs H Q E h => ?_) (fun cdv A outer s H vs Q E hr h => ?_)
  · obtain ⟨q, R, v, c, rfl, _⟩ := h
    rfl
  · obtain ⟨q, R, v, c, rfl, hq, hR, hv, h9, k⟩ := h
    refine ⟨_, pss_cons (ps_set (i := 2) sc_come_of.nd rfl (Or.inl rfl) (pe_op op_and (pe_op op_shr (pv 1) (pe_op op_mul (pe_gi T.g_WIDTH) (pv 0))) (pe_gi T.g_ALL_BITS)))
      (pss_one (ps_ret (pe_op op_sub (pe_bm0 PySem.F.plainAttrs_int slot_int_bit_length type_int_bit_length mt_bitlen (pv 2)) pe_int))), ?_⟩
    refine ⟨_, rfl, _, rfl, _, _, rfl, rfl, .inl ⟨by decide, by decide⟩, _, _, rfl, rfl, (by show (0 : Int) ≤ 9 * (q : Int); omega), _, _, rfl, rfl, ?_⟩
    refine ⟨_, rfl, rfl, _, rfl, rfl, _, _, rfl, rfl, ?_⟩
    have e : ((9 : Int) * (q : Int)).toNat = 9 * q := by omega
    have e2 : Builtin.bitAnd ((R : Int) / 2 ^ ((9 : Int) * (q : Int)).toNat) 511 = (((if v = 9 then 0 else 2 ^ v : Nat)) : Int) := by
      rw [e, div_nat, show (511 : Int) = ((511 : Nat) : Int) from rfl, and_nat, rep_at hR hv h9]
    show Q (V.int (((Builtin.Int.intBits (Builtin.bitAnd ((R : Int) / 2 ^ ((9 : Int) * (q : Int)).toNat) 511) : Nat) : Int) - 1)) H
    rw [e2, bits_come h9]
    exact k

def spWhat : Sp := fun vs H Q _ => ∃ (R : Nat) (c : Came), vs = [nV R, nV c.length] ∧ c.length ≤ 24 ∧ Rep c R ∧ (∀ v ∈ c, v ≤ 9) ∧ ∀ H' a, Same H H' → H a = none → H' a = some (.lst (c.map comeV)) → Q (.ref a) H'
theorem ok_what_comes (T : Known K mg D) : FnOk P w K mg base CX0 2 D.f_what_comes D.d_what_comes ["row", "count"] spWhat := by
  have GC : FnOk P w K mg base CX0 1 D.f_come_of D.d_come_of ["question", "row"] spCome := ok_come_of T
  refine T.F_what_comes.ok sc_what_comes (fun vs H Q E h => ?_) (fun cdv A outer s H vs Q E hr h => ?_)
  · obtain ⟨R, c, rfl, _⟩ := h
    rfl
  · obtain ⟨R, c, rfl, h24, hR, h9, k⟩ := h
    refine ⟨_, pss_one (ps_ret (pe_lc (own := [("question", 2)]) rfl sc_what_comes.nd (pi_range1 rfl T.z_range (pa_cons (pv 1) pa_nil)) (blkOk_by (N := ["row", "count", "question"]) (sc := defScope s_what_comes) (by decide +kernel))
      (fun _ _ _ _ _ => pg_name (i := 2) sc_what_comes.nd rfl (Or.inl rfl)) (fun _ _ _ _ _ => pts_nil)
      (fun _ _ _ _ _ => pe_call GC hr rfl T.m_come_of T.F_come_of.kp T.b_come_of .nil pass0 (pa_cons (pv 2) (pa_cons (pv 0) pa_nil))))), ?_⟩
    refine ⟨_, rfl, _, rfl, by omega, by omega, fun L hL => ?_⟩
    rw [Int.toNat_natCast]
    refine lc_range (fun i H' => Same H H' ∧ H' L = some (.lst ((c.take i).map comeV))) ⟨Same.new hL, upd_same⟩ ?_ ?_
    · rintro i H' hi ⟨s1, h1⟩
      have hv : c[i]? = some c[i] := List.getElem?_eq_getElem hi
      have e0 : (0 : Int) + (i : Nat) = ((i : Nat) : Int) := by omega
      rw [e0]
      refine ⟨rfl, _, rfl, _, rfl, i, R, c[i], c, rfl, by omega, hR, hv, h9 _ (List.getElem_mem hi), _, h1, ?_, s1.upd hL, ?_⟩
      · rw [List.length_map, List.length_take]
        exact small' (by omega)
      · rw [upd_same, take_snoc' hv, List.map_append]
        rfl
    · rintro H' ⟨s1, h1⟩
      rw [List.take_length] at h1
      exact k H' L s1 hL h1

def spNamed (K : PySem.W.Frag) : Sp := fun vs H Q _ => ∃ (a : Addr) (nms : List Nat) (f : Kp201.Form) (q : Nat), vs = [.ref a, nV q] ∧ H a = some (.lst (nms.map nV)) ∧ Paired NameRep nms f ∧ q < f.length ∧
  ∀ H' N, Same H H' → NamedRep N (f.drop (q + 1)) → Q (nV N) H'
theorem pairDrop {α β : Type} {F : α → β → Prop} : ∀ (n : Nat) {as : List α} {bs : List β}, Paired F as bs → Paired F (as.drop n) (bs.drop n)
  | 0, _, _, h => h
  | _ + 1, _, _, .nil => .nil
  | n + 1, _, _, .cons _ t => pairDrop n t
theorem cutV_from (xs : List V) (j : Nat) : cutV xs (some (j : Int)) none = xs.drop j := by
  unfold cutV
  rw [HT.sIx_nat, HT.sIx_none]
  by_cases h : j ≤ xs.length
  · rw [Nat.min_eq_left h, List.take_of_length_le (by rw [List.length_drop]; omega)]
  · rw [Nat.min_eq_right (by omega), List.drop_eq_nil_of_le (Nat.le_refl _), List.drop_eq_nil_of_le (by omega), List.take_nil]
theorem ok_named (T : Known K mg D) : FnOk P w K mg base CX0 1 D.f_named_behind D.d_named_behind ["names", "question"] (spNamed K) := by
  refine T.F_named_behind.ok sc_named_behind (fun vs H Q E h => ?_) (fun cdv A outer s H vs Q E hr h => ?_)
  · obtain ⟨a, nms, f, q, rfl, _⟩ := h
    rfl
  · obtain ⟨a, nms, f, q, rfl, ha, hp, hq, k⟩ := h
    refine ⟨_, pss_cons (ps_set (i := 2) sc_named_behind.nd rfl (Or.inl rfl) pe_int)
      (pss_cons (ps_for PassesOwn.never rfl (pi_list (pe_slice sl_list (pv 0) (po_some (pe_op op_add (pv 1) pe_int)) po_none)) (pg_name (i := 3) sc_named_behind.nd rfl (Or.inl rfl))
        (pss_one (ps_set (i := 2) sc_named_behind.nd rfl (Or.inl rfl) (pe_op op_or (pv 2) (pv 3)))))
      (pss_one (ps_ret (pv 2)))), ?_⟩
    have eq1 : (q : Int) + 1 = ((q + 1 : Nat) : Int) := by omega
    refine ⟨_, rfl, _, rfl, _, _, rfl, rfl, _, rfl, a, _, rfl, SqL.of ha, fun sl hsl => ?_⟩
    have ecut : cutV (nms.map nV) (some ((q : Int) + 1)) none = (nms.drop (q + 1)).map nV := by rw [eq1, cutV_from, List.map_drop]
    have s0 : Same H (upd H sl (.lst (cutV (nms.map nV) (some ((q : Int) + 1)) none))) := Same.new hsl
    have hsl' : upd H sl (.lst (cutV (nms.map nV) (some ((q : Int) + 1)) none)) sl = some (.lst ((nms.drop (q + 1)).map nV)) := by rw [upd_same, ecut]
    have hp' := pairDrop (q + 1) hp
    refine ⟨sl, rfl, ⟨_, SqL.of hsl'⟩, ?_⟩
    refine for_list (K := K) (a := sl) (xs := (nms.drop (q + 1)).map nV) (fun i σ H' => ∃ (N : Nat) (v3 : Option V), σ = [some (.ref a), some (nV q), some (nV N), v3] ∧ H' = upd H sl (.lst (cutV (nms.map nV) (some ((q : Int) + 1)) none)) ∧ NamedRep N ((f.drop (q + 1)).take i))
      ⟨0, none, rfl, rfl, named_nil⟩ (fun i σ H' _ ⟨_, _, _, e, _⟩ => by rw [e]; exact SqL.of hsl') ?_ ?_
    · rintro i v σ H' hi ⟨N, v3, rfl, rfl, hN⟩
      obtain ⟨M, hM, rfl⟩ : ∃ M, (nms.drop (q + 1))[i]? = some M ∧ v = nV M := by
        rw [List.getElem?_map] at hi
        cases e : (nms.drop (q + 1))[i]? with
        | none => rw [e] at hi; cases hi
        | some M => rw [e] at hi; exact ⟨M, rfl, (Option.some.inj hi).symm⟩
      obtain ⟨x, hx, hxM⟩ := pairGet hp' hM
      refine ⟨_, rfl, _, rfl, _, _, rfl, rfl, N ||| M, some (nV M), ?_, rfl, ?_⟩
      · show [some (V.ref a), some (nV q), some (V.int (Builtin.bitOr (N : Int) (M : Int))), some (nV M)] = _
        rw [or_nat]
      · rw [take_snoc' hx]
        exact named_snoc hN hxM
    · rintro σ H' ⟨N, v3, rfl, rfl, hN⟩
      rw [List.length_map, pairLen hp', List.take_length] at hN
      exact ⟨_, rfl, k _ N s0 hN⟩

def spVN (K : PySem.W.Frag) : Sp := fun vs H Q _ => ∃ (c : Addr) (ls : List Literal) (q : Nat), vs = [.ref c, nV q] ∧ ClAt H c ls ∧ ls.length ≤ 1000 ∧
  ∀ H', Same H H' → Q (.bl (!(ls.isEmpty || (decide (4 < ls.length) || ls.any fun l => !(decide (l.q < q) && decide (l.set < 512)))))) H'
theorem ok_vn (T : Known K mg D) : FnOk P w K mg base CX0 2 D.f_is_valid_need D.d_is_valid_need ["conditions", "question"] (spVN K) := by
  have GV : FnOk P w K mg base CX0 1 D.f_is_valid_condition D.d_is_valid_condition ["condition", "question"] spVC := ok_vc T
  refine T.F_is_valid_need.ok sc_is_valid_need (fun vs H Q E h => ?_) (fun cdv A outer s H vs Q E hr h => ?_)
  · obtain ⟨c, ls, q, rfl, _⟩ := h
    rfl
  · obtain ⟨c, ls, q, rfl, ⟨ts, hc, hp⟩, hz, k⟩ := h
    have el : ((ts.map V.ref).length : Int) = (ls.length : Int) := by rw [List.length_map, pairLen hp]
    refine ⟨_, pss_cons (ps_if (pw_or (pt_cmpR op_lt (pe_callB call_len_seq (by rfl) T.z_len PySem.boot_len (pa_cons (pv 0) pa_nil)) pe_int (nomark _))
        (pw_or1 (pt_cmpR op_gt (pe_callB call_len_seq (by rfl) T.z_len PySem.boot_len (pa_cons (pv 0) pa_nil)) (pe_gi T.g_MOST_CONDITIONS) (nomark _)))).pt (pss_one (ps_ret pe_bl)) pss_nil)
      (pss_one (ps_ret (pe_callB (cr_all rfl) (by rfl) T.z_all boot_all (pa_cons
      (pe_lc (own := [("condition", 2)]) rfl sc_is_valid_need.nd (pi_list (pv 0)) (blkOk_by (N := ["conditions", "question", "condition"]) (sc := defScope s_is_valid_need) (by decide +kernel)) (fun _ _ _ _ _ => pg_name (i := 2) sc_is_valid_need.nd rfl (Or.inl rfl)) (fun _ _ _ _ _ => pts_nil)
        (fun _ _ _ _ _ => pe_call GV hr rfl T.m_is_valid_condition T.F_is_valid_condition.kp T.b_is_valid_condition .nil pass0 (pa_cons (pv 2) (pa_cons (pv 1) pa_nil)))) pa_nil)))), ?_⟩
    refine ⟨_, rfl, c, _, rfl, .inl (SqL.of hc), _, _, rfl, rfl, _, rfl, ?_⟩
    refine ite2 (fun c1 => ?_) (fun c1 => ?_)
    · refine iteT ?_
      have e1 : ls = [] := List.eq_nil_of_length_eq_zero (by have := of_decide_eq_true c1; omega)
      have := k H (Same.refl H)
      rw [e1] at this
      exact this
    · have n0 : ls.isEmpty = false := by
        cases ls with
        | nil => exact absurd (decide_eq_true (by rw [el]; decide)) c1
        | cons _ _ => rfl
      rw [n0, Bool.false_or] at k
      refine ⟨_, rfl, c, _, rfl, .inl (SqL.of hc), _, _, rfl, rfl, _, rfl, ?_⟩
      refine ite2 (fun c2 => ?_) (fun c2 => ?_)
      · have e2 : 4 < ls.length := by have := of_decide_eq_true c2; omega
        have := k H (Same.refl H)
        rw [decide_eq_true e2] at this
        exact this
      · have e2 : ¬ 4 < ls.length := fun z => c2 (decide_eq_true (by rw [el]; omega))
        rw [decide_eq_false e2, Bool.false_or] at k
        refine ⟨_, rfl, c, rfl, ⟨_, SqL.of hc⟩, fun L hL => ?_⟩
        refine lc_list (K := K) (a := c) (xs := ts.map V.ref) (fun i H' => Same H H' ∧ H' L = some (.lst ((ls.take i).map fun l => V.bl (decide (l.q < q) && decide (l.set < 512)))))
          ⟨Same.new hL, upd_same⟩ (fun i H' _ ⟨s1, _⟩ => s1.seq (SqL.of hc)) ?_ ?_
        · rintro i x H' hi ⟨s1, h1⟩
          obtain ⟨t, ht, rfl⟩ := refs_at hi
          obtain ⟨l, hl, hlt⟩ := pairGet hp ht
          refine ⟨rfl, _, rfl, _, rfl, t, l, q, rfl, hlt.same s1, _, h1, ?_, s1.upd hL, ?_⟩
          · rw [List.length_map, List.length_take]
            exact small' (by omega)
          · rw [upd_same, take_snoc' hl, List.map_append]
            rfl
        · rintro H' ⟨s1, h1⟩
          have e : ts.length = ls.length := pairLen hp
          rw [List.length_map, e, List.take_length] at h1
          refine ⟨L, ls.map fun l => (decide (l.q < q) && decide (l.set < 512)), rfl, SqL.of (by rw [h1, List.map_map]; rfl), ?_⟩
          have := k H' s1
          rw [List.not_any_eq_all_not] at this
          rw [List.all_map]
          simpa using this
end
end Aj
end
section
set_option Elab.async false
set_option linter.all false
set_option maxRecDepth 100000
set_option maxHeartbeats 4000000
/-! The dict of the ways that are told apart. -/
namespace Aj
open PySem PySem.Spec PyProof.Rows L2
open Kp201 (Literal House Came Ans Way)

/-! ### a dict's pairs, one put in -/
theorem putD_pos {kv : Key × V} {r : List (Key × V)} {k : Key} (v : V) (e : kv.1 = k) (h : k ∉ r.map (·.1)) : L2.putK (kv :: r) k v = (kv.1, v) :: r := by
  unfold L2.putK
  rw [List.any_cons, decide_eq_true e, Bool.true_or, if_pos rfl, List.map_cons, if_pos e]
  congr 1
  refine (List.map_congr_left fun x hx => ?_).trans (List.map_id r)
  rw [if_neg fun z => h (List.mem_map.mpr ⟨x, hx, z⟩)]
  rfl
theorem putD_neg {kv : Key × V} {r : List (Key × V)} {k : Key} (v : V) (e : ¬ kv.1 = k) : L2.putK (kv :: r) k v = kv :: L2.putK r k v := by
  unfold L2.putK
  rw [List.any_cons, decide_eq_false e, Bool.false_or]
  split
  · rw [List.map_cons, if_neg e]
  · rfl
theorem putD_keys {k : Key} (v : V) : ∀ {kvs : List (Key × V)} {u : V}, valV kvs k = some u → (L2.putK kvs k v).map (·.1) = kvs.map (·.1) := fun {kvs u} h => by
  unfold L2.putK
  rw [valV_any, h, if_pos (show (some u).isSome = true from rfl), List.map_map]
  refine List.map_congr_left fun x _ => ?_
  show (if x.1 = k then (x.1, v) else x).1 = x.1
  split <;> rfl

/-- one of the ways that are told apart, as it is kept -/
structure KeptAs (N n : Nat) (rest : Kp201.Form) (H : Hp) (kv : Key × V) (y : Kp201.Keyed) (R : Nat) (t : Addr) : Prop where
  kv : kv = (Sum.inl ((R &&& N : Nat) : Int), V.ref t)
  tup : H t = some (.tup [nV R, nV y.way.many])
  rep : Rep y.way.came R
  key : y.key = keyAt rest n y.way.came
  len : y.way.came.length = n + 1
  le : Le8 y.way.came
def KeptAt (N n : Nat) (rest : Kp201.Form) (H : Hp) (kv : Key × V) (y : Kp201.Keyed) : Prop := ∃ R t, KeptAs N n rest H kv y R t
structure AlikeOf (N n : Nat) (rest : Kp201.Form) (H : Hp) (d : Addr) (kvs : List (Key × V)) (acc : List Kp201.Keyed) : Prop where
  dict : H d = some (.dK kvs)
  pair : Paired (KeptAt N n rest H) kvs acc
  nd : (kvs.map (·.1)).Nodup
def AlikeAt (N n : Nat) (rest : Kp201.Form) (H : Hp) (d : Addr) (acc : List Kp201.Keyed) : Prop := ∃ kvs, AlikeOf N n rest H d kvs acc
/-- tuples stay -/
def TupKeep (H H' : Hp) : Prop := ∀ t xs, H t = some (.tup xs) → H' t = some (.tup xs)
theorem KeptAt.keep {N n : Nat} {rest : Kp201.Form} {H H' : Hp} {kv : Key × V} {y : Kp201.Keyed} (h : KeptAt N n rest H kv y) (k : TupKeep H H') : KeptAt N n rest H' kv y := let ⟨R, t, q⟩ := h; ⟨R, t, q.kv, k _ _ q.tup, q.rep, q.key, q.len, q.le⟩

section
variable {N n : Nat} {rest : Kp201.Form} {H : Hp} {c : Came} {R m : Nat}
theorem kept_none (hN : NamedRep N rest) (hR : Rep c R) (lc : c.length = n + 1) (c8 : Le8 c) : ∀ {kvs : List (Key × V)} {acc : List Kp201.Keyed}, Paired (KeptAt N n rest H) kvs acc → valV kvs (Sum.inl ((R &&& N : Nat) : Int)) = none →
    Aj.putK ⟨keyAt rest n c, ⟨c, m⟩⟩ acc = acc ++ [⟨keyAt rest n c, ⟨c, m⟩⟩]
  | _, _, .nil, _ => rfl
  | kv :: r, y :: acc, .cons ⟨R0, t0, q⟩ tl, h => by
    have e : ¬ kv.1 = Sum.inl ((R &&& N : Nat) : Int) := fun z => by
      rw [valV_pos z] at h
      cases h
    rw [valV_neg e] at h
    have ne : Kp201.sameRow y.key (keyAt rest n c) = false := by
      rw [Bool.eq_false_iff]
      intro z
      rw [sameRow_iff, q.key, ← key_bits hN q.rep hR q.len lc q.le] at z
      exact e (by rw [q.kv, z])
    rw [Aj.putK]
    show (if Kp201.sameRow y.key (keyAt rest n c) = true then _ else _) = _
    rw [ne, if_neg Bool.false_ne_true, kept_none hN hR lc c8 tl h]
    rfl
theorem kept_some (hN : NamedRep N rest) (hR : Rep c R) (lc : c.length = n + 1) (c8 : Le8 c) : ∀ {kvs : List (Key × V)} {acc : List Kp201.Keyed} {v0 : V}, Paired (KeptAt N n rest H) kvs acc → (kvs.map (·.1)).Nodup → valV kvs (Sum.inl ((R &&& N : Nat) : Int)) = some v0 →
    ∃ (y0 : Kp201.Keyed) (R0 : Nat) (t0 : Addr), v0 = .ref t0 ∧ H t0 = some (.tup [nV R0, nV y0.way.many]) ∧
      (∀ (H' : Hp) (t' : Addr), TupKeep H H' → H' t' = some (.tup [nV R0, nV (max y0.way.many m)]) → Paired (KeptAt N n rest H') (L2.putK kvs (Sum.inl ((R &&& N : Nat) : Int)) (.ref t')) (Aj.putK ⟨keyAt rest n c, ⟨c, m⟩⟩ acc)) ∧
      (m ≤ y0.way.many → Aj.putK ⟨keyAt rest n c, ⟨c, m⟩⟩ acc = acc)
  | _, _, _, .nil, _, h => by cases h
  | kv :: r, y :: acc, v0, .cons ⟨R0, t0, q⟩ tl, nd, h => by
    rw [List.map_cons, List.nodup_cons] at nd
    by_cases e : kv.1 = Sum.inl ((R &&& N : Nat) : Int)
    · rw [valV_pos e] at h
      have eq : R0 &&& N = R &&& N := by
        rw [q.kv] at e
        have e1 : (((R0 &&& N : Nat)) : Int) = ((R &&& N : Nat) : Int) := by injection e
        omega
      have ek : Kp201.sameRow y.key (keyAt rest n c) = true := by
        rw [sameRow_iff, q.key, ← key_bits hN q.rep hR q.len lc q.le]
        exact eq
      have ep : Aj.putK ⟨keyAt rest n c, ⟨c, m⟩⟩ (y :: acc) = ⟨y.key, ⟨y.way.came, max y.way.many m⟩⟩ :: acc := by
        rw [Aj.putK]
        show (if Kp201.sameRow y.key (keyAt rest n c) = true then _ else _) = _
        rw [if_pos ek]
      refine ⟨y, R0, t0, ?_, q.tup, fun H' t' k ht => ?_, fun hm => ?_⟩
      · have : some kv.2 = some v0 := h
        rw [← Option.some.inj this, q.kv]
      · rw [ep, putD_pos _ e (by rw [← e]; exact nd.1)]
        refine .cons ⟨R0, t', by rw [e, eq], ht, q.rep, q.key, q.len, q.le⟩ (pairMono (fun _ _ z => z.keep k) tl)
      · rw [ep, Nat.max_eq_left hm]
    · rw [valV_neg e] at h
      obtain ⟨y0, R1, t1, h1, h2, h3, h4⟩ := kept_some hN hR lc c8 tl nd.2 h
      have ne : Kp201.sameRow y.key (keyAt rest n c) = false := by
        rw [Bool.eq_false_iff]
        intro z
        rw [sameRow_iff, q.key, ← key_bits hN q.rep hR q.len lc q.le] at z
        exact e (by rw [q.kv, z])
      have ep : Aj.putK ⟨keyAt rest n c, ⟨c, m⟩⟩ (y :: acc) = y :: Aj.putK ⟨keyAt rest n c, ⟨c, m⟩⟩ acc := by
        rw [Aj.putK]
        show (if Kp201.sameRow y.key (keyAt rest n c) = true then _ else _) = _
        rw [ne, if_neg Bool.false_ne_true]
      refine ⟨y0, R1, t1, h1, h2, fun H' t' k ht => ?_, fun hm => ?_⟩
      · rw [ep, putD_neg _ e]
        exact .cons (KeptAt.keep ⟨R0, t0, q⟩ k) (h3 H' t' k ht)
      · rw [ep, h4 hm]
end

section
variable {P : Program} {w : World} {K : PySem.W.Frag} {mg : Str → Option Value} {base : Heap} {D : Defs}
def But (d : Addr) (H H' : Hp) : Prop := ∀ b o, H b = some o → b ≠ d → H' b = some o
def spKeep : Sp := fun vs H Q _ => ∃ (d : Addr) (R m N n : Nat) (rest : Kp201.Form) (c : Came) (acc : List Kp201.Keyed), vs = [.ref d, nV R, nV m, nV N] ∧ AlikeAt N n rest H d acc ∧ acc.length ≤ 100000 ∧ NamedRep N rest ∧ Rep c R ∧ c.length = n + 1 ∧ Le8 c ∧
  ∀ H', AlikeAt N n rest H' d (Aj.putK ⟨keyAt rest n c, ⟨c, m⟩⟩ acc) → But d H H' → Q .non H'
theorem ok_keep (T : Known K mg D) : FnOk P w K mg base CX0 1 D.f_keep_way D.d_keep_way ["alike", "row", "asked", "named"] spKeep := by
  refine T.F_keep_way.ok sc_keep_way (fun vs H Q E h => ?_) (fun cdv A outer s H vs Q E hr h => ?_)
  · obtain ⟨d, R, m, N, n, rest, c, acc, rfl, _⟩ := h
    rfl
  · obtain ⟨d, R, m, N, n, rest, c, acc, rfl, ⟨kvs, al⟩, hz, hN, hR, lc, c8, k⟩ := h
    have hu := hu_of hr
    refine ⟨_, pss_cons (ps_set (i := 4) sc_keep_way.nd rfl (Or.inl rfl) (pe_op op_and (pv 1) (pv 3)))
      (pss_cons (ps_set (i := 5) sc_keep_way.nd rfl (Or.inl rfl) (pe_dget1 hu (pv 0) (pv 4) ⟨rfl, rfl, rfl, rfl⟩))
      (pss_one (ps_if (pt_cmpR op_isN (pv 5) pe_non (nomark _))
        (pss_one (ps_dput hu (pv 0) (pv 4) (pe_tup (pa_cons (pv 1) (pa_cons (pv 2) pa_nil))) rfl))
        (pss_one (ps_if (pt_cmpR op_lt (pe_ix ix_tup (pv 5) pe_int plain) (pv 2) (nomark _))
          (pss_one (ps_dput hu (pv 0) (pv 4) (pe_tup (pa_cons (pe_ix ix_tup (pv 5) pe_int plain) (pa_cons (pv 2) pa_nil))) rfl)) pss_nil))))), ?_⟩
    have hkl : kvs.length < sizeLine := by rw [pairLen al.pair]; exact small' (by omega)
    have ekey : V.int (Builtin.bitAnd (R : Int) (N : Int)) = kV (Sum.inl ((R &&& N : Nat) : Int)) := by rw [and_nat]; rfl
    refine ⟨_, rfl, _, rfl, _, _, rfl, rfl, ?_⟩
    refine ⟨_, rfl, d, rfl, .inl ⟨kvs, .inl al.dict⟩, _, rfl, valV kvs (Sum.inl ((R &&& N : Nat) : Int)), ?_, ?_⟩
    · show DGet H d (V.int (Builtin.bitAnd (R : Int) (N : Int))) _
      rw [ekey]
      exact DGet.k al.dict
    cases ev : valV kvs (Sum.inl ((R &&& N : Nat) : Int)) with
    | none =>
      refine ⟨_, rfl, rfl, _, rfl, iteT ?_⟩
      refine ⟨_, rfl, _, rfl, (by show 2 ≤ sizeLine; decide), fun t ht => ?_⟩
      have dt : d ≠ t := ne_of_none al.dict ht
      have hd : upd H t (.tup [nV R, nV m]) d = some (.dK kvs) := by rw [upd_ne dt]; exact al.dict
      have dp : DPut (upd H t (.tup [nV R, nV m])) d (V.int (Builtin.bitAnd (R : Int) (N : Int))) (.ref t) (upd (upd H t (.tup [nV R, nV m])) d (.dK (L2.putK kvs (Sum.inl ((R &&& N : Nat) : Int)) (.ref t)))) := by
        rw [ekey]
        exact DPut.k hd hkl
      refine ⟨_, rfl, _, rfl, d, _, rfl, dp, ?_⟩
      · have tk : TupKeep H (upd (upd H t (.tup [nV R, nV m])) d (.dK (L2.putK kvs (Sum.inl ((R &&& N : Nat) : Int)) (.ref t)))) := fun b xs e => by
          rw [upd_ne (ne_of e al.dict (by intro z; cases z)), upd_ne (ne_of_none e ht)]
          exact e
        refine k _ ⟨_, upd_same, ?_, nd_putK _ al.nd ev⟩ fun b o e hb => ?_
        · rw [kept_none hN hR lc c8 al.pair ev, L2.putK_new _ ev]
          refine Paired.snoc (pairMono (fun _ _ z => z.keep (by rw [← L2.putK_new _ ev]; exact tk)) al.pair) ⟨R, t, rfl, ?_, hR, rfl, lc, c8⟩
          rw [upd_ne dt.symm, upd_same]
        · rw [upd_ne hb, upd_ne (ne_of_none e ht)]
          exact e
    | some v0 =>
      obtain ⟨y0, R0, t0, rfl, ht0, hput, hsame⟩ := kept_some (m := m) hN hR lc c8 al.pair al.nd ev
      refine ⟨_, rfl, rfl, _, rfl, iteF ?_⟩
      refine ⟨_, rfl, t0, _, _, _, rfl, rfl, SqT.of ht0, at_nat (j := 1) rfl, _, rfl, _, _, rfl, rfl, _, rfl, ?_⟩
      refine ite2 (fun c1 => ?_) (fun c1 => ?_)
      · have c1' : y0.way.many < m := by have := of_decide_eq_true c1; omega
        refine ⟨_, rfl, t0, _, _, _, rfl, rfl, SqT.of ht0, at_nat (j := 0) rfl, _, rfl, (by show 2 ≤ sizeLine; decide), fun t ht => ?_⟩
        have dt : d ≠ t := ne_of_none al.dict ht
        have hd : upd H t (.tup [nV R0, nV m]) d = some (.dK kvs) := by rw [upd_ne dt]; exact al.dict
        have dp : DPut (upd H t (.tup [nV R0, nV m])) d (V.int (Builtin.bitAnd (R : Int) (N : Int))) (.ref t) (upd (upd H t (.tup [nV R0, nV m])) d (.dK (L2.putK kvs (Sum.inl ((R &&& N : Nat) : Int)) (.ref t)))) := by
          rw [ekey]
          exact DPut.k hd hkl
        refine ⟨_, rfl, _, rfl, d, _, rfl, dp, ?_⟩
        · have tk : TupKeep H (upd (upd H t (.tup [nV R0, nV m])) d (.dK (L2.putK kvs (Sum.inl ((R &&& N : Nat) : Int)) (.ref t)))) := fun b xs e => by
            rw [upd_ne (ne_of e al.dict (by intro z; cases z)), upd_ne (ne_of_none e ht)]
            exact e
          refine k _ ⟨_, upd_same, hput _ t tk ?_, ?_⟩ fun b o e hb => ?_
          · rw [upd_ne dt.symm, upd_same, Nat.max_eq_right (Nat.le_of_lt c1')]
          · rw [putD_keys _ ev]
            exact al.nd
          · rw [upd_ne hb, upd_ne (ne_of_none e ht)]
            exact e
      · have c1' : m ≤ y0.way.many := by
          have : ¬ (y0.way.many : Int) < (m : Int) := fun z => c1 (decide_eq_true z)
          omega
        refine k H ?_ fun b o e _ => e
        rw [hsame c1']
        exact ⟨kvs, al⟩
end
end Aj
end
section
set_option Elab.async false
set_option linter.all false
set_option maxRecDepth 100000
set_option maxHeartbeats 4000000
/-! The ways behind one question more, through all, the earliest. -/
namespace Aj
open PySem PySem.Spec PyProof.Rows L2
open Kp201 (Literal House Came Ans Way)
theorem putAll_append (k : Came → List Nat) (acc : List Kp201.Keyed) (a b : List Way) : putAll k acc (a ++ b) = putAll k (putAll k acc a) b := by
  unfold putAll
  rw [List.foldl_append]
theorem putAll_snoc (k : Came → List Nat) (acc : List Kp201.Keyed) (a : List Way) (w : Way) : putAll k acc (a ++ [w]) = Aj.putK ⟨k w.came, w⟩ (putAll k acc a) := by
  rw [putAll_append]
  rfl
theorem putK_le (w : Kp201.Keyed) : ∀ a : List Kp201.Keyed, (Aj.putK w a).length ≤ a.length + 1
  | [] => by simp [Aj.putK]
  | x :: l => by
    rw [Aj.putK]
    split
    · simp
    · have := putK_le w l
      simp only [List.length_cons]
      omega
theorem putAll_le (k : Came → List Nat) : ∀ (ws : List Way) (acc : List Kp201.Keyed), (putAll k acc ws).length ≤ acc.length + ws.length
  | [], acc => Nat.le_refl _
  | w :: ws, acc => by
    have h1 := putAll_le k ws (Aj.putK ⟨k w.came, w⟩ acc)
    have h2 := putK_le ⟨k w.came, w⟩ acc
    have e : putAll k acc (w :: ws) = putAll k (Aj.putK ⟨k w.came, w⟩ acc) ws := rfl
    rw [e, List.length_cons]
    omega
theorem onward_le {x : Kp201.Question} (h1 : 1 ≤ x.options) (w : Way) : (Kp201.onward x w).length ≤ x.options := by
  unfold Kp201.onward
  split
  · rw [List.length_map, List.length_range]
    exact Nat.le_refl _
  · exact h1
theorem flat_le {x : Kp201.Question} (h1 : 1 ≤ x.options) (h8 : x.options ≤ 8) : ∀ ws : List Way, (ws.flatMap (Kp201.onward x)).length ≤ 8 * ws.length
  | [] => Nat.le_refl _
  | w :: ws => by
    rw [List.flatMap_cons, List.length_append, List.length_cons]
    have := flat_le h1 h8 ws
    have := onward_le h1 w
    omega
theorem waysTo_len {f : Kp201.Form} : ∀ {k : Nat} {ws : List Way}, k ≤ f.length → Kp201.waysTo f k = some ws → ws.length ≤ 300
  | 0, ws, _, e => by
    cases e
    decide
  | k + 1, ws, hk, e => by
    have hx : f[k]? = some f[k] := List.getElem?_eq_getElem (by omega)
    rw [waysTo_succ hx] at e
    cases e1 : Kp201.waysTo f k with
    | none => rw [e1] at e; cases e
    | some vs =>
      rw [e1] at e
      have e2 : (if 300 < (onAll f[k] (f.drop (k + 1)) k vs).length then none else some ((onAll f[k] (f.drop (k + 1)) k vs).map (·.way))) = some ws := e
      split at e2
      · cases e2
      · have e3 := Option.some.inj e2
        rw [← e3, List.length_map]
        omega
theorem kept_ways {N n : Nat} {rest : Kp201.Form} {H : Hp} : ∀ {kvs : List (Key × V)} {acc : List Kp201.Keyed}, Paired (KeptAt N n rest H) kvs acc → ∃ ts : List Addr, kvs.map (·.2) = ts.map V.ref ∧ Paired (WayAt H) ts (acc.map (·.way))
  | _, _, .nil => ⟨[], rfl, .nil⟩
  | _, _, .cons ⟨R, t, q⟩ tl => by
    obtain ⟨ts, e, p⟩ := kept_ways tl
    refine ⟨t :: ts, ?_, .cons ⟨R, q.tup, q.rep⟩ p⟩
    rw [List.map_cons, e, q.kv]
    rfl
theorem AlikeAt.same {N n : Nat} {rest : Kp201.Form} {H H' : Hp} {d : Addr} {acc : List Kp201.Keyed} (h : AlikeAt N n rest H d acc) (s : Same H H') : AlikeAt N n rest H' d acc := by
  obtain ⟨kvs, al⟩ := h
  exact ⟨kvs, s _ _ al.dict, pairMono (fun _ _ z => z.keep fun t xs e => s _ _ e) al.pair, al.nd⟩
theorem _root_.L2.Same.but {H H' H'' : Hp} {d : Addr} (s : Same H H') (n : H d = none) (b : But d H' H'') : Same H H'' := fun a o e => b a o (s a o e) (ne_of_none e n)
section
variable {P : Program} {w : World} {K : PySem.W.Frag} {mg : Str → Option Value} {base : Heap} {D : Defs}
structure QOk (x : Kp201.Question) : Prop extends AskOk x where
  o1 : 1 ≤ x.options
  o8 : x.options ≤ 8
def spBehind : Sp := fun vs H Q _ => ∃ (v nd : Addr) (n N : Nat) (x : Kp201.Question) (rest : Kp201.Form) (ws : List Way), vs = [.ref v, nV n, nV x.options, .ref nd, nV N] ∧ WaysAt H v ws ∧ WaysFit n ws ∧ ws.length ≤ 300 ∧ NdAt H nd x ∧ QOk x ∧ n < 24 ∧ NamedRep N rest ∧
  ∀ H' L, Same H H' → H L = none → WaysAt H' L ((onAll x rest n ws).map (·.way)) → Q (.ref L) H'
def optsOf (n m : Nat) : List V := (List.range m).map fun o => nV (2 ^ o * 2 ^ (9 * n))
theorem optsOf_succ (n i : Nat) : optsOf n (i + 1) = optsOf n i ++ [nV (2 ^ i * 2 ^ (9 * n))] := by
  unfold optsOf
  rw [List.range_succ, List.map_append]
  rfl
theorem optsOf_len (n m : Nat) : (optsOf n m).length = m := by
  unfold optsOf
  rw [List.length_map, List.length_range]
theorem optsOf_at {n m j : Nat} {x : V} (h : (optsOf n m)[j]? = some x) : j < m ∧ x = nV (2 ^ j * 2 ^ (9 * n)) := by
  have hj : j < m := by
    have := (List.getElem?_eq_some_iff.mp h).1
    rwa [optsOf_len] at this
  refine ⟨hj, ?_⟩
  unfold optsOf at h
  rw [List.getElem?_map, List.getElem?_range hj] at h
  exact (Option.some.inj h).symm
theorem le8_snoc {c : Came} {v : Nat} (h : Le8 c) (hv : v ≤ 8) : Le8 (c ++ [v]) := fun u hu => by
  rcases List.mem_append.mp hu with z | z
  · exact h u z
  · rw [List.mem_singleton.mp z]
    exact hv
theorem ok_behind (T : Known K mg D) : FnOk P w K mg base CX0 3 D.f_ways_behind D.d_ways_behind ["ways", "question", "size", "needs", "named"] spBehind := by
  have GM : FnOk P w K mg base CX0 2 D.f_mark D.d_mark ["question", "come"] spMark := ok_mark T
  have GA : FnOk P w K mg base CX0 1 D.f_is_asked D.d_is_asked ["needs", "row"] spAsked := ok_asked T
  have GK : FnOk P w K mg base CX0 1 D.f_keep_way D.d_keep_way ["alike", "row", "asked", "named"] spKeep := ok_keep T
  refine T.F_ways_behind.ok sc_ways_behind (fun vs H Q E h => ?_) (fun cdv A outer s H vs Q E hr h => ?_)
  · obtain ⟨v, nd, n, N, x, rest, ws, rfl, _⟩ := h
    rfl
  · obtain ⟨v, nd, n, N, x, rest, ws, rfl, ⟨ts, hv, hp⟩, fit, h300, hnd, qx, hn, hN, k⟩ := h
    have hr1 : Room 1 _ := hr.mono (by decide)
    refine ⟨_, pss_cons (ps_setLc (i := 5) (own := [("option", 10)]) rfl sc_ways_behind.nd rfl rfl (sw_true rfl rfl rfl rfl) (pi_range1 rfl T.z_range (pa_cons (pv 2) pa_nil)) (blkOk_by (N := ["ways", "question", "size", "needs", "named", "options", "passed_over", "alike", "row", "asked", "option"]) (sc := defScope s_ways_behind) (by decide +kernel))
        (fun _ _ _ _ _ => pg_name (i := 10) sc_ways_behind.nd rfl (Or.inl rfl)) (fun _ _ _ _ _ => pts_nil)
        (fun _ _ _ _ _ => pe_call GM hr rfl T.m_mark T.F_mark.kp T.b_mark .nil pass0 (pa_cons (pv 1) (pa_cons (pv 10) pa_nil))))
      (pss_cons (ps_set (i := 6) sc_ways_behind.nd rfl (Or.inl rfl) (pe_call GM hr rfl T.m_mark T.F_mark.kp T.b_mark .nil pass0 (pa_cons (pv 1) (pa_cons (pe_gi T.g_PASSED_OVER) pa_nil))))
      (pss_cons (ps_set (i := 7) sc_ways_behind.nd rfl (Or.inl rfl) pe_dnewK)
      (pss_cons (ps_for PassesOwn.never rfl (pi_list (pv 0)) (pg_tup rfl (pgs_cons (pg_name (i := 8) sc_ways_behind.nd rfl (Or.inl rfl)) (pgs_cons (pg_name (i := 9) sc_ways_behind.nd rfl (Or.inl rfl)) pgs_nil)))
        (pss_one (ps_if (pt_val (pe_call GA hr1 rfl T.m_is_asked T.F_is_asked.kp T.b_is_asked .nil pass0 (pa_cons (pv 3) (pa_cons (pv 8) pa_nil))))
          (pss_one (ps_for PassesOwn.never rfl (pi_list (pv 5)) (pg_name (i := 10) sc_ways_behind.nd rfl (Or.inl rfl))
            (pss_one (ps_expr (pe_call GK hr1 rfl T.m_keep_way T.F_keep_way.kp T.b_keep_way .nil pass0 (pa_cons (pv 7) (pa_cons (pe_op op_or (pv 8) (pv 10)) (pa_cons (pe_op op_add (pv 9) pe_int) (pa_cons (pv 4) pa_nil)))))))))
          (pss_one (ps_expr (pe_call GK hr1 rfl T.m_keep_way T.F_keep_way.kp T.b_keep_way .nil pass0 (pa_cons (pv 7) (pa_cons (pe_op op_or (pv 8) (pv 6)) (pa_cons (pv 9) (pa_cons (pv 4) pa_nil)))))))))
        )
      (pss_one (ps_ret (pe_listVals rfl (by rfl) T.z_list (pv 7))))))), ?_⟩
    have q8 := qx.o8
    have q1 := qx.o1
    refine ⟨_, rfl, _, rfl, by omega, by omega, fun L hL => ?_⟩
    rw [Int.toNat_natCast]
    refine lc_range (fun i H' => Same H H' ∧ H' L = some (.lst (optsOf n i))) ⟨Same.new hL, upd_same⟩ ?_ ?_
    · rintro i H' hi ⟨s1, h1⟩
      have e0 : (0 : Int) + (i : Nat) = ((i : Nat) : Int) := by omega
      rw [e0]
      refine ⟨rfl, _, rfl, _, rfl, n, i, rfl, by omega, by omega, _, h1, ?_, s1.upd hL, ?_⟩
      · rw [optsOf_len]
        exact small' (by omega)
      · rw [upd_same, optsOf_succ]
    rintro H1 ⟨s1, h1⟩
    refine ⟨_, rfl, n, 8, rfl, by omega, by omega, ?_⟩
    intro d hd
    have s2 : Same H1 (upd H1 d (.dK [])) := Same.new hd
    have hdH : H d = none := s1.free hd
    have lL : ∀ {H' : Hp} {acc : List Kp201.Keyed}, H' L = some (.lst (optsOf n x.options)) → AlikeAt N n rest H' d acc → L ≠ d := fun {H' acc} e ⟨kvs, al⟩ => ne_of e al.dict (by intro z; cases z)
    refine ⟨_, rfl, v, rfl, ⟨_, SqL.of ((s1.trans s2) _ _ hv)⟩, ?_⟩
    refine for_list (K := K) (a := v) (xs := ts.map V.ref) (fun i σ H' => ∃ v8 v9 v10, σ = [some (.ref v), some (nV n), some (nV x.options), some (.ref nd), some (nV N), some (.ref L), some (nV (2 ^ 8 * 2 ^ (9 * n))), some (.ref d), v8, v9, v10] ∧
        Same H H' ∧ H' L = some (.lst (optsOf n x.options)) ∧ AlikeAt N n rest H' d (putAll (keyAt rest n) [] ((ws.take i).flatMap (Kp201.onward x))))
      ⟨none, none, none, rfl, s1.trans s2, s2 _ _ h1, [], upd_same, .nil, List.nodup_nil⟩ (fun i σ H' _ ⟨_, _, _, _, s3, _⟩ => s3.seq (SqL.of hv)) ?_ ?_
    · rintro i y σ H' hi ⟨v8, v9, v10, rfl, s3, h3, al⟩
      obtain ⟨t, ht, rfl⟩ := refs_at hi
      obtain ⟨wy, hw, R, hwt, hR⟩ := pairGet hp ht
      have wm := List.mem_of_getElem? hw
      have wlen := fit.ok.len wy wm
      have wle := fit.le wy wm
      have il : i < ws.length := (List.getElem?_eq_some_iff.mp hw).1
      have etk : (ws.take (i + 1)).flatMap (Kp201.onward x) = (ws.take i).flatMap (Kp201.onward x) ++ Kp201.onward x wy := by
        rw [take_snoc' hw, List.flatMap_append, List.flatMap_singleton]
      have eacc : putAll (keyAt rest n) [] ((ws.take (i + 1)).flatMap (Kp201.onward x)) = putAll (keyAt rest n) (putAll (keyAt rest n) [] ((ws.take i).flatMap (Kp201.onward x))) (Kp201.onward x wy) := by
        rw [etk, putAll_append]
      have hacc : (putAll (keyAt rest n) [] ((ws.take i).flatMap (Kp201.onward x))).length ≤ 2400 := by
        have z1 := putAll_le (keyAt rest n) ((ws.take i).flatMap (Kp201.onward x)) []
        have z2 := flat_le (x := x) q1 q8 (ws.take i)
        rw [List.length_take] at z2
        simp only [List.length_nil] at z1
        omega
      generalize putAll (keyAt rest n) [] ((ws.take i).flatMap (Kp201.onward x)) = acc0 at al eacc hacc
      refine ⟨t, _, rfl, SqT.of (s3 _ _ hwt), rfl, _, _, rfl, _, _, rfl, rfl, ?_⟩
      refine ⟨_, rfl, _, rfl, nd, R, wy.came, x, rfl, hnd.same s3, qx.toAskOk, hR, fun H4 s4 => ⟨_, rfl, ?_⟩⟩
      have s34 : Same H H4 := s3.trans s4
      refine ite2 (fun c1 => ?_) (fun c1 => ?_)
      · have eon : Kp201.onward x wy = (List.range x.options).map fun o => (⟨wy.came ++ [o], wy.many + 1⟩ : Way) := by
          unfold Kp201.onward
          rw [if_pos c1]
        have olen : (Kp201.onward x wy).length = x.options := by rw [eon, List.length_map, List.length_range]
        refine ⟨_, rfl, L, rfl, ⟨_, SqL.of (s4 _ _ h3)⟩, ?_⟩
        refine for_list (K := K) (a := L) (xs := optsOf n x.options) (fun j σ H' => ∃ v10, σ = [some (.ref v), some (nV n), some (nV x.options), some (.ref nd), some (nV N), some (.ref L), some (nV (2 ^ 8 * 2 ^ (9 * n))), some (.ref d), some (nV R), some (nV wy.many), v10] ∧
            Same H H' ∧ H' L = some (.lst (optsOf n x.options)) ∧ AlikeAt N n rest H' d (putAll (keyAt rest n) acc0 ((Kp201.onward x wy).take j)))
          ⟨_, rfl, s34, s4 _ _ h3, al.same s4⟩ (fun j σ H' _ ⟨_, _, _, e, _⟩ => SqL.of e) ?_ ?_
        · rintro j o σ H5 hj ⟨u10, rfl, s5, h5, al5⟩
          obtain ⟨hjm, rfl⟩ := optsOf_at hj
          have hoj : (Kp201.onward x wy)[j]? = some ⟨wy.came ++ [j], wy.many + 1⟩ := by
            rw [eon, List.getElem?_map, List.getElem?_range hjm]
            rfl
          have hb : (putAll (keyAt rest n) acc0 ((Kp201.onward x wy).take j)).length ≤ 100000 := by
            have z1 := putAll_le (keyAt rest n) ((Kp201.onward x wy).take j) acc0
            rw [List.length_take] at z1
            omega
          refine ⟨_, rfl, _, rfl, _, rfl, _, _, rfl, rfl, _, rfl, _, _, rfl, rfl, _, rfl, d, R ||| 2 ^ j * 2 ^ (9 * n), wy.many + 1, N, n, rest, wy.came ++ [j], _, ?_, al5, hb, hN, ?_, ?_, le8_snoc wle (by omega), fun H6 al6 b6 => ?_⟩
          · show [V.ref d, V.int (Builtin.bitOr (R : Int) ((2 ^ j * 2 ^ (9 * n) : Nat) : Int)), V.int ((wy.many : Int) + 1), nV N] = _
            rw [or_nat]
            rfl
          · have := rep_snoc hR (v := j) (by omega)
            rw [wlen] at this
            exact this
          · rw [List.length_append, wlen]
            rfl
          · refine ⟨_, rfl, s5.but hdH b6, b6 _ _ h5 (lL h5 al5), ?_⟩
            rw [take_snoc' hoj, putAll_snoc]
            exact al6
        · rintro σ H5 ⟨u10, rfl, s5, h5, al5⟩
          refine ⟨_, _, _, rfl, s5, h5, ?_⟩
          rw [eacc]
          rw [optsOf_len, ← olen, List.take_length] at al5
          exact al5
      · have eon : Kp201.onward x wy = [⟨wy.came ++ [8], wy.many⟩] := by
          unfold Kp201.onward
          rw [if_neg c1]
          rfl
        refine ⟨_, rfl, _, rfl, _, rfl, _, _, rfl, rfl, _, rfl, _, rfl, d, R ||| 2 ^ 8 * 2 ^ (9 * n), wy.many, N, n, rest, wy.came ++ [8], acc0, ?_, al.same s4, by omega, hN, ?_, ?_, le8_snoc wle (by omega), fun H6 al6 b6 => ?_⟩
        · show [V.ref d, V.int (Builtin.bitOr (R : Int) ((2 ^ 8 * 2 ^ (9 * n) : Nat) : Int)), nV wy.many, nV N] = _
          rw [or_nat]
        · have := rep_snoc hR (v := 8) (by omega)
          rw [wlen] at this
          exact this
        · rw [List.length_append, wlen]
          rfl
        · refine ⟨_, _, _, rfl, s34.but hdH b6, b6 _ _ (s4 _ _ h3) (lL (s4 _ _ h3) (al.same s4)), ?_⟩
          rw [eacc, eon]
          exact al6
    · rintro σ H' ⟨v8, v9, v10, rfl, s3, h3, al⟩
      rw [List.length_map, pairLen hp, List.take_length] at al
      obtain ⟨kvs, al⟩ := al
      obtain ⟨us, eu, pu⟩ := kept_ways al.pair
      refine ⟨_, rfl, d, kvs, rfl, al.dict, fun l hl => ?_⟩
      refine k _ l (s3.upd (s3.free hl)) (s3.free hl) ⟨us, by rw [upd_same, eu], ?_⟩
      exact pairMono (fun _ _ z => z.same (Same.new hl)) pu
end
end Aj
end
section
set_option Elab.async false
set_option linter.all false
set_option maxRecDepth 100000
set_option maxHeartbeats 4000000
/-! All ways through, for each count of first questions; the earliest row. -/
namespace Aj
open PySem PySem.Spec PyProof.Rows L2
open Kp201 (Literal House Came Ans Way)
/-- what is told of all counts -/
structure ToldAt (H : Hp) (w : Addr) (vs : List Addr) (f : Kp201.Form) : Prop where
  lst : H w = some (.lst (vs.map V.ref))
  each : ∀ (k : Nat) (u : Addr), vs[k]? = some u → ∃ ws, Kp201.waysTo f k = some ws ∧ WaysAt H u ws
  no : ∀ k : Nat, vs.length ≤ k → k ≤ f.length → Kp201.waysTo f k = none
  len : vs.length ≤ f.length + 1
theorem ToldAt.same {H H' : Hp} {w : Addr} {vs : List Addr} {f : Kp201.Form} (h : ToldAt H w vs f) (s : Same H H') : ToldAt H' w vs f :=
  ⟨s _ _ h.lst, fun k u e => let ⟨ws, h1, h2⟩ := h.each k u e; ⟨ws, h1, h2.same s⟩, h.no, h.len⟩
/-- a list of ways is what it was where its list and the tuples stand -/
theorem WaysAt.keep {H H' : Hp} {v : Addr} {ws : List Way} (h : WaysAt H v ws) (hv : H' v = H v) (tk : TupKeep H H') : WaysAt H' v ws := let ⟨ts, h1, h2⟩ := h; ⟨ts, by rw [hv]; exact h1, pairMono (fun t w ⟨R, e, r⟩ => ⟨R, tk _ _ e, r⟩) h2⟩
/-- a form's questions on the heap, as the ways want them -/
structure FormIn (H : Hp) (a1 a2 a3 : Addr) (ns : List Addr) (nms : List Nat) (f : Kp201.Form) : Prop where
  sizes : H a1 = some (.lst (f.map fun x => nV x.options))
  needs : H a2 = some (.lst (ns.map V.ref))
  names : H a3 = some (.lst (nms.map nV))
  each : Paired (NdAt H) ns f
  named : Paired NameRep nms f
theorem FormIn.same {H H' : Hp} {a1 a2 a3 : Addr} {ns : List Addr} {nms : List Nat} {f : Kp201.Form} (F : FormIn H a1 a2 a3 ns nms f) (s : Same H H') : FormIn H' a1 a2 a3 ns nms f :=
  ⟨s _ _ F.sizes, s _ _ F.needs, s _ _ F.names, pairMono (fun _ _ z => z.same s) F.each, F.named⟩
section
variable {P : Program} {w : World} {K : PySem.W.Frag} {mg : Str → Option Value} {base : Heap} {D : Defs}
def spThrough : Sp := fun vs H Q _ => ∃ (a1 a2 a3 : Addr) (ns : List Addr) (nms : List Nat) (f : Kp201.Form), vs = [.ref a1, .ref a2, .ref a3] ∧ FormIn H a1 a2 a3 ns nms f ∧ f.length ≤ 24 ∧ (∀ (i : Nat) (x : Kp201.Question), f[i]? = some x → QOk x) ∧
  ∀ H' w vs, Same H H' → ToldAt H' w vs f → (∀ b ∈ w :: vs, H b = none) → Q (.ref w) H'
theorem ok_through (T : Known K mg D) : FnOk P w K mg base CX0 4 D.f_ways_through D.d_ways_through ["sizes", "needs", "names"] spThrough := by
  have GB : FnOk P w K mg base CX0 3 D.f_ways_behind D.d_ways_behind ["ways", "question", "size", "needs", "named"] spBehind := ok_behind T
  have GN : FnOk P w K mg base CX0 1 D.f_named_behind D.d_named_behind ["names", "question"] (spNamed K) := ok_named T
  refine T.F_ways_through.ok sc_ways_through (fun vs H Q E h => ?_) (fun cdv A outer s H vs Q E hr h => ?_)
  · obtain ⟨a1, a2, a3, ns, nms, f, rfl, _⟩ := h
    rfl
  · obtain ⟨a1, a2, a3, ns, nms, f, rfl, F, h24, hq, k⟩ := h
    have hr1 : Room 1 _ := hr.mono (by decide)
    refine ⟨_, pss_cons (ps_set (i := 3) sc_ways_through.nd rfl (Or.inl rfl) (pe_lst (pa_cons (pe_tup (pa_cons pe_int (pa_cons pe_int pa_nil))) pa_nil)))
      (pss_cons (ps_set (i := 4) sc_ways_through.nd rfl (Or.inl rfl) (pe_lst (pa_cons (pv 3) pa_nil)))
      (pss_cons (ps_for PassesOwn.never rfl (pi_enum rfl T.z_enumerate (pa_cons (pv 0) pa_nil)) (pg_tup rfl (pgs_cons (pg_name (i := 5) sc_ways_through.nd rfl (Or.inl rfl)) (pgs_cons (pg_name (i := 6) sc_ways_through.nd rfl (Or.inl rfl)) pgs_nil)))
        (pss_cons (ps_set (i := 3) sc_ways_through.nd rfl (Or.inl rfl) (pe_call GB hr rfl T.m_ways_behind T.F_ways_behind.kp T.b_ways_behind .nil pass0 (pa_cons (pv 3) (pa_cons (pv 5) (pa_cons (pv 6) (pa_cons (pe_ix ix_list (pv 1) (pv 5) plain)
            (pa_cons (pe_call GN hr1 rfl T.m_named_behind T.F_named_behind.kp T.b_named_behind .nil pass0 (pa_cons (pv 2) (pa_cons (pv 5) pa_nil))) pa_nil)))))))
        (pss_cons (ps_if (pt_cmpR op_gt (pe_callB call_len_seq (by rfl) T.z_len PySem.boot_len (pa_cons (pv 3) pa_nil)) (pe_gi T.g_MOST_WAYS) (nomark _)) (pss_one (ps_ret (pv 4))) pss_nil)
        (pss_one (ps_expr (pe_bm PySem.F.plainAttrs_list PySem.F.slot_list_append PySem.F.type_list_append mt_append (pv 4) (pa_cons (pv 3) pa_nil)))))))
      (pss_one (ps_ret (pv 4))))), ?_⟩
    refine ⟨(by show 2 ≤ sizeLine; decide), fun t0 ht0 => ⟨(by show 1 ≤ sizeLine; decide), fun v0 hv0 => ?_⟩⟩
    refine ⟨_, rfl, (by show 1 ≤ sizeLine; decide), fun w hw => ?_⟩
    have s1 : Same H (upd H t0 (.tup [.int 0, .int 0])) := Same.new ht0
    have s2 : Same H (upd (upd H t0 (.tup [.int 0, .int 0])) v0 (.lst [.ref t0])) := s1.upd (s1.free hv0)
    have s3 : Same H (upd (upd (upd H t0 (.tup [.int 0, .int 0])) v0 (.lst [.ref t0])) w (.lst [.ref v0])) := s2.upd (s2.free hw)
    have wv0 : v0 ≠ w := ne_of_none upd_same hw
    have tv0 : t0 ≠ v0 := ne_of_none upd_same hv0
    have tw0 : t0 ≠ w := fun e => by
      rw [← e, upd_ne tv0, upd_same] at hw
      cases hw
    refine ⟨_, rfl, a1, _, rfl, s3.seq (SqL.of F.sizes), ?_⟩
    have gq : ∀ (i : Nat) (x : Kp201.Question), f[i]? = some x → 1 ≤ x.options ∧ x.options ≤ 8 := fun i x e => ⟨(hq i x e).o1, (hq i x e).o8⟩
    refine for_enum (K := K) (a := a1) (xs := f.map fun x => nV x.options) (fun i σ H' => ∃ (vs : List Addr) (v : Addr) (v5 v6 : Option V), σ = [some (.ref a1), some (.ref a2), some (.ref a3), some (.ref v), some (.ref w), v5, v6] ∧ Same H H' ∧
        H' w = some (.lst (vs.map V.ref)) ∧ vs.length = i + 1 ∧ vs[i]? = some v ∧ (∀ (k : Nat) (u : Addr), vs[k]? = some u → ∃ ws, Kp201.waysTo f k = some ws ∧ WaysAt H' u ws) ∧ (∀ b ∈ w :: vs, H b = none) ∧ w ∉ vs)
      ⟨[v0], v0, none, none, rfl, s3, upd_same, rfl, rfl, fun k u e => ?_, fun b hb => ?_, ?_⟩ (fun i σ H' _ ⟨_, _, _, _, _, z, _⟩ => z.seq (SqL.of F.sizes)) ?_ ?_
    · have : k = 0 := by
        have := (List.getElem?_eq_some_iff.mp e).1
        simp at this
        exact this
      subst this
      have e' : v0 = u := Option.some.inj e
      subst e'
      refine ⟨_, waysTo_zero f, [t0], by rw [upd_ne wv0, upd_same]; rfl, .cons ⟨0, ?_, rep_nil⟩ .nil⟩
      rw [upd_ne tw0, upd_ne tv0, upd_same]
      rfl
    · rcases List.mem_cons.mp hb with z | z
      · rw [z]; exact s2.free hw
      · rw [List.mem_singleton.mp z]; exact s1.free hv0
    · intro z
      exact wv0 (List.mem_singleton.mp z).symm
    · rintro i sz σ H1 t hi ⟨vs, v, v5, v6, rfl, s4, h4, hl4, hv4, he4, hf4, ho4⟩ ht
      obtain ⟨x, hx, rfl⟩ : ∃ x, f[i]? = some x ∧ sz = nV x.options := by
        rw [List.getElem?_map] at hi
        cases e : f[i]? with
        | none => rw [e] at hi; cases hi
        | some x => rw [e] at hi; exact ⟨x, rfl, (Option.some.inj hi).symm⟩
      have il : i < f.length := (List.getElem?_eq_some_iff.mp hx).1
      have s5 : Same H1 (upd H1 t (.tup [.int (i : Nat), nV x.options])) := Same.new ht
      have s45 := s4.trans s5
      have F5 := F.same s45
      obtain ⟨nd, hnd, hx2⟩ := pairGetR F5.each hx
      obtain ⟨ws, hws, wat⟩ := he4 i v hv4
      have fit := waysTo_fit gq (Nat.le_of_lt il) hws
      refine ⟨t, _, rfl, SqT.of upd_same, rfl, _, _, rfl, _, _, rfl, rfl, ?_⟩
      refine ⟨_, rfl, _, rfl, _, rfl, _, rfl, _, rfl, a2, _, _, _, rfl, rfl, SqL.of F5.needs, at_nat (v := V.ref nd) (by rw [List.getElem?_map, hnd]; rfl), ?_⟩
      refine ⟨_, rfl, _, rfl, a3, nms, f, i, rfl, F5.names, F5.named, il, fun H6 N s6 hN => ?_⟩
      have s56 := s5.trans s6
      refine ⟨v, nd, i, N, x, f.drop (i + 1), ws, rfl, wat.same s56, fit, waysTo_len (Nat.le_of_lt il) hws, hx2.same s6, hq i x hx, by omega, hN, fun H7 L s7 hL7 wL => ?_⟩
      have s57 := s56.trans s7
      have s47 := s4.trans s57
      obtain ⟨us, hLs, hLp⟩ := id wL
      have hwL : H7 w = some (.lst (vs.map V.ref)) := s57 _ _ h4
      have fL6 : H6 L = none := hL7
      have fL1 : H1 L = none := s56.free fL6
      have fL : H L = none := s4.free fL1
      have wneL : w ≠ L := ne_of_none h4 fL1
      refine ⟨_, rfl, L, _, rfl, .inl (SqL.of hLs), _, _, rfl, rfl, _, rfl, ?_⟩
      have lenU : (us.map V.ref).length = (onAll x (f.drop (i + 1)) i ws).length := by rw [List.length_map, pairLen hLp, List.length_map]
      refine ite2 (fun c1 => ?_) (fun c1 => ?_)
      · have c1' : 300 < (onAll x (f.drop (i + 1)) i ws).length := by
          have := of_decide_eq_true c1
          rw [← lenU]
          omega
        have en : Kp201.waysTo f (i + 1) = none := by
          rw [waysTo_succ hx, hws]
          show (if 300 < _ then none else _) = none
          rw [if_pos c1']
        refine ⟨_, rfl, k H7 w vs s47 ⟨hwL, fun j u e => ?_, fun j hj hjf => waysTo_none (by omega) hjf en, by omega⟩ hf4⟩
        obtain ⟨ws', e1, e2⟩ := he4 j u e
        exact ⟨ws', e1, e2.same s57⟩
      · have c1' : ¬ 300 < (onAll x (f.drop (i + 1)) i ws).length := fun z => c1 (decide_eq_true (by rw [lenU]; omega))
        have es : Kp201.waysTo f (i + 1) = some ((onAll x (f.drop (i + 1)) i ws).map (·.way)) := by
          rw [waysTo_succ hx, hws]
          show (if 300 < _ then none else _) = _
          rw [if_neg c1']
        refine ⟨_, rfl, .inl ⟨rfl, _, SqL.of hwL⟩, _, rfl, w, _, _, rfl, rfl, hwL, by rw [List.length_map, hl4]; exact small' (by omega), ?_⟩
        have tk : ∀ o : HO, TupKeep H7 (upd H7 w o) := fun o b xs e => by
          rw [upd_ne (ne_of e hwL (by intro z; cases z))]
          exact e
        refine ⟨vs ++ [L], L, _, _, rfl, s47.upd (hf4 w (List.mem_cons_self ..)), ?_, by rw [List.length_append, hl4]; rfl, ?_, fun j u e => ?_, fun b hb => ?_, fun hm => ?_⟩
        · rw [upd_same, List.map_append]
          rfl
        · rw [List.getElem?_append_right (by omega), hl4, Nat.sub_self]
          rfl
        · rw [List.getElem?_append] at e
          split at e
          · obtain ⟨ws', e1, e2⟩ := he4 j u e
            refine ⟨ws', e1, (e2.same s57).keep (upd_ne fun z => ho4 (z ▸ List.mem_of_getElem? e)) (tk _)⟩
          · rename_i hj
            rw [List.getElem?_singleton] at e
            split at e
            · have e' : L = u := Option.some.inj e
              subst e'
              have : j = i + 1 := by omega
              subst this
              exact ⟨_, es, wL.keep (upd_ne wneL.symm) (tk _)⟩
            · cases e
        · rcases List.mem_cons.mp hb with z | z
          · rw [z]; exact hf4 w (List.mem_cons_self ..)
          · rcases List.mem_append.mp z with z | z
            · exact hf4 b (List.mem_cons_of_mem _ z)
            · rw [List.mem_singleton.mp z]; exact fL
        · rcases List.mem_append.mp hm with z | z
          · exact ho4 z
          · exact wneL (List.mem_singleton.mp z)
    · rintro σ H1 ⟨vs, v, v5, v6, rfl, s4, h4, hl4, hv4, he4, hf4, ho4⟩
      rw [List.length_map] at hl4
      exact ⟨_, rfl, k H1 w vs s4 ⟨h4, he4, fun j h1 h2 => by omega, by omega⟩ hf4⟩

def spEarliest : Sp := fun vs H Q _ => ∃ (v nd : Addr) (want : Bool) (x : Kp201.Question) (ws : List Way), vs = [.ref v, .ref nd, .bl want] ∧ WaysAt H v ws ∧ NdAt H nd x ∧ AskOk x ∧
  (∀ H', Same H H' → ws.find? (fun w => Kp201.asked w.came x == want) = none → Q .non H') ∧ (∀ H' wy R, Same H H' → ws.find? (fun w => Kp201.asked w.came x == want) = some wy → Rep wy.came R → Q (nV R) H')
theorem find_take_snoc {α : Type} {p : α → Bool} {l : List α} {i : Nat} {a : α} (h : l[i]? = some a) (h0 : ∀ b ∈ l.take i, p b = false) (ha : p a = true) : l.find? p = some a := by
  have hi : i < l.length := (List.getElem?_eq_some_iff.mp h).1
  rw [← List.take_append_drop i l, List.find?_append]
  have e1 : (l.take i).find? p = none := List.find?_eq_none.mpr fun b hb => by rw [h0 b hb]; exact Bool.false_ne_true
  rw [e1, Option.none_or, List.drop_eq_getElem_cons hi, List.find?_cons]
  have e2 : l[i] = a := by
    rw [List.getElem?_eq_getElem hi] at h
    exact Option.some.inj h
  rw [e2, ha]
theorem ok_earliest (T : Known K mg D) : FnOk P w K mg base CX0 2 D.f_earliest_row D.d_earliest_row ["ways", "needs", "wanted"] spEarliest := by
  have GA : FnOk P w K mg base CX0 1 D.f_is_asked D.d_is_asked ["needs", "row"] spAsked := ok_asked T
  refine T.F_earliest_row.ok sc_earliest_row (fun vs H Q E h => ?_) (fun cdv A outer s H vs Q E hr h => ?_)
  · obtain ⟨v, nd, want, x, ws, rfl, _⟩ := h
    rfl
  · obtain ⟨v, nd, want, x, ws, rfl, ⟨ts, hv, hp⟩, hnd, ax, k0, k1⟩ := h
    refine ⟨_, pss_cons (ps_for PassesOwn.never rfl (pi_list (pv 0)) (pg_tup rfl (pgs_cons (pg_name (i := 3) sc_earliest_row.nd rfl (Or.inl rfl)) (pgs_cons (pg_name (i := 4) sc_earliest_row.nd rfl (Or.inl rfl)) pgs_nil)))
        (pss_one (ps_if (pt_cmpR op_eq (pe_call GA hr rfl T.m_is_asked T.F_is_asked.kp T.b_is_asked .nil pass0 (pa_cons (pv 1) (pa_cons (pv 3) pa_nil))) (pv 2) (nomark _)) (pss_one (ps_ret (pv 3))) pss_nil)))
      (pss_one (ps_ret pe_non)), ?_⟩
    refine ⟨_, rfl, v, rfl, ⟨_, SqL.of hv⟩, ?_⟩
    refine for_list (K := K) (a := v) (xs := ts.map V.ref) (fun i σ H' => ∃ v3 v4, σ = [some (.ref v), some (.ref nd), some (.bl want), v3, v4] ∧ Same H H' ∧ ∀ b ∈ ws.take i, (Kp201.asked b.came x == want) = false)
      ⟨none, none, rfl, Same.refl H, fun b hb => by simp at hb⟩ (fun i σ H' _ ⟨_, _, _, s1, _⟩ => s1.seq (SqL.of hv)) ?_ ?_
    · rintro i y σ H' hi ⟨v3, v4, rfl, s1, h1⟩
      obtain ⟨t, ht, rfl⟩ := refs_at hi
      obtain ⟨wy, hw, R, hwt, hR⟩ := pairGet hp ht
      refine ⟨t, _, rfl, SqT.of (s1 _ _ hwt), rfl, _, _, rfl, _, _, rfl, rfl, ?_⟩
      refine ⟨_, rfl, _, rfl, nd, R, wy.came, x, rfl, hnd.same s1, ax, hR, fun H2 s2 => ⟨_, rfl, rfl, _, rfl, ?_⟩⟩
      have e : decide (V.bl (Kp201.asked wy.came x) = V.bl want) = (Kp201.asked wy.came x == want) := by
        rw [Bool.eq_iff_iff, decide_eq_true_eq, beq_iff_eq]
        exact ⟨fun z => by injection z, fun z => by rw [z]⟩
      refine ite2 (fun c1 => ?_) (fun c1 => ?_)
      · rw [e] at c1
        exact ⟨_, rfl, k1 H2 wy R (s1.trans s2) (find_take_snoc hw h1 c1) hR⟩
      · rw [e, Bool.not_eq_true] at c1
        refine ⟨_, _, rfl, s1.trans s2, fun b hb => ?_⟩
        rw [take_snoc' hw] at hb
        rcases List.mem_append.mp hb with z | z
        · exact h1 b z
        · rw [List.mem_singleton.mp z]
          exact c1
    · rintro σ H' ⟨v3, v4, rfl, s1, h1⟩
      rw [List.length_map, pairLen hp, List.take_length] at h1
      exact k0 H' s1 (List.find?_eq_none.mpr fun b hb => by rw [h1 b hb]; exact Bool.false_ne_true)
end
end Aj
end
section
set_option Elab.async false
set_option linter.all false
set_option maxRecDepth 100000
set_option maxHeartbeats 4000000
/-! A form on the heap. -/
namespace Aj
open PySem PySem.Spec PyProof.Rows L2
open Kp201 (Literal House Came Ans Way)
def optV : Option Nat → V
  | none => .non
  | some o => nV o
theorem putF_same (f : Str) (v u : V) : ∀ fs : List (Str × V), putF f v (putF f u fs) = putF f v fs
  | [] => by
    show (if f = f then _ else _) = _
    rw [if_pos rfl]
    rfl
  | (g, x) :: r => by
    by_cases h : g = f
    · have e1 : putF f u ((g, x) :: r) = (g, u) :: r := if_pos h
      have e2 : putF f v ((g, x) :: r) = (g, v) :: r := if_pos h
      rw [e1, e2]
      exact if_pos h
    · have e1 : ∀ z, putF f z ((g, x) :: r) = (g, x) :: putF f z r := fun z => if_neg h
      have e2 : putF f v ((g, x) :: putF f u r) = (g, x) :: putF f v (putF f u r) := if_neg h
      rw [e1, e1, e2, putF_same f v u r]
def flds (a1 a2 a3 a4 : Addr) (wv : V) : List (Str × V) := putF "ways" wv (putF "given" (.ref a4) (putF "names" (.ref a3) (putF "needs" (.ref a2) (putF "sizes" (.ref a1) []))))
theorem flds_sizes (a1 a2 a3 a4 : Addr) (wv : V) : (flds a1 a2 a3 a4 wv).lookup ("sizes" : Str) = some (.ref a1) := by
  unfold flds
  rw [lookup_putF, if_neg (by decide +kernel), lookup_putF, if_neg (by decide +kernel), lookup_putF, if_neg (by decide +kernel), lookup_putF, if_neg (by decide +kernel), lookup_putF, if_pos rfl]
theorem flds_needs (a1 a2 a3 a4 : Addr) (wv : V) : (flds a1 a2 a3 a4 wv).lookup ("needs" : Str) = some (.ref a2) := by
  unfold flds
  rw [lookup_putF, if_neg (by decide +kernel), lookup_putF, if_neg (by decide +kernel), lookup_putF, if_neg (by decide +kernel), lookup_putF, if_pos rfl]
theorem flds_names (a1 a2 a3 a4 : Addr) (wv : V) : (flds a1 a2 a3 a4 wv).lookup ("names" : Str) = some (.ref a3) := by
  unfold flds
  rw [lookup_putF, if_neg (by decide +kernel), lookup_putF, if_neg (by decide +kernel), lookup_putF, if_pos rfl]
theorem flds_given (a1 a2 a3 a4 : Addr) (wv : V) : (flds a1 a2 a3 a4 wv).lookup ("given" : Str) = some (.ref a4) := by
  unfold flds
  rw [lookup_putF, if_neg (by decide +kernel), lookup_putF, if_pos rfl]
theorem flds_ways (a1 a2 a3 a4 : Addr) (wv : V) : (flds a1 a2 a3 a4 wv).lookup ("ways" : Str) = some wv := by
  unfold flds
  rw [lookup_putF, if_pos rfl]
theorem flds_no (a1 a2 a3 a4 : Addr) (wv : V) {m : Str} (h0 : ¬ m = "ways" := by decide +kernel) (h1 : ¬ m = "given" := by decide +kernel) (h2 : ¬ m = "names" := by decide +kernel) (h3 : ¬ m = "needs" := by decide +kernel) (h4 : ¬ m = "sizes" := by decide +kernel) : (flds a1 a2 a3 a4 wv).lookup m = none := by
  unfold flds
  rw [lookup_putF, if_neg h0, lookup_putF, if_neg h1, lookup_putF, if_neg h2, lookup_putF, if_neg h3, lookup_putF, if_neg h4]
  rfl
theorem flds_put (a1 a2 a3 a4 : Addr) (wv u : V) : putF "ways" u (flds a1 a2 a3 a4 wv) = flds a1 a2 a3 a4 u := putF_same _ _ _ _
theorem flds_few (a1 a2 a3 a4 : Addr) (wv : V) : (flds a1 a2 a3 a4 wv).length < 1000 := by
  unfold flds
  have h5 := length_putF "ways" wv (putF "given" (.ref a4) (putF "names" (.ref a3) (putF "needs" (.ref a2) (putF "sizes" (.ref a1) []))))
  have h4 := length_putF "given" (.ref a4) (putF "names" (.ref a3) (putF "needs" (.ref a2) (putF "sizes" (.ref a1) [])))
  have h3 := length_putF "names" (.ref a3) (putF "needs" (.ref a2) (putF "sizes" (.ref a1) []))
  have h2 := length_putF "needs" (.ref a2) (putF "sizes" (.ref a1) [])
  have h1 := length_putF "sizes" (.ref a1) []
  simp only [List.length_nil] at h1
  omega

def Keep (own : List Addr) (H H' : Hp) : Prop := ∀ b o, H b = some o → b ∉ own → H' b = some o
theorem NdAt.keep {H H' : Hp} {n : Addr} {x : Kp201.Question} (h : NdAt H n x) (e : H' n = H n) : NdAt H' n x := let ⟨r, h1, h2⟩ := h; ⟨r, by rw [e]; exact h1, h2⟩
theorem ToldAt.keep {H H' : Hp} {w : Addr} {vs : List Addr} {f : Kp201.Form} (h : ToldAt H w vs f) (k : ∀ b ∈ w :: vs, H' b = H b) (tk : TupKeep H H') : ToldAt H' w vs f :=
  ⟨by rw [k w (List.mem_cons_self ..)]; exact h.lst, fun j u e => let ⟨ws, h1, h2⟩ := h.each j u e; ⟨ws, h1, h2.keep (k u (List.mem_cons_of_mem _ (List.mem_of_getElem? e))) tk⟩, h.no, h.len⟩
def WaysIn (H : Hp) (wv : V) (tw : List Addr) (f : Kp201.Form) : Prop := (wv = .non ∧ tw = []) ∨ ∃ w vs, wv = .ref w ∧ tw = w :: vs ∧ ToldAt H w vs f
theorem WaysIn.keep {H H' : Hp} {wv : V} {tw : List Addr} {f : Kp201.Form} (h : WaysIn H wv tw f) (k : ∀ b ∈ tw, H' b = H b) (tk : TupKeep H H') : WaysIn H' wv tw f := by
  rcases h with h | ⟨w, vs, e1, e2, h⟩
  · exact .inl h
  · subst e2
    exact .inr ⟨w, vs, e1, rfl, h.keep k tk⟩
theorem WaysIn.lists {H : Hp} {wv : V} {tw : List Addr} {f : Kp201.Form} (h : WaysIn H wv tw f) : ∀ b ∈ tw, ∃ xs, H b = some (.lst xs) := fun b hb => by
  rcases h with h | ⟨w, vs, e1, e2, h⟩
  · rw [h.2] at hb
    cases hb
  · subst e2
    rcases List.mem_cons.mp hb with z | z
    · rw [z]; exact ⟨_, h.lst⟩
    · obtain ⟨j, hj⟩ := List.getElem?_of_mem z
      obtain ⟨ws, _, ts, e, _⟩ := h.each j b hj
      exact ⟨_, e⟩

structure FormOf (C : Addr) (H : Hp) (p dx a1 a2 a3 a4 : Addr) (ns : List Addr) (nms : List Nat) (wv : V) (tw : List Addr) (h : House) : Prop where
  ins : H p = some (.ins C dx (flds a1 a2 a3 a4 wv))
  fin : FormIn H a1 a2 a3 ns nms h.form
  given : H a4 = some (.lst (h.answers.map optV))
  ways : WaysIn H wv tw h.form
  nd : (a1 :: a2 :: a3 :: a4 :: ns).Nodup
  apart : ∀ b ∈ tw, b ∉ a1 :: a2 :: a3 :: a4 :: ns
def FormAt (C : Addr) (H : Hp) (p : Addr) (own : List Addr) (h : House) : Prop := ∃ dx a1 a2 a3 a4 ns nms wv tw, own = p :: (a1 :: a2 :: a3 :: a4 :: (ns ++ tw)) ∧ FormOf C H p dx a1 a2 a3 a4 ns nms wv tw h
section
variable {C : Addr} {H H' : Hp} {p dx a1 a2 a3 a4 : Addr} {ns : List Addr} {nms : List Nat} {wv : V} {tw own : List Addr} {h : House}
theorem FormOf.fixed (F : FormOf C H p dx a1 a2 a3 a4 ns nms wv tw h) : ∀ b ∈ a1 :: a2 :: a3 :: a4 :: ns, ∃ xs, H b = some (.lst xs) := fun b hb => by
  rcases List.mem_cons.mp hb with rfl | hb
  · exact ⟨_, F.fin.sizes⟩
  rcases List.mem_cons.mp hb with rfl | hb
  · exact ⟨_, F.fin.needs⟩
  rcases List.mem_cons.mp hb with rfl | hb
  · exact ⟨_, F.fin.names⟩
  rcases List.mem_cons.mp hb with rfl | hb
  · exact ⟨_, F.given⟩
  obtain ⟨x, _, as, e, _⟩ := pairGet F.fin.each (List.getElem?_of_mem hb).choose_spec
  exact ⟨_, e⟩
theorem FormAt.live (F : FormAt C H p own h) : ∀ b ∈ own, ∃ o, H b = some o := fun b hb => by
  obtain ⟨dx, a1, a2, a3, a4, ns, nms, wv, tw, rfl, F⟩ := F
  rcases List.mem_cons.mp hb with rfl | hb
  · exact ⟨_, F.ins⟩
  · have : b ∈ (a1 :: a2 :: a3 :: a4 :: ns) ++ tw := hb
    rcases List.mem_append.mp this with z | z
    · obtain ⟨xs, e⟩ := F.fixed b z
      exact ⟨_, e⟩
    · obtain ⟨xs, e⟩ := F.ways.lists b z
      exact ⟨_, e⟩
/-- all that the form leans on is as it was -/
theorem FormOf.keep (F : FormOf C H p dx a1 a2 a3 a4 ns nms wv tw h) (k : ∀ b ∈ p :: (a1 :: a2 :: a3 :: a4 :: (ns ++ tw)), H' b = H b) (tk : TupKeep H H') : FormOf C H' p dx a1 a2 a3 a4 ns nms wv tw h := by
  refine ⟨by rw [k p (by simp)]; exact F.ins, ⟨by rw [k a1 (by simp)]; exact F.fin.sizes, by rw [k a2 (by simp)]; exact F.fin.needs, by rw [k a3 (by simp)]; exact F.fin.names, pairMem F.fin.each fun n hn x _ q => q.keep (k n (by simp [hn])), F.fin.named⟩,
    by rw [k a4 (by simp)]; exact F.given, F.ways.keep (fun b hb => k b (by simp [hb])) tk, F.nd, F.apart⟩
theorem FormOf.same (F : FormOf C H p dx a1 a2 a3 a4 ns nms wv tw h) (s : Same H H') : FormOf C H' p dx a1 a2 a3 a4 ns nms wv tw h := by
  refine F.keep (fun b hb => ?_) fun t xs e => s _ _ e
  obtain ⟨o, e⟩ := FormAt.live ⟨dx, a1, a2, a3, a4, ns, nms, wv, tw, rfl, F⟩ b hb
  rw [e]
  exact s _ _ e
theorem FormAt.same (F : FormAt C H p own h) (s : Same H H') : FormAt C H' p own h := by
  obtain ⟨dx, a1, a2, a3, a4, ns, nms, wv, tw, e, F⟩ := F
  exact ⟨dx, a1, a2, a3, a4, ns, nms, wv, tw, e, F.same s⟩
theorem FormAt.but {l : Addr} {xs : List V} (F : FormAt C H p own h) (hl : H l = some (.lst xs)) (lo : l ∉ own) (kp : ∀ b o, H b = some o → b ≠ l → H' b = some o) : FormAt C H' p own h := by
  have live := F.live
  obtain ⟨dx, a1, a2, a3, a4, ns, nms, wv, tw, eo, F⟩ := F
  refine ⟨dx, a1, a2, a3, a4, ns, nms, wv, tw, eo, F.keep (fun b hb => ?_) fun t ys e => kp _ _ e (ne_of e hl (by intro z; cases z))⟩
  rw [← eo] at hb
  obtain ⟨o, e⟩ := live b hb
  rw [e]
  exact kp b o e fun z => lo (z ▸ hb)
/-- of an address that is new nothing is known -/
theorem FormAt.fresh {a : Addr} (F : FormAt C H p own h) (e : H a = none) : a ∉ own := fun hm => by
  obtain ⟨o, q⟩ := F.live a hm
  rw [e] at q
  cases q
end

/-- what is true behind a call on a form -/
structure Done (C : Addr) (H H' : Hp) (p : Addr) (own own' : List Addr) (h' : House) : Prop where
  form : FormAt C H' p own' h'
  sub : ∀ b ∈ own', b ∈ own ∨ H b = none
  keep : Keep own H H'
def After (C : Addr) (H : Hp) (p : Addr) (own : List Addr) (h' : House) (out : List Int) (Q : VK) : Prop :=
  ∀ H' own' a, Done C H H' p own own' h' → H a = none → H' a = some (.lst (out.map V.int)) → Q (.ref a) H'
def EndsBy (C : Addr) (H : Hp) (p : Addr) (own : List Addr) (h : House) (c : Kp201.Call) (Q : VK) : Prop :=
  ∀ h' ans, Kp201.step (some h) c = (some h', ans) → GoodH h' → After C H p own h' (outI ans) Q
theorem upd_free {H : Hp} {a b : Addr} {o : HO} (h : L2.upd H a o b = none) : H b = none := by
  unfold L2.upd at h
  split at h
  · cases h
  · exact h
theorem upd_apart {H : Hp} {a b : Addr} {o : HO} (h : L2.upd H a o b = none) : b ≠ a := fun e => by
  rw [e, upd_same] at h
  cases h
/-- nothing but a new list -/
theorem After.same {C : Addr} {H : Hp} {p : Addr} {own : List Addr} {h : House} {out : List Int} {Q : VK} (k : After C H p own h out Q) (F : FormAt C H p own h) {H' : Hp} {a : Addr} (s : Same H H') (n : H a = none) (e : H' a = some (.lst (out.map V.int))) : Q (.ref a) H' :=
  k H' own a ⟨F.same s, fun b hb => .inl hb, fun b o e _ => s b o e⟩ n e
theorem After.new {C : Addr} {H : Hp} {p : Addr} {own : List Addr} {h : House} {out : List Int} {Q : VK} (k : After C H p own h out Q) (F : FormAt C H p own h) {H' : Hp} (s : Same H H') {a : Addr} (n : H' a = none) {o : HO} (e : o = .lst (out.map V.int)) : Q (.ref a) (L2.upd H' a o) := by
  refine k.same F (s.upd (s.free n)) (s.free n) ?_
  rw [upd_same, e]
/-- .. behind what was done -/
theorem After.done {C : Addr} {H H1 : Hp} {p : Addr} {own own1 : List Addr} {h : House} {out : List Int} {Q : VK} (k : After C H p own h out Q) (d : Done C H H1 p own own1 h) (lv : ∀ b, H1 b = none → H b = none) {H' : Hp} (s : Same H1 H') {a : Addr} (n : H' a = none) {o : HO} (e : o = .lst (out.map V.int)) : Q (.ref a) (L2.upd H' a o) := by
  refine k _ own1 a ⟨d.form.same (s.upd (s.free n)), d.sub, fun b u q hb => ?_⟩ (lv a (s.free n)) (by rw [upd_same, e])
  exact (s.upd (s.free n)) _ _ (d.keep b u q hb)
theorem GoodQ.qok {i : Nat} {x : Kp201.Question} (g : GoodQ i x) : QOk x := { nc := g.nc, st := fun k hk l hl => ((g.cl k hk).2.2 l hl).2, o1 := g.o1, o8 := g.o8 }
end Aj
end
section
set_option Elab.async false
set_option linter.all false
set_option maxRecDepth 100000
set_option maxHeartbeats 4000000
/-! A form's methods: made, begun, looked at. -/
namespace Aj
open PySem PySem.Spec PyProof.Rows L2
open Kp201 (Literal House Came Ans Way)
theorem st_l {H : Hp} {p l : Addr} {q o o' : HO} (hp : H p = some q) (hl : H l = none) : L2.upd (L2.upd H l o) p o' l = some o := by rw [upd_ne (ne_of_none hp hl).symm, upd_same]
theorem st_k {H : Hp} {p l : Addr} {o o' : HO} (hl : H l = none) : ∀ b u, H b = some u → b ≠ p → L2.upd (L2.upd H l o) p o' b = some u := fun b u e hb => by
  rw [upd_ne hb, upd_ne (ne_of_none e hl)]
  exact e
section
variable {P : Program} {w : World} {K : PySem.W.Frag} {mg : Str → Option Value} {base : Heap} {D : Defs}

def spInit (C : Addr) : Sp := fun vs H Q _ => ∃ (p dx : Addr), vs = [.ref p] ∧ H p = some (.ins C dx []) ∧ ∀ H' own, FormAt C H' p own ⟨[], []⟩ → (∀ b ∈ own, b = p ∨ H b = none) → (∀ b o, H b = some o → b ≠ p → H' b = some o) → Q .non H'
theorem ok_init (T : Known K mg D) : FnOk P w K mg base CX0 1 D.f_Form_init D.d_Form_init ["self"] (spInit D.C_Form) := by
  refine T.F_Form_init.ok sc_Form_init (fun vs H Q E h => ?_) (fun cdv A outer s H vs Q E hr h => ?_)
  · obtain ⟨p, dx, rfl, _⟩ := h
    rfl
  · obtain ⟨p, dx, rfl, hp, k⟩ := h
    refine ⟨_, pss_cons (ps_fld (pv 0) (pe_lst pa_nil) rfl) (pss_cons (ps_fld (pv 0) (pe_lst pa_nil) rfl) (pss_cons (ps_fld (pv 0) (pe_lst pa_nil) rfl) (pss_cons (ps_fld (pv 0) (pe_lst pa_nil) rfl) (pss_one (ps_fld (pv 0) pe_non rfl))))), ?_⟩
    refine ⟨Nat.zero_le _, fun l1 f1 => ⟨_, rfl, p, D.C_Form, dx, [], rfl, by rw [upd_ne (ne_of_none hp f1)]; exact hp, T.cl_Form, T.n_Form_sizes, (by show 0 < 1000; decide), ?_⟩⟩
    have p1 : p ≠ l1 := ne_of_none hp f1
    have b1 := st_l (o := .lst []) (o' := .ins D.C_Form dx (putF "sizes" (.ref l1) [])) hp f1
    have k1 := st_k (p := p) (o := .lst []) (o' := .ins D.C_Form dx (putF "sizes" (.ref l1) [])) f1
    have i1 : upd (upd H l1 (.lst [])) p (.ins D.C_Form dx (putF "sizes" (.ref l1) [])) p = _ := upd_same
    have r1 : ∀ b, upd (upd H l1 (.lst [])) p (.ins D.C_Form dx (putF "sizes" (.ref l1) [])) b = none → H b = none := fun b e => upd_free (upd_free e)
    generalize upd (upd H l1 (.lst [])) p (.ins D.C_Form dx (putF "sizes" (.ref l1) [])) = H1 at b1 k1 i1 r1 ⊢
    refine ⟨Nat.zero_le _, fun l2 f2 => ⟨_, rfl, p, D.C_Form, dx, _, rfl, by rw [upd_ne (ne_of_none i1 f2)]; exact i1, T.cl_Form, T.n_Form_needs, (by show 1 < 1000; decide), ?_⟩⟩
    have p2 : p ≠ l2 := ne_of_none i1 f2
    have n12 : l1 ≠ l2 := ne_of_none b1 f2
    have b2 := st_l (o := .lst []) (o' := .ins D.C_Form dx (putF "needs" (.ref l2) (putF "sizes" (.ref l1) []))) i1 f2
    have k2 := st_k (p := p) (o := .lst []) (o' := .ins D.C_Form dx (putF "needs" (.ref l2) (putF "sizes" (.ref l1) []))) f2
    have i2 : upd (upd H1 l2 (.lst [])) p (.ins D.C_Form dx (putF "needs" (.ref l2) (putF "sizes" (.ref l1) []))) p = _ := upd_same
    have r2 : ∀ b, upd (upd H1 l2 (.lst [])) p (.ins D.C_Form dx (putF "needs" (.ref l2) (putF "sizes" (.ref l1) []))) b = none → H1 b = none := fun b e => upd_free (upd_free e)
    generalize upd (upd H1 l2 (.lst [])) p (.ins D.C_Form dx (putF "needs" (.ref l2) (putF "sizes" (.ref l1) []))) = H2 at b2 k2 i2 r2 ⊢
    refine ⟨Nat.zero_le _, fun l3 f3 => ⟨_, rfl, p, D.C_Form, dx, _, rfl, by rw [upd_ne (ne_of_none i2 f3)]; exact i2, T.cl_Form, T.n_Form_names, (by show 2 < 1000; decide), ?_⟩⟩
    have p3 : p ≠ l3 := ne_of_none i2 f3
    have n23 : l2 ≠ l3 := ne_of_none b2 f3
    have n13 : l1 ≠ l3 := ne_of_none (k2 _ _ b1 p1.symm) f3
    have b3 := st_l (o := .lst []) (o' := .ins D.C_Form dx (putF "names" (.ref l3) (putF "needs" (.ref l2) (putF "sizes" (.ref l1) [])))) i2 f3
    have k3 := st_k (p := p) (o := .lst []) (o' := .ins D.C_Form dx (putF "names" (.ref l3) (putF "needs" (.ref l2) (putF "sizes" (.ref l1) [])))) f3
    have i3 : upd (upd H2 l3 (.lst [])) p (.ins D.C_Form dx (putF "names" (.ref l3) (putF "needs" (.ref l2) (putF "sizes" (.ref l1) [])))) p = _ := upd_same
    have r3 : ∀ b, upd (upd H2 l3 (.lst [])) p (.ins D.C_Form dx (putF "names" (.ref l3) (putF "needs" (.ref l2) (putF "sizes" (.ref l1) [])))) b = none → H2 b = none := fun b e => upd_free (upd_free e)
    generalize upd (upd H2 l3 (.lst [])) p (.ins D.C_Form dx (putF "names" (.ref l3) (putF "needs" (.ref l2) (putF "sizes" (.ref l1) [])))) = H3 at b3 k3 i3 r3 ⊢
    refine ⟨Nat.zero_le _, fun l4 f4 => ⟨_, rfl, p, D.C_Form, dx, _, rfl, by rw [upd_ne (ne_of_none i3 f4)]; exact i3, T.cl_Form, T.n_Form_given, (by show 3 < 1000; decide), ?_⟩⟩
    have p4 : p ≠ l4 := ne_of_none i3 f4
    have n34 : l3 ≠ l4 := ne_of_none b3 f4
    have n24 : l2 ≠ l4 := ne_of_none (k3 _ _ b2 p2.symm) f4
    have n14 : l1 ≠ l4 := ne_of_none (k3 _ _ (k2 _ _ b1 p1.symm) p1.symm) f4
    have b4 := st_l (o := .lst []) (o' := .ins D.C_Form dx (putF "given" (.ref l4) (putF "names" (.ref l3) (putF "needs" (.ref l2) (putF "sizes" (.ref l1) []))))) i3 f4
    have k4 := st_k (p := p) (o := .lst []) (o' := .ins D.C_Form dx (putF "given" (.ref l4) (putF "names" (.ref l3) (putF "needs" (.ref l2) (putF "sizes" (.ref l1) []))))) f4
    have i4 : upd (upd H3 l4 (.lst [])) p (.ins D.C_Form dx (putF "given" (.ref l4) (putF "names" (.ref l3) (putF "needs" (.ref l2) (putF "sizes" (.ref l1) []))))) p = _ := upd_same
    generalize upd (upd H3 l4 (.lst [])) p (.ins D.C_Form dx (putF "given" (.ref l4) (putF "names" (.ref l3) (putF "needs" (.ref l2) (putF "sizes" (.ref l1) []))))) = H4 at b4 k4 i4 ⊢
    refine ⟨_, rfl, p, D.C_Form, dx, _, rfl, i4, T.cl_Form, T.n_Form_ways, (by show 4 < 1000; decide), ?_⟩
    refine k _ (p :: [l1, l2, l3, l4]) ⟨dx, l1, l2, l3, l4, [], [], .non, [], rfl, ?_, ⟨?_, ?_, ?_, .nil, .nil⟩, ?_, .inl ⟨rfl, rfl⟩, ?_, fun b hb => by cases hb⟩ (fun b hb => ?_) fun b o e hb => ?_
    · rw [upd_same]
      rfl
    · rw [upd_ne p1.symm]
      exact k4 _ _ (k3 _ _ (k2 _ _ b1 p1.symm) p1.symm) p1.symm
    · rw [upd_ne p2.symm]
      exact k4 _ _ (k3 _ _ b2 p2.symm) p2.symm
    · rw [upd_ne p3.symm]
      exact k4 _ _ b3 p3.symm
    · rw [upd_ne p4.symm]
      exact b4
    · exact List.nodup_cons.mpr ⟨by simp [n12, n13, n14], List.nodup_cons.mpr ⟨by simp [n23, n24], List.nodup_cons.mpr ⟨by simp [n34], by simp⟩⟩⟩
    · simp only [List.mem_cons, List.not_mem_nil, or_false] at hb
      rcases hb with rfl | rfl | rfl | rfl | rfl
      · exact .inl rfl
      · exact .inr f1
      · exact .inr (r1 _ f2)
      · exact .inr (r1 _ (r2 _ f3))
      · exact .inr (r1 _ (r2 _ (r3 _ f4)))
    · rw [upd_ne hb]
      exact k4 _ _ (k3 _ _ (k2 _ _ (k1 _ _ e hb) hb) hb) hb

def spBegin (C : Addr) : Sp := fun vs H Q _ => ∃ (p : Addr) (own : List Addr) (h : House), vs = [.ref p] ∧ FormAt C H p own h ∧ EndsBy C H p own h .begin_ Q
theorem ok_begin (T : Known K mg D) : FnOk P w K mg base CX0 1 D.f_Form_begin D.d_Form_begin ["self"] (spBegin D.C_Form) := by
  refine T.F_Form_begin.ok sc_Form_begin (fun vs H Q E h => ?_) (fun cdv A outer s H vs Q E hr h => ?_)
  · obtain ⟨p, own, h, rfl, _⟩ := h
    rfl
  · obtain ⟨p, own, h, rfl, ⟨dx, a1, a2, a3, a4, ns, nms, wv, tw, rfl, F⟩, k⟩ := h
    have p1 : p ≠ a1 := ne_of F.ins F.fin.sizes (by intro z; cases z)
    have p2 : p ≠ a2 := ne_of F.ins F.fin.needs (by intro z; cases z)
    have p3 : p ≠ a3 := ne_of F.ins F.fin.names (by intro z; cases z)
    have p4 : p ≠ a4 := ne_of F.ins F.given (by intro z; cases z)
    have nd := F.nd
    simp only [List.nodup_cons, List.mem_cons, not_or] at nd
    obtain ⟨⟨n12, n13, n14, _⟩, ⟨n23, n24, _⟩, ⟨n34, _⟩, _⟩ := nd
    refine ⟨_, pss_cons (ps_expr (pe_bm0 PySem.F.plainAttrs_list PySem.F.slot_list_clear PySem.F.type_list_clear mt_clear (pe_fld (pv 0) rfl)))
      (pss_cons (ps_expr (pe_bm0 PySem.F.plainAttrs_list PySem.F.slot_list_clear PySem.F.type_list_clear mt_clear (pe_fld (pv 0) rfl)))
      (pss_cons (ps_expr (pe_bm0 PySem.F.plainAttrs_list PySem.F.slot_list_clear PySem.F.type_list_clear mt_clear (pe_fld (pv 0) rfl)))
      (pss_cons (ps_expr (pe_bm0 PySem.F.plainAttrs_list PySem.F.slot_list_clear PySem.F.type_list_clear mt_clear (pe_fld (pv 0) rfl)))
      (pss_cons (ps_fld (pv 0) pe_non rfl)
      (pss_one (ps_ret (pe_lst (pa_cons pe_int pa_nil)))))))), ?_⟩
    refine ⟨_, rfl, p, D.C_Form, dx, _, _, rfl, F.ins, T.cl_Form, T.n_Form_sizes, flds_sizes .., .inl ⟨rfl, _, SqL.of F.fin.sizes⟩, a1, _, rfl, rfl, F.fin.sizes, ?_⟩
    have e2 : upd H a1 (.lst []) a2 = some (.lst (ns.map V.ref)) := by rw [upd_ne (Ne.symm n12)]; exact F.fin.needs
    refine ⟨_, rfl, p, D.C_Form, dx, _, _, rfl, by rw [upd_ne p1]; exact F.ins, T.cl_Form, T.n_Form_needs, flds_needs .., .inl ⟨rfl, _, SqL.of e2⟩, a2, _, rfl, rfl, e2, ?_⟩
    have e3 : upd (upd H a1 (.lst [])) a2 (.lst []) a3 = some (.lst (nms.map nV)) := by rw [upd_ne (Ne.symm n23), upd_ne (Ne.symm n13)]; exact F.fin.names
    refine ⟨_, rfl, p, D.C_Form, dx, _, _, rfl, by rw [upd_ne p2, upd_ne p1]; exact F.ins, T.cl_Form, T.n_Form_names, flds_names .., .inl ⟨rfl, _, SqL.of e3⟩, a3, _, rfl, rfl, e3, ?_⟩
    have e4 : upd (upd (upd H a1 (.lst [])) a2 (.lst [])) a3 (.lst []) a4 = some (.lst (h.answers.map optV)) := by rw [upd_ne (Ne.symm n34), upd_ne (Ne.symm n24), upd_ne (Ne.symm n14)]; exact F.given
    refine ⟨_, rfl, p, D.C_Form, dx, _, _, rfl, by rw [upd_ne p3, upd_ne p2, upd_ne p1]; exact F.ins, T.cl_Form, T.n_Form_given, flds_given .., .inl ⟨rfl, _, SqL.of e4⟩, a4, _, rfl, rfl, e4, ?_⟩
    refine ⟨_, rfl, p, D.C_Form, dx, _, rfl, by rw [upd_ne p4, upd_ne p3, upd_ne p2, upd_ne p1]; exact F.ins, T.cl_Form, T.n_Form_ways, flds_few .., ?_⟩
    refine ⟨(by show 1 ≤ sizeLine; decide), fun l hl => ?_⟩
    have q0 : l ≠ p := upd_apart hl
    have q4 : l ≠ a4 := upd_apart (upd_free hl)
    have q3 : l ≠ a3 := upd_apart (upd_free (upd_free hl))
    have q2 : l ≠ a2 := upd_apart (upd_free (upd_free (upd_free hl)))
    have q1 : l ≠ a1 := upd_apart (upd_free (upd_free (upd_free (upd_free hl))))
    have fl : H l = none := upd_free (upd_free (upd_free (upd_free (upd_free hl))))
    refine k ⟨[], []⟩ _ rfl good_nil _ (p :: [a1, a2, a3, a4]) l ⟨⟨dx, a1, a2, a3, a4, [], [], .non, [], rfl, ?_, ⟨?_, ?_, ?_, .nil, .nil⟩, ?_, .inl ⟨rfl, rfl⟩, ?_, fun b hb => by cases hb⟩, fun b hb => .inl ?_, fun b o e hb => ?_⟩ fl upd_same
    · rw [upd_ne q0.symm, upd_same, flds_put]
    · rw [upd_ne q1.symm, upd_ne p1.symm, upd_ne n14, upd_ne n13, upd_ne n12, upd_same]
      rfl
    · rw [upd_ne q2.symm, upd_ne p2.symm, upd_ne n24, upd_ne n23, upd_same]
      rfl
    · rw [upd_ne q3.symm, upd_ne p3.symm, upd_ne n34, upd_same]
      rfl
    · rw [upd_ne q4.symm, upd_ne p4.symm, upd_same]
      rfl
    · exact List.nodup_cons.mpr ⟨by simp [n12, n13, n14], List.nodup_cons.mpr ⟨by simp [n23, n24], List.nodup_cons.mpr ⟨by simp [n34], by simp⟩⟩⟩
    · simp only [List.mem_cons, List.not_mem_nil, or_false] at hb ⊢
      rcases hb with z | z | z | z | z
      · exact .inl z
      · exact .inr (.inl z)
      · exact .inr (.inr (.inl z))
      · exact .inr (.inr (.inr (.inl z)))
      · exact .inr (.inr (.inr (.inr (.inl z))))
    · simp only [List.mem_cons, not_or] at hb
      rw [upd_ne (ne_of_none e fl), upd_ne hb.1, upd_ne hb.2.2.2.2.1, upd_ne hb.2.2.2.1, upd_ne hb.2.2.1, upd_ne hb.2.1]
      exact e

def spHas (C : Addr) : Sp := fun vs H Q _ => ∃ (p : Addr) (own : List Addr) (h : House) (q : Nat), vs = [.ref p, nV q] ∧ FormAt C H p own h ∧ Q (.bl (decide (q < h.form.length))) H
theorem ok_has (T : Known K mg D) : FnOk P w K mg base CX0 1 D.f_Form_has_question D.d_Form_has_question ["self", "question"] (spHas D.C_Form) := by
  refine T.F_Form_has_question.ok sc_Form_has_question (fun vs H Q E h => ?_) (fun cdv A outer s H vs Q E hr h => ?_)
  · obtain ⟨p, own, h, q, rfl, _⟩ := h
    rfl
  · obtain ⟨p, own, h, q, rfl, ⟨dx, a1, a2, a3, a4, ns, nms, wv, tw, rfl, F⟩, k⟩ := h
    refine ⟨_, pss_one (ps_ret (pe_cmpR op_lt (pv 1) (pe_callB call_len_seq (by rfl) T.z_len PySem.boot_len (pa_cons (pe_fld (pv 0) rfl) pa_nil)) (nomark _))), ?_⟩
    refine ⟨_, rfl, _, rfl, p, D.C_Form, dx, _, _, rfl, F.ins, T.cl_Form, T.n_Form_sizes, flds_sizes .., a1, _, rfl, .inl (SqL.of F.fin.sizes), _, _, rfl, rfl, ?_⟩
    rw [List.length_map]
    have e : decide ((q : Int) < (h.form.length : Int)) = decide (q < h.form.length) := decide_eq_decide.mpr (by omega)
    rw [← e] at k
    exact k
end
end Aj
end
section
set_option Elab.async false
set_option linter.all false
set_option maxRecDepth 100000
set_option maxHeartbeats 4000000
/-! As things are; next. -/
namespace Aj
open PySem PySem.Spec PyProof.Rows L2
open Kp201 (Literal House Came Ans Way)
section
variable {P : Program} {w : World} {K : PySem.W.Frag} {mg : Str → Option Value} {base : Heap} {D : Defs}
def spComes (C : Addr) : Sp := fun vs H Q _ => ∃ (p : Addr) (own : List Addr) (h : House), vs = [.ref p] ∧ FormAt C H p own h ∧ GoodH h ∧ ∀ H' a, Same H H' → H a = none → H' a = some (.lst ((Kp201.now h).map comeV)) → Q (.ref a) H'
theorem opt_at {l : List (Option Nat)} {i : Nat} (h : i < l.length) : (l.map optV)[i]? = some (optV (l.getD i none)) := by
  rw [List.getElem?_map, List.getD_eq_getElem?_getD, List.getElem?_eq_getElem h]
  rfl
theorem come_at {row : Came} {i v : Nat} (h : row[i]? = some v) : (row.map comeV)[i]? = some (comeV v) := by rw [List.getElem?_map, h]; rfl
theorem ok_comes (T : Known K mg D) : FnOk P w K mg base CX0 3 D.f_Form_as_things_are D.d_Form_as_things_are ["self"] (spComes D.C_Form) := by
  have GA : FnOk P w K mg base CX0 1 D.f_is_asked D.d_is_asked ["needs", "row"] spAsked := ok_asked T
  have GM : FnOk P w K mg base CX0 2 D.f_mark D.d_mark ["question", "come"] spMark := ok_mark T
  have GW : FnOk P w K mg base CX0 2 D.f_what_comes D.d_what_comes ["row", "count"] spWhat := ok_what_comes T
  refine T.F_Form_as_things_are.ok sc_Form_as_things_are (fun vs H Q E h => ?_) (fun cdv A outer s H vs Q E hr h => ?_)
  · obtain ⟨p, own, h, rfl, _⟩ := h
    rfl
  · obtain ⟨p, own, h, rfl, ⟨dx, a1, a2, a3, a4, ns, nms, wv, tw, rfl, F⟩, g, k⟩ := h
    have hr1 : Room 1 _ := hr.mono (by decide)
    refine ⟨_, pss_cons (ps_set (i := 1) sc_Form_as_things_are.nd rfl (Or.inl rfl) pe_int)
      (pss_cons (ps_for PassesOwn.never rfl (pi_enum rfl T.z_enumerate (pa_cons (pe_fld (pv 0) rfl) pa_nil)) (pg_tup rfl (pgs_cons (pg_name (i := 2) sc_Form_as_things_are.nd rfl (Or.inl rfl)) (pgs_cons (pg_name (i := 3) sc_Form_as_things_are.nd rfl (Or.inl rfl)) pgs_nil)))
        (pss_one (ps_if (pt_not (pt_val (pe_call GA hr1 rfl T.m_is_asked T.F_is_asked.kp T.b_is_asked .nil pass0 (pa_cons (pv 3) (pa_cons (pv 1) pa_nil)))))
          (pss_one (ps_set (i := 1) sc_Form_as_things_are.nd rfl (Or.inl rfl) (pe_op op_or (pv 1) (pe_call GM hr rfl T.m_mark T.F_mark.kp T.b_mark .nil pass0 (pa_cons (pv 2) (pa_cons (pe_gi T.g_PASSED_OVER) pa_nil))))))
          (pss_one (ps_if (pt_cmpR op_notN (pe_ix ix_list (pe_fld (pv 0) rfl) (pv 2) plain) pe_non (nomark _))
            (pss_one (ps_set (i := 1) sc_Form_as_things_are.nd rfl (Or.inl rfl) (pe_op op_or (pv 1) (pe_call GM hr rfl T.m_mark T.F_mark.kp T.b_mark .nil pass0 (pa_cons (pv 2) (pa_cons (pe_ix ix_list (pe_fld (pv 0) rfl) (pv 2) plain) pa_nil))))))
            pss_nil)))))
      (pss_one (ps_ret (pe_call GW hr rfl T.m_what_comes T.F_what_comes.kp T.b_what_comes .nil pass0 (pa_cons (pv 1) (pa_cons (pe_callB call_len_seq (by rfl) T.z_len PySem.boot_len (pa_cons (pe_fld (pv 0) rfl) pa_nil)) pa_nil)))))), ?_⟩
    refine ⟨_, rfl, p, D.C_Form, dx, _, _, rfl, F.ins, T.cl_Form, T.n_Form_needs, flds_needs .., a2, _, rfl, SqL.of F.fin.needs, ?_⟩
    have ln : ns.length = h.form.length := pairLen F.fin.each
    refine for_enum (K := K) (a := a2) (xs := ns.map V.ref) (fun i σ H' => ∃ (R : Nat) (v2 v3 : Option V), σ = [some (.ref p), some (nV R), v2, v3] ∧ Same H H' ∧ Rep (rowTo h i) R)
      ⟨0, none, none, rfl, Same.refl H, rep_nil⟩ (fun i σ H' _ ⟨_, _, _, _, s1, _⟩ => s1.seq (SqL.of F.fin.needs)) ?_ ?_
    · rintro i x σ H' t hi ⟨R, v2, v3, rfl, s1, hR⟩ ht
      obtain ⟨n, hn, rfl⟩ := refs_at hi
      obtain ⟨xq, hx, hnd⟩ := pairGet F.fin.each hn
      have gq := g.q i xq hx
      have hil : i < h.form.length := (List.getElem?_eq_some_iff.mp hx).1
      have i24 := g.size
      have rl : (rowTo h i).length = i := rowTo_len h (Nat.le_of_lt hil)
      have s2 : Same H (upd H' t (.tup [.int (i : Nat), .ref n])) := s1.upd (s1.free ht)
      have hlen : i < h.answers.length := by rw [g.len]; exact hil
      have put : ∀ v, v ≤ 8 → valOf (rowTo h i) xq (h.answers.getD i none) = v → Rep (rowTo h (i + 1)) (R ||| 2 ^ v * 2 ^ (9 * i)) := fun v hv e => by
        have := rep_snoc hR hv
        rw [rl] at this
        rw [rowTo_succ h hx, e]
        exact this
      have fin : ∀ (v : Nat) (H3 : Hp), Same H H3 → v ≤ 8 → valOf (rowTo h i) xq (h.answers.getD i none) = v →
          ∃ (R' : Nat) (v2 v3 : Option V), [some (V.ref p), some (V.int (Builtin.bitOr (R : Int) ((2 ^ v * 2 ^ (9 * i) : Nat) : Int))), some (nV i), some (V.ref n)] = [some (V.ref p), some (nV R'), v2, v3] ∧ Same H H3 ∧ Rep (rowTo h (i + 1)) R' := fun v H3 s3 hv e =>
        ⟨_, _, _, by rw [or_nat], s3, put v hv e⟩
      refine ⟨t, _, rfl, SqT.of upd_same, rfl, _, _, rfl, _, _, rfl, rfl, ?_⟩
      refine ⟨_, rfl, _, rfl, n, R, rowTo h i, xq, rfl, hnd.same s2, gq.qok.toAskOk, hR, fun H3 s3 => ?_⟩
      have s13 : Same H H3 := s2.trans s3
      refine ⟨_, rfl, ?_⟩
      refine ite2 (fun c => ?_) (fun c => ?_)
      · have c' : Kp201.asked (rowTo h i) xq = false := by
          have : (!Kp201.asked (rowTo h i) xq) = true := c
          simpa using this
        refine ⟨_, rfl, _, rfl, i, 8, rfl, by omega, by omega, _, _, rfl, rfl, ?_⟩
        refine fin 8 H3 s13 (by omega) ?_
        unfold valOf
        rw [if_pos c']
        rfl
      · have c' : ¬ Kp201.asked (rowTo h i) xq = false := fun z => c (by show (!Kp201.asked (rowTo h i) xq) = true; rw [z]; rfl)
        refine ⟨_, rfl, p, D.C_Form, dx, _, _, rfl, s13 _ _ F.ins, T.cl_Form, T.n_Form_given, flds_given .., _, rfl, a4, _, _, _, rfl, rfl, SqL.of (s13 _ _ F.given), at_nat (opt_at hlen), rfl, _, rfl, ?_⟩
        cases ea : h.answers.getD i none with
        | none =>
          refine iteF ?_
          refine ⟨R, _, _, rfl, s13, ?_⟩
          have ev : valOf (rowTo h i) xq (h.answers.getD i none) = 9 := by
            unfold valOf
            rw [if_neg c', ea]
            rfl
          rw [rowTo_succ h hx, ev]
          exact rep_wait hR
        | some o =>
          refine iteT ?_
          have o8 : o < 8 := by
            have hq : h.answers[i]? = some (some o) := by
              rw [List.getD_eq_getElem?_getD, List.getElem?_eq_getElem hlen] at ea
              rw [List.getElem?_eq_getElem hlen]
              exact congrArg some ea
            exact g.ans8 hq
          refine ⟨_, rfl, _, rfl, _, rfl, p, D.C_Form, dx, _, _, rfl, s13 _ _ F.ins, T.cl_Form, T.n_Form_given, flds_given .., _, rfl, a4, _, _, _, rfl, rfl, SqL.of (s13 _ _ F.given), at_nat (opt_at hlen), ?_⟩
          rw [ea]
          refine ⟨i, o, rfl, by omega, by omega, _, _, rfl, rfl, ?_⟩
          refine fin o H3 s13 (by omega) ?_
          unfold valOf
          rw [if_neg c', ea]
    · rintro σ H' ⟨R, v2, v3, rfl, s1, hR⟩
      rw [List.length_map, ln, rowTo_all] at hR
      refine ⟨_, rfl, _, rfl, p, D.C_Form, dx, _, _, rfl, s1 _ _ F.ins, T.cl_Form, T.n_Form_needs, flds_needs .., a2, _, rfl, .inl (SqL.of (s1 _ _ F.fin.needs)), R, Kp201.now h, ?_, ?_, hR, now_le g, fun H2 a s2 ha h2 => k H2 a (s1.trans s2) (s1.free ha) h2⟩
      · rw [List.length_map, ln, now_len]
        rfl
      · rw [now_len]
        exact g.size

def spNext (C : Addr) : Sp := fun vs H Q _ => ∃ (p : Addr) (own : List Addr) (h : House), vs = [.ref p] ∧ FormAt C H p own h ∧ GoodH h ∧ EndsBy C H p own h .next Q
theorem comeI_wait (v : Nat) : comeI v = -1 ↔ v = 9 := by
  unfold comeI
  split
  · rename_i h
    exact ⟨fun _ => h, fun _ => rfl⟩
  · rename_i h
    exact ⟨fun z => by omega, fun z => absurd z h⟩
theorem comeI_eight (v : Nat) : comeI v = 8 ↔ v = 8 := by
  unfold comeI
  split
  · rename_i h
    exact ⟨fun z => by omega, fun z => by omega⟩
  · exact ⟨fun z => by omega, fun z => by omega⟩
theorem in_come (row : Came) : inV (V.int (-1)) (row.map comeV) = row.any fun x => x == 9 := by
  unfold inV
  rw [List.any_map]
  congr 1
  funext x
  show (comeI x == -1) = (x == 9)
  rw [Bool.eq_iff_iff, beq_iff_eq, beq_iff_eq]
  exact comeI_wait x
theorem flat_come (row : Came) : (row.map comeV).all flatV = true := by
  rw [List.all_map, List.all_eq_true]
  intro x _
  rfl
theorem ok_next (T : Known K mg D) : FnOk P w K mg base CX0 4 D.f_Form_next_question D.d_Form_next_question ["self"] (spNext D.C_Form) := by
  have GC : FnOk P w K mg base CX0 3 D.f_Form_as_things_are D.d_Form_as_things_are ["self"] (spComes D.C_Form) := ok_comes T
  refine T.F_Form_next_question.ok sc_Form_next_question (fun vs H Q E h => ?_) (fun cdv A outer s H vs Q E hr h => ?_)
  · obtain ⟨p, own, h, rfl, _⟩ := h
    rfl
  · obtain ⟨p, own, h, rfl, F, g, k⟩ := h
    obtain ⟨dx, a1, a2, a3, a4, ns, nms, wv, tw, eo, F0⟩ := id F
    refine ⟨_, pss_cons (ps_set (i := 1) sc_Form_next_question.nd rfl (Or.inl rfl) (pe_meth0 (pv 0) T.cl_Form T.m_Form_as_things_are GC hr T.b_Form_as_things_are .nil pass0))
      (pss_cons (ps_if (pt_cmpR op_in_seq (pe_gi T.g_WAITING) (pv 1) (by with_unfolding_all rfl))
        (pss_one (ps_ret (pe_lst (pa_cons pe_int (pa_cons (pe_bm PySem.F.plainAttrs_list PySem.F.slot_list_index PySem.F.type_list_index mt_index (pv 1) (pa_cons (pe_gi T.g_WAITING) pa_nil)) pa_nil))))) pss_nil)
      (pss_one (ps_ret (pe_lst (pa_cons pe_int pa_nil))))), ?_⟩
    refine ⟨_, rfl, p, dx, _, rfl, F0.ins, flds_no .., p, own, h, rfl, F, g, fun H1 r s1 hr0 h1 => ?_⟩
    refine ⟨_, rfl, r, _, rfl, .inl (SqL.of h1), rfl, flat_come _, _, rfl, ?_⟩
    show if inV (V.int (-1)) ((Kp201.now h).map comeV) = true then _ else _
    rw [in_come]
    cases ef : (Kp201.now h).findIdx? fun x => x == 9 with
    | none =>
      have e0 : ((Kp201.now h).any fun x => x == 9) = false := by
        rw [List.findIdx?_eq_none_iff] at ef
        rw [List.any_eq_false]
        intro x hx
        rw [ef x hx]
        exact Bool.false_ne_true
      rw [e0]
      refine iteF ?_
      refine ⟨(by show 1 ≤ sizeLine; decide), fun l hl => ?_⟩
      have st : Kp201.step (some h) .next = (some h, Kp201.say 0) := by
        simp only [Kp201.step]
        rw [show Kp201.UNANSWERED = 9 from rfl, ef]
      exact (k h _ st g).new F s1 hl rfl
    | some j =>
      obtain ⟨hj, e1, e2⟩ := List.findIdx?_eq_some_iff_getElem.mp ef
      have e0 : ((Kp201.now h).any fun x => x == 9) = true := List.any_eq_true.mpr ⟨_, List.getElem_mem hj, e1⟩
      rw [e0]
      refine iteT ?_
      have ev : (Kp201.now h)[j]? = some 9 := by
        rw [List.getElem?_eq_getElem hj]
        exact congrArg some (beq_iff_eq.mp e1)
      refine ⟨_, rfl, .inl ⟨rfl, _, SqL.of h1⟩, r, _, _, j, comeV 9, rfl, rfl, SqL.of h1, rfl, flat_come _, come_at ev, rfl, fun m z' hm hz' => ?_, ?_⟩
      · obtain ⟨v, hv, ez⟩ : ∃ v, (Kp201.now h)[m]? = some v ∧ z' = comeV v := by
          rw [List.getElem?_map] at hz'
          cases q : (Kp201.now h)[m]? with
          | none => rw [q] at hz'; cases hz'
          | some v => rw [q] at hz'; exact ⟨v, rfl, (Option.some.inj hz').symm⟩
        rw [ez]
        show (comeI v == -1) = false
        have hml : m < (Kp201.now h).length := by omega
        have q := e2 m hm
        have ev' : (Kp201.now h)[m] = v := by
          rw [List.getElem?_eq_getElem hml] at hv
          exact Option.some.inj hv
        rw [ev'] at q
        have nv : ¬ v = 9 := by simpa using q
        exact beq_eq_false_iff_ne.mpr fun z => nv ((comeI_wait v).mp z)
      · refine ⟨(by show 2 ≤ sizeLine; decide), fun l hl => ?_⟩
        have st : Kp201.step (some h) .next = (some h, ⟨1, [j]⟩) := by
          simp only [Kp201.step]
          rw [show Kp201.UNANSWERED = 9 from rfl, ef]
        exact (k h _ st g).new F s1 hl rfl
end
end Aj
end
section
set_option Elab.async false
set_option linter.all false
set_option maxRecDepth 100000
set_option maxHeartbeats 4000000
/-! The result. -/
namespace Aj
open PySem PySem.Spec PyProof.Rows L2
open Kp201 (Literal House Came Ans Way)
/-- asked and answered -/
def told1 (c : Came) (q : Nat) : Bool := c.getD q Kp201.NOT != Kp201.NOT && c.getD q Kp201.NOT != Kp201.UNANSWERED
def toldTo (c : Came) (i : Nat) : List Nat := ((List.range i).filter (told1 c)).flatMap fun q => [q, c.getD q 0]
theorem toldTo_succ (c : Came) (i : Nat) : toldTo c (i + 1) = toldTo c i ++ if told1 c i = true then [i, c.getD i 0] else [] := by
  unfold toldTo
  rw [List.range_succ, List.filter_append, List.flatMap_append]
  cases e : told1 c i <;> simp [List.filter_cons, e]
theorem told1_at {c : Came} {i v : Nat} (h : c[i]? = some v) : told1 c i = (v != 8 && v != 9) := by
  unfold told1
  rw [List.getD_eq_getElem?_getD, h]
  rfl
theorem toldTo_len (c : Came) (i : Nat) : (toldTo c i).length = 2 * ((List.range i).filter (told1 c)).length := filter_two _ _
theorem toldTo_le (c : Came) (i : Nat) : (toldTo c i).length ≤ 2 * i := by
  rw [toldTo_len]
  have := List.length_filter_le (told1 c) (List.range i)
  rw [List.length_range] at this
  omega
theorem ne_come {v : Nat} {z : Int} : (!decide (V.int (comeI v) = V.int z)) = true ↔ ¬ comeI v = z := by
  rw [Bool.not_eq_true', decide_eq_false_iff_not]
  exact ⟨fun h e => h (by rw [e]), fun h e => h (by injection e)⟩
section
variable {P : Program} {w : World} {K : PySem.W.Frag} {mg : Str → Option Value} {base : Heap} {D : Defs}
def spResult (C : Addr) : Sp := fun vs H Q _ => ∃ (p : Addr) (own : List Addr) (h : House), vs = [.ref p] ∧ FormAt C H p own h ∧ GoodH h ∧ EndsBy C H p own h .result Q
theorem ok_result (T : Known K mg D) : FnOk P w K mg base CX0 4 D.f_Form_result D.d_Form_result ["self"] (spResult D.C_Form) := by
  have GC : FnOk P w K mg base CX0 3 D.f_Form_as_things_are D.d_Form_as_things_are ["self"] (spComes D.C_Form) := ok_comes T
  refine T.F_Form_result.ok sc_Form_result (fun vs H Q E h => ?_) (fun cdv A outer s H vs Q E hr h => ?_)
  · obtain ⟨p, own, h, rfl, _⟩ := h
    rfl
  · obtain ⟨p, own, h, rfl, F, g, k⟩ := h
    obtain ⟨dx, a1, a2, a3, a4, ns, nms, wv, tw, eo, F0⟩ := id F
    refine ⟨_, pss_cons (ps_set (i := 1) sc_Form_result.nd rfl (Or.inl rfl) (pe_lst pa_nil))
      (pss_cons (ps_for PassesOwn.never rfl (pi_enum rfl T.z_enumerate (pa_cons (pe_meth0 (pv 0) T.cl_Form T.m_Form_as_things_are GC hr T.b_Form_as_things_are .nil pass0) pa_nil)) (pg_tup rfl (pgs_cons (pg_name (i := 2) sc_Form_result.nd rfl (Or.inl rfl)) (pgs_cons (pg_name (i := 3) sc_Form_result.nd rfl (Or.inl rfl)) pgs_nil)))
        (pss_one (ps_if (pw_and (pt_cmpR op_ne (pv 3) (pe_gi T.g_PASSED_OVER) (nomark _)) (pw_and1 (pt_cmpR op_ne (pv 3) (pe_gi T.g_WAITING) (nomark _)))).pt
          (pss_cons (ps_expr (pe_bm PySem.F.plainAttrs_list PySem.F.slot_list_append PySem.F.type_list_append mt_append (pv 1) (pa_cons (pv 2) pa_nil)))
          (pss_one (ps_expr (pe_bm PySem.F.plainAttrs_list PySem.F.slot_list_append PySem.F.type_list_append mt_append (pv 1) (pa_cons (pv 3) pa_nil))))) pss_nil)))
      (pss_one (ps_ret (pe_op op_cat (pe_lst (pa_cons (pe_op op_fdiv (pe_callB call_len_seq (by rfl) T.z_len PySem.boot_len (pa_cons (pv 1) pa_nil)) pe_int) pa_nil)) (pv 1))))), ?_⟩
    refine ⟨Nat.zero_le _, fun r hr0 => ?_⟩
    have s0 : Same H (upd H r (.lst [])) := Same.new hr0
    refine ⟨_, rfl, p, dx, _, rfl, s0 _ _ F0.ins, flds_no .., p, own, h, rfl, F.same s0, g, fun H1 a s1 ha h1 => ?_⟩
    have s01 := s0.trans s1
    have hr1 : H1 r = some (.lst []) := s1 _ _ upd_same
    have fa : H a = none := s0.free ha
    have nra : r ≠ a := ne_of_none upd_same ha
    refine ⟨a, _, rfl, SqL.of h1, ?_⟩
    have n24 : (Kp201.now h).length ≤ 24 := by rw [now_len]; exact g.size
    refine for_enum (K := K) (a := a) (xs := (Kp201.now h).map comeV) (fun i σ H' => ∃ v2 v3, σ = [some (.ref p), some (.ref r), v2, v3] ∧ Same H H' ∧ H' a = some (.lst ((Kp201.now h).map comeV)) ∧ H' r = some (.lst ((toldTo (Kp201.now h) i).map nV)))
      ⟨none, none, rfl, s01, h1, hr1⟩ (fun i σ H' _ ⟨_, _, _, _, z, _⟩ => SqL.of z) ?_ ?_
    · rintro i x σ H2 t hi ⟨v2, v3, rfl, s2, h2, r2⟩ ht
      obtain ⟨v, hv, rfl⟩ : ∃ v, (Kp201.now h)[i]? = some v ∧ x = comeV v := by
        rw [List.getElem?_map] at hi
        cases q : (Kp201.now h)[i]? with
        | none => rw [q] at hi; cases hi
        | some v => rw [q] at hi; exact ⟨v, rfl, (Option.some.inj hi).symm⟩
      have il : i < (Kp201.now h).length := (List.getElem?_eq_some_iff.mp hv).1
      have tl := toldTo_le (Kp201.now h) i
      have s3 : Same H (upd H2 t (.tup [.int (i : Nat), comeV v])) := s2.upd (s2.free ht)
      have h3 : upd H2 t (.tup [.int (i : Nat), comeV v]) a = some (.lst ((Kp201.now h).map comeV)) := by rw [upd_ne (ne_of_none h2 ht)]; exact h2
      have r3 : upd H2 t (.tup [.int (i : Nat), comeV v]) r = some (.lst ((toldTo (Kp201.now h) i).map nV)) := by rw [upd_ne (ne_of_none r2 ht)]; exact r2
      have no : told1 (Kp201.now h) i = false → ∃ u2 u3, [some (V.ref p), some (V.ref r), some (nV i), some (comeV v)] = [some (.ref p), some (.ref r), u2, u3] ∧ Same H (upd H2 t (.tup [.int (i : Nat), comeV v])) ∧ upd H2 t (.tup [.int (i : Nat), comeV v]) a = some (.lst ((Kp201.now h).map comeV)) ∧
          upd H2 t (.tup [.int (i : Nat), comeV v]) r = some (.lst ((toldTo (Kp201.now h) (i + 1)).map nV)) := fun e => by
        refine ⟨_, _, rfl, s3, h3, ?_⟩
        rw [toldTo_succ, e, if_neg Bool.false_ne_true, List.append_nil]
        exact r3
      refine ⟨t, _, rfl, SqT.of upd_same, rfl, _, _, rfl, _, _, rfl, rfl, ?_⟩
      refine ⟨_, rfl, rfl, _, rfl, ?_⟩
      refine ite2 (fun c1 => ?_) (fun c1 => ?_)
      · refine ⟨_, rfl, rfl, _, rfl, ?_⟩
        have c1' : ¬ v = 8 := fun z => ne_come.mp c1 ((comeI_eight v).mpr z)
        refine ite2 (fun c2 => ?_) (fun c2 => ?_)
        · have c2' : ¬ v = 9 := fun z => ne_come.mp c2 ((comeI_wait v).mpr z)
          have et : told1 (Kp201.now h) i = true := by
            rw [told1_at hv]
            simp [c1', c2']
          have ec : comeI v = (v : Int) := by
            unfold comeI
            rw [if_neg c2']
          have eg : (Kp201.now h).getD i 0 = v := by
            rw [List.getD_eq_getElem?_getD, hv]
            rfl
          refine ⟨_, rfl, .inl ⟨rfl, _, SqL.of r3⟩, _, rfl, r, _, _, rfl, rfl, r3, by rw [List.length_map]; exact small' (by omega), ?_⟩
          refine ⟨_, rfl, .inl ⟨rfl, _, SqL.of upd_same⟩, _, rfl, r, _, _, rfl, rfl, upd_same, by rw [List.length_append, List.length_map, List.length_singleton]; exact small' (by omega), ?_⟩
          refine ⟨_, _, rfl, (s3.upd hr0).upd hr0, by rw [upd_ne nra.symm, upd_ne nra.symm]; exact h3, ?_⟩
          rw [upd_same, toldTo_succ, if_pos et, List.map_append, eg, List.append_assoc]
          show some (HO.lst (_ ++ [nV i, V.int (comeI v)])) = _
          rw [ec]
          rfl
        · refine no ?_
          have c2' : v = 9 := by
            by_cases z : v = 9
            · exact z
            · exact absurd (ne_come.mpr fun e => z ((comeI_wait v).mp e)) c2
          rw [told1_at hv, c2']
          rfl
      · refine iteF (no ?_)
        have c1' : v = 8 := by
          by_cases z : v = 8
          · exact z
          · exact absurd (ne_come.mpr fun e => z ((comeI_eight v).mp e)) c1
        rw [told1_at hv, c1']
        rfl
    · rintro σ H2 ⟨v2, v3, rfl, s2, h2, r2⟩
      rw [List.length_map] at r2
      have tl := toldTo_le (Kp201.now h) (Kp201.now h).length
      refine ⟨_, rfl, r, _, rfl, .inl (SqL.of r2), _, _, rfl, rfl, ⟨by decide, by decide⟩, (by show 1 ≤ sizeLine; decide), fun l hl => ?_⟩
      have rl : r ≠ l := ne_of_none r2 hl
      refine ⟨_, rfl, l, r, _, _, rfl, rfl, upd_same, by rw [upd_ne rl]; exact r2, ?_, fun l2 hl2 => ?_⟩
      · rw [List.length_map]
        exact small (by simp only [List.length_append, List.length_cons, List.length_nil]; omega)
      · have st : Kp201.step (some h) .result = (some h, ⟨(((List.range (Kp201.now h).length).filter (told1 (Kp201.now h))).length : Int), toldTo (Kp201.now h) (Kp201.now h).length⟩) := rfl
        refine (k h _ st g).new F (s2.upd (s2.free hl)) hl2 ?_
        have ed : ((((toldTo (Kp201.now h) (Kp201.now h).length).map nV).length : Nat) : Int) / 2 = (((List.range (Kp201.now h).length).filter (told1 (Kp201.now h))).length : Int) := by
          rw [List.length_map, toldTo_len]
          omega
        show HO.lst ([V.int (((((toldTo (Kp201.now h) (Kp201.now h).length).map nV).length : Nat) : Int) / 2)] ++ (toldTo (Kp201.now h) (Kp201.now h).length).map nV) = _
        rw [ed]
        show _ = HO.lst (List.map V.int (_ :: List.map (fun (x : Nat) => (x : Int)) (toldTo (Kp201.now h) (Kp201.now h).length)))
        rw [List.map_cons, List.map_map]
        rfl
end
end Aj
end
section
set_option Elab.async false
set_option linter.all false
set_option maxRecDepth 100000
set_option maxHeartbeats 4000000
/-! A question more. -/
namespace Aj
open PySem PySem.Spec PyProof.Rows L2
open Kp201 (Literal House Came Ans Way)
section
variable {P : Program} {w : World} {K : PySem.W.Frag} {mg : Str → Option Value} {base : Heap} {D : Defs}
def spQuestion (C : Addr) : Sp := fun vs H Q _ => ∃ (p : Addr) (own : List Addr) (h : House) (n : Nat), vs = [.ref p, nV n] ∧ FormAt C H p own h ∧ GoodH h ∧ EndsBy C H p own h (.question n) Q
theorem ok_question (T : Known K mg D) : FnOk P w K mg base CX0 1 D.f_Form_add_question D.d_Form_add_question ["self", "size"] (spQuestion D.C_Form) := by
  refine T.F_Form_add_question.ok sc_Form_add_question (fun vs H Q E h => ?_) (fun cdv A outer s H vs Q E hr h => ?_)
  · obtain ⟨p, own, h, n, rfl, _⟩ := h
    rfl
  · obtain ⟨p, own, h, n, rfl, F, g, k⟩ := h
    obtain ⟨dx, a1, a2, a3, a4, ns, nms, wv, tw, rfl, F0⟩ := id F
    have p1 : p ≠ a1 := ne_of F0.ins F0.fin.sizes (by intro z; cases z)
    have p2 : p ≠ a2 := ne_of F0.ins F0.fin.needs (by intro z; cases z)
    have p3 : p ≠ a3 := ne_of F0.ins F0.fin.names (by intro z; cases z)
    have p4 : p ≠ a4 := ne_of F0.ins F0.given (by intro z; cases z)
    have nd := F0.nd
    simp only [List.nodup_cons, List.mem_cons, not_or] at nd
    obtain ⟨⟨n12, n13, n14, n1s⟩, ⟨n23, n24, n2s⟩, ⟨n34, n3s⟩, n4s, nns⟩ := nd
    refine ⟨_, pss_cons (ps_if (pw_or (pt_cmpR op_lt (pv 1) pe_int (nomark _)) (pw_or1 (pt_cmpR op_gt (pv 1) (pe_gi T.g_MOST_OPTIONS) (nomark _)))).pt (pss_one (ps_ret (pe_lst (pa_cons (pe_gi T.g_NOT_VALID) pa_nil)))) pss_nil)
      (pss_cons (ps_if (pt_cmpR op_ge (pe_callB call_len_seq (by rfl) T.z_len PySem.boot_len (pa_cons (pe_fld (pv 0) rfl) pa_nil)) (pe_gi T.g_MOST_QUESTIONS) (nomark _)) (pss_one (ps_ret (pe_lst (pa_cons (pe_gi T.g_NO_ROOM) pa_nil)))) pss_nil)
      (pss_cons (ps_expr (pe_bm PySem.F.plainAttrs_list PySem.F.slot_list_append PySem.F.type_list_append mt_append (pe_fld (pv 0) rfl) (pa_cons (pv 1) pa_nil)))
      (pss_cons (ps_expr (pe_bm PySem.F.plainAttrs_list PySem.F.slot_list_append PySem.F.type_list_append mt_append (pe_fld (pv 0) rfl) (pa_cons (pe_lst pa_nil) pa_nil)))
      (pss_cons (ps_expr (pe_bm PySem.F.plainAttrs_list PySem.F.slot_list_append PySem.F.type_list_append mt_append (pe_fld (pv 0) rfl) (pa_cons pe_int pa_nil)))
      (pss_cons (ps_expr (pe_bm PySem.F.plainAttrs_list PySem.F.slot_list_append PySem.F.type_list_append mt_append (pe_fld (pv 0) rfl) (pa_cons pe_non pa_nil)))
      (pss_cons (ps_fld (pv 0) pe_non rfl)
      (pss_one (ps_ret (pe_lst (pa_cons (pe_op op_sub (pe_callB call_len_seq (by rfl) T.z_len PySem.boot_len (pa_cons (pe_fld (pv 0) rfl) pa_nil)) pe_int) pa_nil)))))))))), ?_⟩
    have bad : (n < 1 ∨ 8 < n) → (1 ≤ sizeLine ∧ ∀ q, H q = none → Q (.ref q) (upd H q (.lst [V.int (-22)]))) := fun c => by
      have st : Kp201.step (some h) (.question n) = (some h, Kp201.say (-22)) := by
        simp only [Kp201.step]
        rw [if_pos (show n < 1 ∨ Kp201.OPTIONS < n from c)]
      exact ⟨by decide, fun q hq => (k h _ st g).new F (Same.refl H) hq rfl⟩
    refine ⟨_, rfl, _, _, rfl, rfl, _, rfl, ?_⟩
    refine ite2 (fun c1 => ?_) (fun c1 => ?_)
    · exact iteT (bad (.inl (by have := of_decide_eq_true c1; omega)))
    have c1' : ¬ n < 1 := fun z => c1 (decide_eq_true (by omega))
    refine ⟨_, rfl, _, _, rfl, rfl, _, rfl, ?_⟩
    refine ite2 (fun c2 => ?_) (fun c2 => ?_)
    · exact bad (.inr (by have := of_decide_eq_true c2; omega))
    have c2' : ¬ 8 < n := fun z => c2 (decide_eq_true (by omega))
    refine ⟨_, rfl, p, D.C_Form, dx, _, _, rfl, F0.ins, T.cl_Form, T.n_Form_sizes, flds_sizes .., a1, _, rfl, .inl (SqL.of F0.fin.sizes), _, _, rfl, rfl, _, rfl, ?_⟩
    have el : ((h.form.map fun x => nV x.options).length : Int) = (h.form.length : Int) := by rw [List.length_map]
    refine ite2 (fun c3 => ?_) (fun c3 => ?_)
    · have c3' : 24 ≤ h.form.length := by have := of_decide_eq_true c3; omega
      have st : Kp201.step (some h) (.question n) = (some h, Kp201.say (-28)) := by
        simp only [Kp201.step]
        rw [if_neg (show ¬ (n < 1 ∨ Kp201.OPTIONS < n) from fun z => z.elim c1' c2'), if_pos (show Kp201.QUESTIONS ≤ h.form.length from c3')]
      exact ⟨by decide, fun q hq => (k h _ st g).new F (Same.refl H) hq rfl⟩
    have c3' : h.form.length < 24 := by
      have : ¬ 24 ≤ h.form.length := fun z => c3 (decide_eq_true (by rw [el]; omega))
      omega
    have st : Kp201.step (some h) (.question n) = (some ⟨h.form ++ [⟨n, []⟩], h.answers ++ [none]⟩, Kp201.say (h.form.length : Int)) := by
      simp only [Kp201.step]
      rw [if_neg (show ¬ (n < 1 ∨ Kp201.OPTIONS < n) from fun z => z.elim c1' c2'), if_neg (show ¬ Kp201.QUESTIONS ≤ h.form.length from by show ¬ 24 ≤ _; omega)]
    have ln : ns.length = h.form.length := pairLen F0.fin.each
    have lm : nms.length = h.form.length := pairLen F0.fin.named
    -- sizes
    refine ⟨_, rfl, p, D.C_Form, dx, _, _, rfl, F0.ins, T.cl_Form, T.n_Form_sizes, flds_sizes .., .inl ⟨rfl, _, SqL.of F0.fin.sizes⟩, _, rfl, a1, _, _, rfl, rfl, F0.fin.sizes, by rw [List.length_map]; exact small' (by omega), ?_⟩
    have i1 : upd H a1 (.lst ((h.form.map fun x => nV x.options) ++ [nV n])) p = _ := (upd_ne p1).trans F0.ins
    have b1 : upd H a1 (.lst ((h.form.map fun x => nV x.options) ++ [nV n])) a1 = some (.lst ((h.form.map fun x => nV x.options) ++ [nV n])) := upd_same
    have k1 : ∀ b, b ≠ a1 → upd H a1 (.lst ((h.form.map fun x => nV x.options) ++ [nV n])) b = H b := fun b hb => upd_ne hb
    have r1 : ∀ b, upd H a1 (.lst ((h.form.map fun x => nV x.options) ++ [nV n])) b = none → H b = none := fun b e => upd_free e
    generalize upd H a1 (.lst ((h.form.map fun x => nV x.options) ++ [nV n])) = H1 at i1 b1 k1 r1 ⊢
    -- needs
    have e2 : H1 a2 = some (.lst (ns.map V.ref)) := by rw [k1 _ (Ne.symm n12)]; exact F0.fin.needs
    refine ⟨_, rfl, p, D.C_Form, dx, _, _, rfl, i1, T.cl_Form, T.n_Form_needs, flds_needs .., .inl ⟨rfl, _, SqL.of e2⟩, Nat.zero_le _, fun nn hn => ?_⟩
    have fn : H nn = none := r1 _ hn
    have pn : p ≠ nn := ne_of_none F0.ins fn
    have n1n : a1 ≠ nn := ne_of_none F0.fin.sizes fn
    have n2n : a2 ≠ nn := ne_of_none F0.fin.needs fn
    have n3n : a3 ≠ nn := ne_of_none F0.fin.names fn
    have n4n : a4 ≠ nn := ne_of_none F0.given fn
    have e2' : upd H1 nn (.lst []) a2 = some (.lst (ns.map V.ref)) := by rw [upd_ne n2n]; exact e2
    refine ⟨a2, _, _, rfl, rfl, e2', by rw [List.length_map, ln]; exact small' (by omega), ?_⟩
    have b2 : upd (upd H1 nn (.lst [])) a2 (.lst (ns.map V.ref ++ [.ref nn])) a2 = some (.lst (ns.map V.ref ++ [.ref nn])) := upd_same
    have bn : upd (upd H1 nn (.lst [])) a2 (.lst (ns.map V.ref ++ [.ref nn])) nn = some (.lst []) := by rw [upd_ne n2n.symm, upd_same]
    have k2 : ∀ b, b ≠ a1 → b ≠ nn → b ≠ a2 → upd (upd H1 nn (.lst [])) a2 (.lst (ns.map V.ref ++ [.ref nn])) b = H b := fun b h1 h2 h3 => by rw [upd_ne h3, upd_ne h2, k1 _ h1]
    have b12 : upd (upd H1 nn (.lst [])) a2 (.lst (ns.map V.ref ++ [.ref nn])) a1 = some (.lst ((h.form.map fun x => nV x.options) ++ [nV n])) := by rw [upd_ne n12, upd_ne n1n]; exact b1
    have r2 : ∀ b, upd (upd H1 nn (.lst [])) a2 (.lst (ns.map V.ref ++ [.ref nn])) b = none → H b = none ∧ b ≠ nn := fun b e => ⟨r1 _ (upd_free (upd_free e)), upd_apart (upd_free e)⟩
    generalize upd (upd H1 nn (.lst [])) a2 (.lst (ns.map V.ref ++ [.ref nn])) = H2 at b2 bn k2 b12 r2 ⊢
    -- names
    have i2 : H2 p = _ := (k2 p p1 pn p2).trans F0.ins
    have e3 : H2 a3 = some (.lst (nms.map nV)) := (k2 _ (Ne.symm n13) n3n (Ne.symm n23)).trans F0.fin.names
    refine ⟨_, rfl, p, D.C_Form, dx, _, _, rfl, i2, T.cl_Form, T.n_Form_names, flds_names .., .inl ⟨rfl, _, SqL.of e3⟩, a3, _, _, rfl, rfl, e3, by rw [List.length_map, lm]; exact small' (by omega), ?_⟩
    have b3 : upd H2 a3 (.lst (nms.map nV ++ [.int 0])) a3 = _ := upd_same
    have k3 : ∀ b, b ≠ a3 → upd H2 a3 (.lst (nms.map nV ++ [.int 0])) b = H2 b := fun b hb => upd_ne hb
    have r3 : ∀ b, upd H2 a3 (.lst (nms.map nV ++ [.int 0])) b = none → H2 b = none := fun b e => upd_free e
    generalize upd H2 a3 (.lst (nms.map nV ++ [.int 0])) = H3 at b3 k3 r3 ⊢
    -- given
    have i3 : H3 p = _ := (k3 p p3).trans i2
    have e4 : H3 a4 = some (.lst (h.answers.map optV)) := (k3 _ (Ne.symm n34)).trans ((k2 _ (Ne.symm n14) n4n (Ne.symm n24)).trans F0.given)
    refine ⟨_, rfl, p, D.C_Form, dx, _, _, rfl, i3, T.cl_Form, T.n_Form_given, flds_given .., .inl ⟨rfl, _, SqL.of e4⟩, a4, _, _, rfl, rfl, e4, by rw [List.length_map, g.len]; exact small' (by omega), ?_⟩
    have b4 : upd H3 a4 (.lst (h.answers.map optV ++ [.non])) a4 = _ := upd_same
    have k4 : ∀ b, b ≠ a4 → upd H3 a4 (.lst (h.answers.map optV ++ [.non])) b = H3 b := fun b hb => upd_ne hb
    have r4 : ∀ b, upd H3 a4 (.lst (h.answers.map optV ++ [.non])) b = none → H3 b = none := fun b e => upd_free e
    generalize upd H3 a4 (.lst (h.answers.map optV ++ [.non])) = H4 at b4 k4 r4 ⊢
    -- ways
    have i4 : H4 p = _ := (k4 p p4).trans i3
    refine ⟨_, rfl, p, D.C_Form, dx, _, rfl, i4, T.cl_Form, T.n_Form_ways, flds_few .., ?_⟩
    rw [flds_put]
    have i5 : upd H4 p (.ins D.C_Form dx (flds a1 a2 a3 a4 .non)) p = _ := upd_same
    have k5 : ∀ b, b ≠ p → upd H4 p (.ins D.C_Form dx (flds a1 a2 a3 a4 .non)) b = H4 b := fun b hb => upd_ne hb
    have r5 : ∀ b, upd H4 p (.ins D.C_Form dx (flds a1 a2 a3 a4 .non)) b = none → H4 b = none := fun b e => upd_free e
    generalize upd H4 p (.ins D.C_Form dx (flds a1 a2 a3 a4 .non)) = H5 at i5 k5 r5 ⊢
    have v1 : H5 a1 = some (.lst ((h.form.map fun x => nV x.options) ++ [nV n])) := (k5 _ p1.symm).trans ((k4 _ n14).trans ((k3 _ n13).trans b12))
    have v2 : H5 a2 = some (.lst (ns.map V.ref ++ [.ref nn])) := (k5 _ p2.symm).trans ((k4 _ n24).trans ((k3 _ n23).trans b2))
    have v3 : H5 a3 = some (.lst (nms.map nV ++ [.int 0])) := (k5 _ p3.symm).trans ((k4 _ n34).trans b3)
    have v4 : H5 a4 = some (.lst (h.answers.map optV ++ [.non])) := (k5 _ p4.symm).trans b4
    have vn : H5 nn = some (.lst []) := (k5 _ pn.symm).trans ((k4 _ n4n.symm).trans ((k3 _ n3n.symm).trans bn))
    have vo : ∀ b, b ≠ p → b ≠ a1 → b ≠ a2 → b ≠ a3 → b ≠ a4 → b ≠ nn → H5 b = H b := fun b q0 q1 q2 q3 q4 qn => (k5 _ q0).trans ((k4 _ q4).trans ((k3 _ q3).trans (k2 _ q1 qn q2)))
    have rv : ∀ b, H5 b = none → H b = none ∧ b ≠ nn := fun b e => r2 _ (r3 _ (r4 _ (r5 _ e)))
    refine ⟨_, rfl, p, D.C_Form, dx, _, _, rfl, i5, T.cl_Form, T.n_Form_sizes, flds_sizes .., a1, _, rfl, .inl (SqL.of v1), _, _, rfl, rfl, (by show 1 ≤ sizeLine; decide), fun l hl => ?_⟩
    have fl : H l = none := (rv l hl).1
    have ln' : nn ≠ l := (rv l hl).2.symm
    have kk : ∀ {b : Addr} {o : HO}, H5 b = some o → upd H5 l (.lst [.int ((((h.form.map fun x => nV x.options) ++ [nV n]).length : Nat) - 1)]) b = some o := fun {b o} e => by
      rw [upd_ne (ne_of_none e hl)]
      exact e
    refine k _ _ st (good_question g (by omega) (by omega) c3') _ (p :: (a1 :: a2 :: a3 :: a4 :: ((ns ++ [nn]) ++ []))) l ⟨⟨dx, a1, a2, a3, a4, ns ++ [nn], nms ++ [0], .non, [], rfl, kk i5, ⟨?_, ?_, ?_, ?_, ?_⟩, ?_, .inl ⟨rfl, rfl⟩, ?_, fun b hb => by cases hb⟩, fun b hb => ?_, fun b o e hb => ?_⟩ fl ?_
    · refine kk (v1.trans ?_)
      rw [List.map_append]
      rfl
    · refine kk (v2.trans ?_)
      rw [List.map_append]
      rfl
    · refine kk (v3.trans ?_)
      rw [List.map_append]
      rfl
    · refine Paired.snoc (pairMem F0.fin.each fun m hm x _ q => q.keep ?_) ⟨[], kk vn, .nil⟩
      have m1 : m ≠ a1 := fun e => n1s (e ▸ hm)
      have m2 : m ≠ a2 := fun e => n2s (e ▸ hm)
      have m3 : m ≠ a3 := fun e => n3s (e ▸ hm)
      have m4 : m ≠ a4 := fun e => n4s (e ▸ hm)
      obtain ⟨as, em, _⟩ := q
      rw [em]
      exact kk ((vo m (ne_of F0.ins em (by intro z; cases z)).symm m1 m2 m3 m4 (ne_of_none em fn)).trans em)
    · exact Paired.snoc F0.fin.named name_nil
    · refine kk (v4.trans ?_)
      rw [List.map_append]
      rfl
    · have nnn : nn ∉ ns := fun hm => by
        obtain ⟨xs, e⟩ := F0.fixed nn (by simp [hm])
        rw [fn] at e
        cases e
      have : (ns ++ [nn]).Nodup := L2.nd_snoc nns nnn
      refine List.nodup_cons.mpr ⟨?_, List.nodup_cons.mpr ⟨?_, List.nodup_cons.mpr ⟨?_, List.nodup_cons.mpr ⟨?_, this⟩⟩⟩⟩
      · simp only [List.mem_cons, List.mem_append, List.not_mem_nil, or_false, not_or]
        exact ⟨n12, n13, n14, n1s, n1n⟩
      · simp only [List.mem_cons, List.mem_append, List.not_mem_nil, or_false, not_or]
        exact ⟨n23, n24, n2s, n2n⟩
      · simp only [List.mem_cons, List.mem_append, List.not_mem_nil, or_false, not_or]
        exact ⟨n34, n3s, n3n⟩
      · simp only [List.mem_cons, List.mem_append, List.not_mem_nil, or_false, not_or]
        exact ⟨n4s, n4n⟩
    · simp only [List.mem_cons, List.mem_append, List.not_mem_nil, or_false] at hb ⊢
      rcases hb with z | z | z | z | z | z | z
      · exact .inl (.inl z)
      · exact .inl (.inr (.inl z))
      · exact .inl (.inr (.inr (.inl z)))
      · exact .inl (.inr (.inr (.inr (.inl z))))
      · exact .inl (.inr (.inr (.inr (.inr (.inl z)))))
      · exact .inl (.inr (.inr (.inr (.inr (.inr (.inl z))))))
      · exact .inr (by rw [z]; exact fn)
    · simp only [List.mem_cons, not_or] at hb
      exact kk ((vo b hb.1 hb.2.1 hb.2.2.1 hb.2.2.2.1 hb.2.2.2.2.1 (ne_of_none e fn)).trans e)
    · rw [upd_same]
      have ez : (((((h.form.map fun x => nV x.options) ++ [nV n]).length : Nat) : Int) - 1) = (h.form.length : Int) := by
        rw [List.length_append, List.length_map, List.length_singleton]
        omega
      show some (HO.lst [V.int (((((h.form.map fun x => nV x.options) ++ [nV n]).length : Nat) : Int) - 1)]) = _
      rw [ez]
      rfl
end
end Aj
end
section
set_option Elab.async false
set_option linter.all false
set_option maxRecDepth 100000
set_option maxHeartbeats 4000000
/-! need, answer, forget. -/
namespace Aj
open PySem PySem.Spec PyProof.Rows L2
open Kp201 (Literal House Came Ans Way)
theorem map_set_same {α β : Type} (f : α → β) : ∀ (l : List α) (i : Nat) (x y : α), l[i]? = some x → f y = f x → (l.set i y).map f = l.map f
  | [], i, x, y, h, _ => by simp at h
  | a :: l, 0, x, y, h, e => by
    have h' : a = x := Option.some.inj h
    subst h'
    show f y :: l.map f = f a :: l.map f
    rw [e]
  | a :: l, i + 1, x, y, h, e => by
    show f a :: (l.set i y).map f = f a :: l.map f
    rw [map_set_same f l i x y h e]
theorem nn_true {b : Bool} (h : (!(!b)) = true) : b = true := by simpa using h
theorem nn_false {b : Bool} (h : ¬ (!(!b)) = true) : ¬ b = true := by simpa using h
theorem ixN_nat {n j : Nat} (h : j < n) : ixN n (j : Int) = some j := by
  unfold ixN
  rw [if_pos (by omega), if_pos (by omega)]
  simp
theorem pairSet2 {α β : Type} {F : α → β → Prop} : ∀ {as : List α} {bs : List β} {i : Nat} {a : α} {b : β}, Paired F as bs → F a b → Paired F (as.set i a) (bs.set i b)
  | _, _, _, _, _, .nil, _ => .nil
  | _, _, 0, _, _, .cons _ t, h => .cons h t
  | _, _, i + 1, _, _, .cons r t, h => .cons r (pairSet2 t h)
/-- the answers alone are others -/
theorem FormOf.given' {C : Addr} {H H' : Hp} {p dx a1 a2 a3 a4 : Addr} {ns : List Addr} {nms : List Nat} {wv : V} {tw : List Addr} {h : House} (F : FormOf C H p dx a1 a2 a3 a4 ns nms wv tw h) {ans : List (Option Nat)} (e : H' a4 = some (.lst (ans.map optV))) (k : ∀ b o, H b = some o → b ≠ a4 → H' b = some o) :
    FormOf C H' p dx a1 a2 a3 a4 ns nms wv tw { h with answers := ans } := by
  have nd := F.nd
  simp only [List.nodup_cons, List.mem_cons, not_or] at nd
  obtain ⟨⟨n12, n13, n14, n1s⟩, ⟨n23, n24, n2s⟩, ⟨n34, n3s⟩, n4s, nns⟩ := nd
  refine ⟨k _ _ F.ins (ne_of F.ins F.given (by intro z; cases z)), ⟨k _ _ F.fin.sizes n14, k _ _ F.fin.needs n24, k _ _ F.fin.names n34, pairMem F.fin.each fun n hn x _ q => ?_, F.fin.named⟩, e, F.ways.keep (fun b hb => ?_) (fun t xs q => k _ _ q (ne_of q F.given (by intro z; cases z))), F.nd, F.apart⟩
  · obtain ⟨r, q1, q2⟩ := q
    exact ⟨r, k _ _ q1 fun z => n4s (z ▸ hn), q2⟩
  · obtain ⟨xs, q⟩ := F.ways.lists b hb
    rw [q]
    exact k _ _ q fun z => F.apart b hb (by rw [z]; simp)
section
variable {P : Program} {w : World} {K : PySem.W.Frag} {mg : Str → Option Value} {base : Heap} {D : Defs}
def spNeed (C : Addr) : Sp := fun vs H Q _ => ∃ (p c : Addr) (own : List Addr) (h : House) (q : Nat) (ls : List Literal), vs = [.ref p, nV q, .ref c] ∧ FormAt C H p own h ∧ GoodH h ∧ ClAt H c ls ∧ c ∉ own ∧ ls.length ≤ 1000 ∧ EndsBy C H p own h (.need q ls) Q
theorem good_lits {h : House} {q : Nat} (hq : q < h.form.length) (ls : List Literal) : (ls.any fun l => !Kp201.goodLiteral h.form q l) = ls.any fun l => !(decide (l.q < q) && decide (l.set < 512)) := by
  congr 1
  funext l
  congr 1
  unfold Kp201.goodLiteral
  by_cases c : l.q < q
  · rw [decide_eq_true (show l.q < h.form.length by omega), Bool.and_true]
  · rw [decide_eq_false c, Bool.false_and, Bool.false_and]
theorem ok_need (T : Known K mg D) : FnOk P w K mg base CX0 4 D.f_Form_add_need D.d_Form_add_need ["self", "question", "conditions"] (spNeed D.C_Form) := by
  have GS : FnOk P w K mg base CX0 1 D.f_Form_has_question D.d_Form_has_question ["self", "question"] (spHas D.C_Form) := ok_has T
  have GV : FnOk P w K mg base CX0 2 D.f_is_valid_need D.d_is_valid_need ["conditions", "question"] (spVN K) := ok_vn T
  have GO : FnOk P w K mg base CX0 2 D.f_need_of D.d_need_of ["conditions"] spNeedOf := ok_need_of T
  have GN : FnOk P w K mg base CX0 3 D.f_names_of D.d_names_of ["conditions"] spNamesOf := ok_names_of T
  refine T.F_Form_add_need.ok sc_Form_add_need (fun vs H Q E h => ?_) (fun cdv A outer s H vs Q E hr h => ?_)
  · obtain ⟨p, c, own, h, q, ls, rfl, _⟩ := h
    rfl
  · obtain ⟨p, c, own, h, q, ls, rfl, F, g, hc, co, hz, k⟩ := h
    obtain ⟨dx, a1, a2, a3, a4, ns, nms, wv, tw, eo, F0⟩ := id F
    have hr1 : Room 1 _ := hr.mono (by decide)
    have hr2 : Room 2 _ := hr.mono (by decide)
    refine ⟨_, pss_cons (ps_if (pt_not (pt_val (pe_meth (pv 0) T.cl_Form T.m_Form_has_question GS hr1 T.b_Form_has_question .nil pass0 (pa_cons (pv 1) pa_nil)))) (pss_one (ps_ret (pe_lst (pa_cons (pe_gi T.g_NO_QUESTION) pa_nil)))) pss_nil)
      (pss_cons (ps_if (pt_not (pt_val (pe_call GV hr2 rfl T.m_is_valid_need T.F_is_valid_need.kp T.b_is_valid_need .nil pass0 (pa_cons (pv 2) (pa_cons (pv 1) pa_nil))))) (pss_one (ps_ret (pe_lst (pa_cons (pe_gi T.g_NOT_VALID) pa_nil)))) pss_nil)
      (pss_cons (ps_set (i := 3) sc_Form_add_need.nd rfl (Or.inl rfl) (pe_ix ix_list (pe_fld (pv 0) rfl) (pv 1) plain))
      (pss_cons (ps_if (pt_cmpR op_ge (pe_callB call_len_seq (by rfl) T.z_len PySem.boot_len (pa_cons (pv 3) pa_nil)) (pe_gi T.g_MOST_NEEDS) (nomark _)) (pss_one (ps_ret (pe_lst (pa_cons (pe_gi T.g_NO_ROOM) pa_nil)))) pss_nil)
      (pss_cons (ps_expr (pe_bm PySem.F.plainAttrs_list PySem.F.slot_list_append PySem.F.type_list_append mt_append (pv 3) (pa_cons (pe_call GO hr2 rfl T.m_need_of T.F_need_of.kp T.b_need_of .nil pass0 (pa_cons (pv 2) pa_nil)) pa_nil)))
      (pss_cons (ps_asg (pe_op op_or (pe_ix ix_list (pe_fld (pv 0) rfl) (pv 1) plain) (pe_call GN hr rfl T.m_names_of T.F_names_of.kp T.b_names_of .nil pass0 (pa_cons (pv 2) pa_nil))) (pg_sub (pe_fld (pv 0) rfl) (pv 1) set_list))
      (pss_cons (ps_fld (pv 0) pe_non rfl)
      (pss_one (ps_ret (pe_lst (pa_cons (pe_callB call_len_seq (by rfl) T.z_len PySem.boot_len (pa_cons (pv 3) pa_nil)) pa_nil)))))))))), ?_⟩
    refine ⟨_, rfl, p, dx, _, rfl, F0.ins, flds_no .., _, rfl, p, own, h, q, rfl, F, _, rfl, ?_⟩
    refine ite2 (fun c1 => ?_) (fun c1 => ?_)
    · have hq : h.form[q]? = none := by
        rw [List.getElem?_eq_none_iff]
        have : ¬ q < h.form.length := by simpa using c1
        omega
      have st : Kp201.step (some h) (.need q ls) = (some h, Kp201.say (-2)) := by
        simp only [Kp201.step]
        rw [hq]
      exact ⟨by decide, fun l hl => (k h _ st g).new F (Same.refl H) hl rfl⟩
    have hql : q < h.form.length := by simpa using c1
    obtain ⟨x, hx⟩ : ∃ x, h.form[q]? = some x := ⟨_, List.getElem?_eq_getElem hql⟩
    refine ⟨_, rfl, _, rfl, c, ls, q, rfl, hc, hz, fun H1 s1 => ⟨_, rfl, ?_⟩⟩
    refine ite2 (fun c2 => ?_) (fun c2 => ?_)
    · replace c2 := nn_true c2
      have st : Kp201.step (some h) (.need q ls) = (some h, Kp201.say (-22)) := by
        simp only [Kp201.step]
        rw [hx]
        dsimp only
        rw [good_lits hql, if_pos (show (ls.isEmpty || (decide (Kp201.LITERALS < ls.length) || ls.any fun l => !(decide (l.q < q) && decide (l.set < 512)))) = true from c2)]
      exact ⟨by decide, fun l hl => (k h _ st g).new F s1 hl rfl⟩
    replace c2 := nn_false c2
    have F1 := F0.same s1
    obtain ⟨n, hn, hnd⟩ := pairGetR F1.fin.each hx
    obtain ⟨reps, en, hp⟩ := id hnd
    refine ⟨_, rfl, p, D.C_Form, dx, _, _, rfl, F1.ins, T.cl_Form, T.n_Form_needs, flds_needs .., _, rfl, a2, _, _, _, rfl, rfl, SqL.of F1.fin.needs, at_nat (v := V.ref n) (by rw [List.getElem?_map, hn]; rfl), ?_⟩
    have ela : ((reps.map nV).length : Int) = (x.clauses.length : Int) := by rw [List.length_map, pairLen hp]
    refine ⟨_, rfl, n, _, rfl, .inl (SqL.of en), _, _, rfl, rfl, _, rfl, ?_⟩
    refine ite2 (fun c3 => ?_) (fun c3 => ?_)
    · have c3' : 4 ≤ x.clauses.length := by have := of_decide_eq_true c3; omega
      have st : Kp201.step (some h) (.need q ls) = (some h, Kp201.say (-28)) := by
        simp only [Kp201.step]
        rw [hx]
        dsimp only
        rw [good_lits hql, if_neg (show ¬ (ls.isEmpty || (decide (Kp201.LITERALS < ls.length) || ls.any fun l => !(decide (l.q < q) && decide (l.set < 512)))) = true from c2), if_pos (show Kp201.CLAUSES ≤ x.clauses.length from c3')]
      exact ⟨by decide, fun l hl => (k h _ st g).new F s1 hl rfl⟩
    have c3' : x.clauses.length < 4 := by
      have : ¬ 4 ≤ x.clauses.length := fun z => c3 (decide_eq_true (by rw [ela]; omega))
      omega
    have st : Kp201.step (some h) (.need q ls) = (some { h with form := h.form.set q { x with clauses := x.clauses ++ [ls] } }, Kp201.say (x.clauses.length + 1 : Nat)) := by
      simp only [Kp201.step]
      rw [hx]
      dsimp only
      rw [good_lits hql, if_neg (show ¬ (ls.isEmpty || (decide (Kp201.LITERALS < ls.length) || ls.any fun l => !(decide (l.q < q) && decide (l.set < 512)))) = true from c2), if_neg (show ¬ Kp201.CLAUSES ≤ x.clauses.length from by show ¬ 4 ≤ _; omega)]
    have size24 := g.size
    rw [Bool.not_eq_true, Bool.or_eq_false_iff, Bool.or_eq_false_iff] at c2
    have ls0 : ls ≠ [] := fun z => by rw [z] at c2; exact absurd c2.1 (by decide)
    have ls4 : ls.length ≤ 4 := by
      have := of_decide_eq_false c2.2.1
      omega
    have lsb : ∀ l ∈ ls, l.q < q ∧ l.set < 512 := fun l hl => by
      have q2 := List.any_eq_false.mp c2.2.2 l hl
      simpa using q2
    have g' : GoodH { h with form := h.form.set q { x with clauses := x.clauses ++ [ls] } } := good_need g hx ls0 ls4 lsb c3'
    have nin : n ∈ ns := List.mem_of_getElem? hn
    have nd := F0.nd
    simp only [List.nodup_cons, List.mem_cons, not_or] at nd
    obtain ⟨⟨n12, n13, n14, n1s⟩, ⟨n23, n24, n2s⟩, ⟨n34, n3s⟩, n4s, nns⟩ := nd
    have m1 : a1 ≠ n := fun e => n1s (e ▸ nin)
    have m2 : a2 ≠ n := fun e => n2s (e ▸ nin)
    have m3 : a3 ≠ n := fun e => n3s (e ▸ nin)
    have m4 : a4 ≠ n := fun e => n4s (e ▸ nin)
    have mp : p ≠ n := ne_of F1.ins en (by intro z; cases z)
    have p1 : p ≠ a1 := ne_of F0.ins F0.fin.sizes (by intro z; cases z)
    have p2 : p ≠ a2 := ne_of F0.ins F0.fin.needs (by intro z; cases z)
    have p3 : p ≠ a3 := ne_of F0.ins F0.fin.names (by intro z; cases z)
    have p4 : p ≠ a4 := ne_of F0.ins F0.given (by intro z; cases z)
    have hc1 := hc.same s1
    have cn : c ≠ n := fun z => co (by rw [eo, z]; simp [nin])
    have nmq : ∃ M, nms[q]? = some M ∧ NameRep M x := pairGetR F1.fin.named hx
    obtain ⟨M, hM, hMx⟩ := nmq
    have hqm : q < nms.length := (List.getElem?_eq_some_iff.mp hM).1
    -- the need
    refine ⟨_, rfl, .inl ⟨rfl, _, SqL.of en⟩, _, rfl, c, ls, rfl, hc1, fun l hl => ⟨by have := (lsb l hl).1; omega, (lsb l hl).2⟩, n, _, _, rfl, rfl, en, by rw [List.length_map, pairLen hp]; exact small' (by omega), ?_⟩
    have b2 : upd H1 n (.lst (reps.map nV ++ [nV (needN ls)])) n = _ := upd_same
    have k2 : ∀ b, b ≠ n → upd H1 n (.lst (reps.map nV ++ [nV (needN ls)])) b = H1 b := fun b hb => upd_ne hb
    have r2 : ∀ b, upd H1 n (.lst (reps.map nV ++ [nV (needN ls)])) b = none → H1 b = none := fun b e => upd_free e
    generalize upd H1 n (.lst (reps.map nV ++ [nV (needN ls)])) = H2 at b2 k2 r2 ⊢
    have hc2 : ClAt H2 c ls := by
      obtain ⟨ts, h1, h2⟩ := hc1
      refine ⟨ts, (k2 _ cn).trans h1, pairMono (fun t l ht => ?_) h2⟩
      have ht' : H1 t = some (.tup [nV l.q, nV l.set]) := ht
      exact (k2 _ (ne_of ht' en (by intro z; cases z))).trans ht'
    have e3 : H2 a3 = some (.lst (nms.map nV)) := (k2 _ m3).trans F1.fin.names
    have i2 : H2 p = _ := (k2 _ mp).trans F1.ins
    -- the names
    refine ⟨_, rfl, p, D.C_Form, dx, _, _, rfl, i2, T.cl_Form, T.n_Form_names, flds_names .., _, rfl, a3, _, _, _, rfl, rfl, SqL.of e3, at_nat (v := nV M) (by rw [List.getElem?_map, hM]; rfl), ?_⟩
    refine ⟨_, rfl, c, ls, rfl, hc2, ls4, fun l hl => by have := (lsb l hl).1; omega, fun H3 s3 => ⟨_, _, rfl, rfl, ?_⟩⟩
    refine ⟨_, rfl, p, D.C_Form, dx, _, _, rfl, s3 _ _ i2, T.cl_Form, T.n_Form_names, flds_names .., _, rfl, a3, _, _, q, rfl, rfl, s3 _ _ e3, ixN_nat (by rw [List.length_map]; exact hqm), ?_⟩
    have evM : (nms.map nV).set q (V.int (Builtin.bitOr (M : Int) ((needN (full ls) : Nat) : Int))) = (nms.set q (M ||| needN (full ls))).map nV := by
      rw [or_nat, List.map_set]
    have b4 : upd H3 a3 (.lst ((nms.map nV).set q (V.int (Builtin.bitOr (M : Int) ((needN (full ls) : Nat) : Int))))) a3 = some (.lst ((nms.set q (M ||| needN (full ls))).map nV)) := by rw [upd_same, evM]
    have k4 : ∀ b o, H2 b = some o → b ≠ a3 → upd H3 a3 (.lst ((nms.map nV).set q (V.int (Builtin.bitOr (M : Int) ((needN (full ls) : Nat) : Int))))) b = some o := fun b o e hb => by
      rw [upd_ne hb]
      exact s3 _ _ e
    have r4 : ∀ b, upd H3 a3 (.lst ((nms.map nV).set q (V.int (Builtin.bitOr (M : Int) ((needN (full ls) : Nat) : Int))))) b = none → H2 b = none := fun b e => s3.free (upd_free e)
    generalize upd H3 a3 (.lst ((nms.map nV).set q (V.int (Builtin.bitOr (M : Int) ((needN (full ls) : Nat) : Int))))) = H4 at b4 k4 r4 ⊢
    have i4 : H4 p = _ := k4 _ _ i2 p3
    refine ⟨_, rfl, p, D.C_Form, dx, _, rfl, i4, T.cl_Form, T.n_Form_ways, flds_few .., ?_⟩
    rw [flds_put]
    have i5 : upd H4 p (.ins D.C_Form dx (flds a1 a2 a3 a4 .non)) p = _ := upd_same
    have k5 : ∀ b, b ≠ p → upd H4 p (.ins D.C_Form dx (flds a1 a2 a3 a4 .non)) b = H4 b := fun b hb => upd_ne hb
    have r5 : ∀ b, upd H4 p (.ins D.C_Form dx (flds a1 a2 a3 a4 .non)) b = none → H4 b = none := fun b e => upd_free e
    generalize upd H4 p (.ins D.C_Form dx (flds a1 a2 a3 a4 .non)) = H5 at i5 k5 r5 ⊢
    have vn : H5 n = some (.lst (reps.map nV ++ [nV (needN ls)])) := (k5 _ mp.symm).trans (k4 _ _ b2 m3.symm)
    have v3 : H5 a3 = some (.lst ((nms.set q (M ||| needN (full ls))).map nV)) := (k5 _ p3.symm).trans b4
    have vo : ∀ b o, H1 b = some o → b ≠ p → b ≠ n → b ≠ a3 → H5 b = some o := fun b o e q0 q1 q3 => (k5 _ q0).trans (k4 _ _ ((k2 _ q1).trans e) q3)
    have rv : ∀ b, H5 b = none → H1 b = none := fun b e => r2 _ (r4 _ (r5 _ e))
    refine ⟨_, rfl, n, _, rfl, .inl (SqL.of vn), (by show 1 ≤ sizeLine; decide), fun l hl => ?_⟩
    have fl1 : H1 l = none := rv l hl
    have fl : H l = none := s1.free fl1
    have kk : ∀ {b : Addr} {o : HO}, H5 b = some o → upd H5 l (.lst [.int (((reps.map nV ++ [nV (needN ls)]).length : Nat))]) b = some o := fun {b o} e => by
      rw [upd_ne (ne_of_none e hl)]
      exact e
    refine k _ _ st g' _ (p :: (a1 :: a2 :: a3 :: a4 :: (ns ++ []))) l ⟨⟨dx, a1, a2, a3, a4, ns, nms.set q (M ||| needN (full ls)), .non, [], rfl, kk i5, ⟨?_, ?_, ?_, ?_, ?_⟩, ?_, .inl ⟨rfl, rfl⟩, F0.nd, fun b hb => by cases hb⟩, fun b hb => ?_, fun b o e hb => ?_⟩ fl ?_
    · dsimp only
      rw [map_set_same (fun x : Kp201.Question => nV x.options) h.form q x { x with clauses := x.clauses ++ [ls] } hx rfl]
      exact kk (vo _ _ F1.fin.sizes p1.symm m1 n13)
    · exact kk (vo _ _ F1.fin.needs p2.symm m2 n23)
    · exact kk v3
    · refine pairSet F1.fin.each (fun j b y hj hb hy q2 => ?_) fun b hb => ?_
      · obtain ⟨rs, eb, er⟩ := q2
        have bm := List.mem_of_getElem? hb
        have bn : b ≠ n := fun z => hj (nd_ix nns (z ▸ hb) hn)
        exact ⟨rs, kk (vo _ _ eb (ne_of F1.ins eb (by intro z; cases z)).symm bn fun z => n3s (z ▸ bm)), er⟩
      · rw [hn] at hb
        cases hb
        refine ⟨reps ++ [needN ls], ?_, Paired.snoc hp (needN_rep fun l hl => (lsb l hl).2)⟩
        rw [List.map_append]
        exact kk vn
    · exact pairSet2 F1.fin.named (name_snoc hMx)
    · exact kk (vo _ _ F1.given p4.symm m4 (Ne.symm n34))
    · rw [eo]
      simp only [List.mem_cons, List.mem_append, List.not_mem_nil, or_false] at hb ⊢
      rcases hb with z | z | z | z | z | z
      · exact .inl (.inl z)
      · exact .inl (.inr (.inl z))
      · exact .inl (.inr (.inr (.inl z)))
      · exact .inl (.inr (.inr (.inr (.inl z))))
      · exact .inl (.inr (.inr (.inr (.inr (.inl z)))))
      · exact .inl (.inr (.inr (.inr (.inr (.inr (.inl z))))))
    · rw [eo] at hb
      simp only [List.mem_cons, List.mem_append, not_or] at hb
      exact kk (vo b o (s1 _ _ e) hb.1 (fun z => hb.2.2.2.2.2.1 (z ▸ nin)) hb.2.2.2.1)
    · rw [upd_same]
      have ez : ((((reps.map nV ++ [nV (needN ls)]).length : Nat)) : Int) = ((x.clauses.length + 1 : Nat) : Int) := by
        rw [List.length_append, List.length_map, pairLen hp]
        rfl
      rw [ez]
      rfl

def spAnswer (C : Addr) : Sp := fun vs H Q _ => ∃ (p : Addr) (own : List Addr) (h : House) (q o : Nat), vs = [.ref p, nV q, nV o] ∧ FormAt C H p own h ∧ GoodH h ∧ EndsBy C H p own h (.answer q o) Q
theorem ok_answer (T : Known K mg D) : FnOk P w K mg base CX0 4 D.f_Form_answer D.d_Form_answer ["self", "question", "option"] (spAnswer D.C_Form) := by
  have GS : FnOk P w K mg base CX0 1 D.f_Form_has_question D.d_Form_has_question ["self", "question"] (spHas D.C_Form) := ok_has T
  have GC : FnOk P w K mg base CX0 3 D.f_Form_as_things_are D.d_Form_as_things_are ["self"] (spComes D.C_Form) := ok_comes T
  refine T.F_Form_answer.ok sc_Form_answer (fun vs H Q E h => ?_) (fun cdv A outer s H vs Q E hr h => ?_)
  · obtain ⟨p, own, h, q, o, rfl, _⟩ := h
    rfl
  · obtain ⟨p, own, h, q, o, rfl, F, g, k⟩ := h
    obtain ⟨dx, a1, a2, a3, a4, ns, nms, wv, tw, eo, F0⟩ := id F
    have hr1 : Room 1 _ := hr.mono (by decide)
    refine ⟨_, pss_cons (ps_if (pt_not (pt_val (pe_meth (pv 0) T.cl_Form T.m_Form_has_question GS hr1 T.b_Form_has_question .nil pass0 (pa_cons (pv 1) pa_nil)))) (pss_one (ps_ret (pe_lst (pa_cons (pe_gi T.g_NO_QUESTION) pa_nil)))) pss_nil)
      (pss_cons (ps_set (i := 3) sc_Form_answer.nd rfl (Or.inl rfl) (pe_meth0 (pv 0) T.cl_Form T.m_Form_as_things_are GC hr T.b_Form_as_things_are .nil pass0))
      (pss_cons (ps_if (pt_cmpR op_eq (pe_ix ix_list (pv 3) (pv 1) plain) (pe_gi T.g_PASSED_OVER) (nomark _)) (pss_one (ps_ret (pe_lst (pa_cons (pe_gi T.g_NOT_ASKED) pa_nil)))) pss_nil)
      (pss_cons (ps_if (pt_cmpR op_ge (pv 2) (pe_ix ix_list (pe_fld (pv 0) rfl) (pv 1) plain) (nomark _)) (pss_one (ps_ret (pe_lst (pa_cons (pe_gi T.g_NOT_VALID) pa_nil)))) pss_nil)
      (pss_cons (ps_asg (pv 2) (pg_sub (pe_fld (pv 0) rfl) (pv 1) set_list))
      (pss_one (ps_ret (pe_lst (pa_cons pe_int pa_nil)))))))), ?_⟩
    refine ⟨_, rfl, p, dx, _, rfl, F0.ins, flds_no .., _, rfl, p, own, h, q, rfl, F, _, rfl, ?_⟩
    refine ite2 (fun c1 => ?_) (fun c1 => ?_)
    · have hq : h.form[q]? = none := by
        rw [List.getElem?_eq_none_iff]
        have : ¬ q < h.form.length := by simpa using c1
        omega
      have st : Kp201.step (some h) (.answer q o) = (some h, Kp201.say (-2)) := by
        simp only [Kp201.step]
        rw [hq]
      exact ⟨by decide, fun l hl => (k h _ st g).new F (Same.refl H) hl rfl⟩
    have hql : q < h.form.length := by simpa using c1
    obtain ⟨x, hx⟩ : ∃ x, h.form[q]? = some x := ⟨_, List.getElem?_eq_getElem hql⟩
    obtain ⟨v, hv⟩ : ∃ v, (Kp201.now h)[q]? = some v := ⟨_, List.getElem?_eq_getElem (by rw [now_len]; exact hql)⟩
    have eop : Kp201.isOpen (Kp201.now h) q = !decide (v = 8) := by
      unfold Kp201.isOpen
      rw [hv]
      show (v != 8) = _
      rw [Bool.eq_iff_iff]
      simp
    refine ⟨_, rfl, p, dx, _, rfl, F0.ins, flds_no .., p, own, h, rfl, F, g, fun H1 r s1 hr0 h1 => ?_⟩
    refine ⟨_, rfl, _, rfl, r, _, _, _, rfl, rfl, SqL.of h1, at_nat (come_at hv), rfl, _, rfl, ?_⟩
    refine ite2 (fun c2 => ?_) (fun c2 => ?_)
    · have c2' : v = 8 := by
        have z : V.int (comeI v) = V.int 8 := of_decide_eq_true c2
        have z' : comeI v = 8 := by injection z
        exact (comeI_eight v).mp z'
      have st : Kp201.step (some h) (.answer q o) = (some h, Kp201.say (-16)) := by
        simp only [Kp201.step]
        rw [hx]
        dsimp only
        rw [eop, if_pos (by rw [c2']; rfl)]
      exact ⟨by decide, fun l hl => (k h _ st g).new F s1 hl rfl⟩
    have c2' : ¬ v = 8 := fun z => c2 (decide_eq_true (by rw [z]; rfl))
    have F1 := F0.same s1
    refine ⟨_, rfl, _, rfl, p, D.C_Form, dx, _, _, rfl, F1.ins, T.cl_Form, T.n_Form_sizes, flds_sizes .., _, rfl, a1, _, _, _, rfl, rfl, SqL.of F1.fin.sizes, at_nat (v := nV x.options) (by rw [List.getElem?_map, hx]; rfl), _, _, rfl, rfl, _, rfl, ?_⟩
    refine ite2 (fun c3 => ?_) (fun c3 => ?_)
    · have c3' : x.options ≤ o := by have := of_decide_eq_true c3; omega
      have st : Kp201.step (some h) (.answer q o) = (some h, Kp201.say (-22)) := by
        simp only [Kp201.step]
        rw [hx]
        dsimp only
        rw [eop, if_neg (by rw [decide_eq_false c2']; decide), if_pos c3']
      exact ⟨by decide, fun l hl => (k h _ st g).new F s1 hl rfl⟩
    have c3' : ¬ x.options ≤ o := fun z => c3 (decide_eq_true (by omega))
    have st : Kp201.step (some h) (.answer q o) = (some { h with answers := h.answers.set q (some o) }, Kp201.say 0) := by
      simp only [Kp201.step]
      rw [hx]
      dsimp only
      rw [eop, if_neg (by rw [decide_eq_false c2']; decide), if_neg c3']
    have hal : q < h.answers.length := by rw [g.len]; exact hql
    refine ⟨_, rfl, _, rfl, p, D.C_Form, dx, _, _, rfl, F1.ins, T.cl_Form, T.n_Form_given, flds_given .., _, rfl, a4, _, _, q, rfl, rfl, F1.given, ixN_nat (by rw [List.length_map]; exact hal), ?_⟩
    refine ⟨(by show 1 ≤ sizeLine; decide), fun l hl => ?_⟩
    have l4 : l ≠ a4 := upd_apart hl
    have fl1 : H1 l = none := upd_free hl
    have fl : H l = none := s1.free fl1
    have kp1 : ∀ b u, H1 b = some u → b ≠ a4 → upd (upd H1 a4 (.lst ((h.answers.map optV).set q (nV o)))) l (.lst [.int 0]) b = some u := fun b u e hb => by
      rw [upd_ne (ne_of_none e fl1), upd_ne hb]
      exact e
    refine k _ _ st (good_answer g hx (by omega)) _ own l ⟨⟨dx, a1, a2, a3, a4, ns, nms, wv, tw, eo, F1.given' (ans := h.answers.set q (some o)) ?_ kp1⟩, fun b hb => .inl hb, fun b u e hb => kp1 b u (s1 b u e) fun z => hb (by rw [eo, z]; simp)⟩ fl upd_same
    rw [upd_ne l4.symm, upd_same, List.map_set]
    rfl

def spForget (C : Addr) : Sp := fun vs H Q _ => ∃ (p : Addr) (own : List Addr) (h : House) (q : Nat), vs = [.ref p, nV q] ∧ FormAt C H p own h ∧ GoodH h ∧ EndsBy C H p own h (.forget q) Q
theorem ok_forget (T : Known K mg D) : FnOk P w K mg base CX0 2 D.f_Form_forget D.d_Form_forget ["self", "question"] (spForget D.C_Form) := by
  have GS : FnOk P w K mg base CX0 1 D.f_Form_has_question D.d_Form_has_question ["self", "question"] (spHas D.C_Form) := ok_has T
  refine T.F_Form_forget.ok sc_Form_forget (fun vs H Q E h => ?_) (fun cdv A outer s H vs Q E hr h => ?_)
  · obtain ⟨p, own, h, q, rfl, _⟩ := h
    rfl
  · obtain ⟨p, own, h, q, rfl, F, g, k⟩ := h
    obtain ⟨dx, a1, a2, a3, a4, ns, nms, wv, tw, eo, F0⟩ := id F
    refine ⟨_, pss_cons (ps_if (pt_not (pt_val (pe_meth (pv 0) T.cl_Form T.m_Form_has_question GS hr T.b_Form_has_question .nil pass0 (pa_cons (pv 1) pa_nil)))) (pss_one (ps_ret (pe_lst (pa_cons (pe_gi T.g_NO_QUESTION) pa_nil)))) pss_nil)
      (pss_cons (ps_if (pt_cmpR op_isN (pe_ix ix_list (pe_fld (pv 0) rfl) (pv 1) plain) pe_non (nomark _)) (pss_one (ps_ret (pe_lst (pa_cons (pe_gi T.g_NO_ANSWER) pa_nil)))) pss_nil)
      (pss_cons (ps_asg pe_non (pg_sub (pe_fld (pv 0) rfl) (pv 1) set_list))
      (pss_one (ps_ret (pe_lst (pa_cons pe_int pa_nil)))))), ?_⟩
    refine ⟨_, rfl, p, dx, _, rfl, F0.ins, flds_no .., _, rfl, p, own, h, q, rfl, F, _, rfl, ?_⟩
    refine ite2 (fun c1 => ?_) (fun c1 => ?_)
    · have hq : h.form.length ≤ q := by
        have : ¬ q < h.form.length := by simpa using c1
        omega
      have st : Kp201.step (some h) (.forget q) = (some h, Kp201.say (-2)) := by
        simp only [Kp201.step]
        rw [if_pos hq]
      exact ⟨by decide, fun l hl => (k h _ st g).new F (Same.refl H) hl rfl⟩
    have hql : q < h.form.length := by simpa using c1
    have hal : q < h.answers.length := by rw [g.len]; exact hql
    refine ⟨_, rfl, p, D.C_Form, dx, _, _, rfl, F0.ins, T.cl_Form, T.n_Form_given, flds_given .., _, rfl, a4, _, _, _, rfl, rfl, SqL.of F0.given, at_nat (opt_at hal), rfl, _, rfl, ?_⟩
    cases ea : h.answers.getD q none with
    | none =>
      refine iteT ?_
      have st : Kp201.step (some h) (.forget q) = (some h, Kp201.say (-6)) := by
        simp only [Kp201.step]
        rw [if_neg (by omega), ea]
        rfl
      exact ⟨by decide, fun l hl => (k h _ st g).new F (Same.refl H) hl rfl⟩
    | some o =>
      refine iteF ?_
      have st : Kp201.step (some h) (.forget q) = (some { h with answers := h.answers.set q none }, Kp201.say 0) := by
        simp only [Kp201.step]
        rw [if_neg (by omega), ea]
        rfl
      refine ⟨_, rfl, p, D.C_Form, dx, _, _, rfl, F0.ins, T.cl_Form, T.n_Form_given, flds_given .., _, rfl, a4, _, _, q, rfl, rfl, F0.given, ixN_nat (by rw [List.length_map]; exact hal), ?_⟩
      refine ⟨(by show 1 ≤ sizeLine; decide), fun l hl => ?_⟩
      have l4 : l ≠ a4 := upd_apart hl
      have fl : H l = none := upd_free hl
      have kp1 : ∀ b u, H b = some u → b ≠ a4 → upd (upd H a4 (.lst ((h.answers.map optV).set q .non))) l (.lst [.int 0]) b = some u := fun b u e hb => by
        rw [upd_ne (ne_of_none e fl), upd_ne hb]
        exact e
      refine k _ _ st (good_forget g) _ own l ⟨⟨dx, a1, a2, a3, a4, ns, nms, wv, tw, eo, F0.given' (ans := h.answers.set q none) ?_ kp1⟩, fun b hb => .inl hb, fun b u e hb => kp1 b u e fun z => hb (by rw [eo, z]; simp)⟩ fl upd_same
      rw [upd_ne l4.symm, upd_same, List.map_set]
      rfl
end
end Aj
end
section
set_option Elab.async false
set_option linter.all false
set_option maxRecDepth 100000
set_option maxHeartbeats 4000000
/-! ever, always, most. -/
namespace Aj
open PySem PySem.Spec PyProof.Rows L2
open Kp201 (Literal House Came Ans Way)
def LstKeep (H H' : Hp) : Prop := ∀ b xs, H b = some (.lst xs) → H' b = some (.lst xs)
theorem FormIn.lsts {H H' : Hp} {a1 a2 a3 : Addr} {ns : List Addr} {nms : List Nat} {f : Kp201.Form} (F : FormIn H a1 a2 a3 ns nms f) (k : LstKeep H H') : FormIn H' a1 a2 a3 ns nms f :=
  ⟨k _ _ F.sizes, k _ _ F.needs, k _ _ F.names, pairMono (fun _ _ ⟨r, q1, q2⟩ => ⟨r, k _ _ q1, q2⟩) F.each, F.named⟩
theorem WaysAt.lsts {H H' : Hp} {v : Addr} {ws : List Way} (h : WaysAt H v ws) (k : LstKeep H H') (tk : TupKeep H H') : WaysAt H' v ws := let ⟨ts, h1, h2⟩ := h; ⟨ts, k _ _ h1, pairMono (fun t w ⟨R, e, r⟩ => ⟨R, tk _ _ e, r⟩) h2⟩
theorem ToldAt.lsts {H H' : Hp} {w : Addr} {vs : List Addr} {f : Kp201.Form} (h : ToldAt H w vs f) (k : LstKeep H H') (tk : TupKeep H H') : ToldAt H' w vs f :=
  ⟨k _ _ h.lst, fun j u e => let ⟨ws, h1, h2⟩ := h.each j u e; ⟨ws, h1, h2.lsts k tk⟩, h.no, h.len⟩
section
variable {P : Program} {w : World} {K : PySem.W.Frag} {mg : Str → Option Value} {base : Heap} {D : Defs}
def spBefore (C : Addr) : Sp := fun vs H Q _ => ∃ (p : Addr) (own : List Addr) (h : House) (n : Nat), vs = [.ref p, nV n] ∧ FormAt C H p own h ∧ GoodH h ∧ n ≤ h.form.length ∧
  ∀ H' own', Done C H H' p own own' h → (∀ b, H' b = none → H b = none) → (Kp201.waysTo h.form n = none → Q .non H') ∧ (∀ ws v, Kp201.waysTo h.form n = some ws → WaysAt H' v ws → Q (.ref v) H')
theorem ok_before (T : Known K mg D) : FnOk P w K mg base CX0 5 D.f_Form_ways_before D.d_Form_ways_before ["self", "count"] (spBefore D.C_Form) := by
  have GT : FnOk P w K mg base CX0 4 D.f_ways_through D.d_ways_through ["sizes", "needs", "names"] spThrough := ok_through T
  refine T.F_Form_ways_before.ok sc_Form_ways_before (fun vs H Q E h => ?_) (fun cdv A outer s H vs Q E hr h => ?_)
  · obtain ⟨p, own, h, n, rfl, _⟩ := h
    rfl
  · obtain ⟨p, own, h, n, rfl, F, g, hn, k⟩ := h
    obtain ⟨dx, a1, a2, a3, a4, ns, nms, wv, tw, eo, F0⟩ := id F
    refine ⟨_, pss_cons (ps_if (pt_cmpR op_isN (pe_fld (pv 0) rfl) pe_non (nomark _)) (pss_one (ps_fld (pv 0) (pe_call GT hr rfl T.m_ways_through T.F_ways_through.kp T.b_ways_through .nil pass0 (pa_cons (pe_fld (pv 0) rfl) (pa_cons (pe_fld (pv 0) rfl) (pa_cons (pe_fld (pv 0) rfl) pa_nil)))) rfl)) pss_nil)
      (pss_cons (ps_if (pt_cmpR op_lt (pv 1) (pe_callB call_len_seq (by rfl) T.z_len PySem.boot_len (pa_cons (pe_fld (pv 0) rfl) pa_nil)) (nomark _)) (pss_one (ps_ret (pe_ix ix_list (pe_fld (pv 0) rfl) (pv 1) plain))) pss_nil)
      (pss_one (ps_ret pe_non))), ?_⟩
    refine ⟨_, rfl, p, D.C_Form, dx, _, _, rfl, F0.ins, T.cl_Form, T.n_Form_ways, flds_ways .., rfl, _, rfl, ?_⟩
    rcases F0.ways with ⟨e1, e2⟩ | ⟨wa, vs, e1, e2, told⟩
    · subst e1 e2
      refine iteT ?_
      refine ⟨_, rfl, p, D.C_Form, dx, _, _, rfl, F0.ins, T.cl_Form, T.n_Form_sizes, flds_sizes .., _, rfl, p, D.C_Form, dx, _, _, rfl, F0.ins, T.cl_Form, T.n_Form_needs, flds_needs .., _, rfl, p, D.C_Form, dx, _, _, rfl, F0.ins, T.cl_Form, T.n_Form_names, flds_names ..,
        a1, a2, a3, ns, nms, h.form, rfl, F0.fin, g.size, fun i x e => (g.q i x e).qok, fun H1 wa vs s1 told fr => ?_⟩
      refine ⟨_, rfl, p, D.C_Form, dx, _, rfl, s1 _ _ F0.ins, T.cl_Form, T.n_Form_ways, flds_few .., ?_⟩
      rw [flds_put]
      have i2 : upd H1 p (.ins D.C_Form dx (flds a1 a2 a3 a4 (.ref wa))) p = _ := upd_same
      have k2 : ∀ b, b ≠ p → upd H1 p (.ins D.C_Form dx (flds a1 a2 a3 a4 (.ref wa))) b = H1 b := fun b hb => upd_ne hb
      have r2 : ∀ b, upd H1 p (.ins D.C_Form dx (flds a1 a2 a3 a4 (.ref wa))) b = none → H1 b = none := fun b e => upd_free e
      generalize upd H1 p (.ins D.C_Form dx (flds a1 a2 a3 a4 (.ref wa))) = H2 at i2 k2 r2 ⊢
      have lk : LstKeep H1 H2 := fun b xs e => (k2 _ (ne_of e (s1 _ _ F0.ins) (by intro z; cases z))).trans e
      have tk : TupKeep H1 H2 := fun b xs e => (k2 _ (ne_of e (s1 _ _ F0.ins) (by intro z; cases z))).trans e
      have told2 := told.lsts lk tk
      have dn : Done D.C_Form H H2 p own (p :: (a1 :: a2 :: a3 :: a4 :: (ns ++ (wa :: vs)))) h := by
        refine ⟨⟨dx, a1, a2, a3, a4, ns, nms, .ref wa, wa :: vs, rfl, i2, (F0.fin.same s1).lsts lk, lk _ _ (s1 _ _ F0.given), .inr ⟨wa, vs, rfl, rfl, told2⟩, F0.nd, fun b hb hm => ?_⟩, fun b hb => ?_, fun b o e hb => ?_⟩
        · obtain ⟨xs, e⟩ := F0.fixed b hm
          rw [fr b hb] at e
          cases e
        · rw [eo]
          have hb' : b ∈ (p :: (a1 :: a2 :: a3 :: a4 :: ns)) ++ (wa :: vs) := hb
          rcases List.mem_append.mp hb' with z | z
          · left
            show b ∈ (p :: (a1 :: a2 :: a3 :: a4 :: ns)) ++ []
            rw [List.append_nil]
            exact z
          · exact .inr (fr b z)
        · exact (k2 _ fun z => hb (by rw [eo, z]; simp)).trans (s1 _ _ e)
      obtain ⟨kn, ks⟩ := k H2 _ dn fun b e => s1.free (r2 _ e)
      refine ⟨_, rfl, _, rfl, p, D.C_Form, dx, _, _, rfl, i2, T.cl_Form, T.n_Form_ways, flds_ways .., wa, _, rfl, .inl (SqL.of told2.lst), _, _, rfl, rfl, _, rfl, ?_⟩
      refine ite2 (fun c1 => ?_) (fun c1 => ?_)
      · have c1' : n < vs.length := by
          have := of_decide_eq_true c1
          rw [List.length_map] at this
          omega
        have hv : vs[n]? = some vs[n] := List.getElem?_eq_getElem c1'
        obtain ⟨ws, hws, wat⟩ := told2.each n _ hv
        exact ⟨_, rfl, p, D.C_Form, dx, _, _, rfl, i2, T.cl_Form, T.n_Form_ways, flds_ways .., _, rfl, wa, _, _, _, rfl, rfl, SqL.of told2.lst, at_nat (v := V.ref vs[n]) (by rw [List.getElem?_map, hv]; rfl), ks ws _ hws wat⟩
      · have c1' : vs.length ≤ n := by
          have : ¬ (n : Int) < (((vs.map V.ref).length : Nat) : Int) := fun z => c1 (decide_eq_true z)
          rw [List.length_map] at this
          omega
        exact kn (told2.no n c1' hn)
    · subst e1 e2
      refine iteF ?_
      obtain ⟨kn, ks⟩ := k H own ⟨F, fun b hb => .inl hb, fun b o e _ => e⟩ fun b e => e
      refine ⟨_, rfl, _, rfl, p, D.C_Form, dx, _, _, rfl, F0.ins, T.cl_Form, T.n_Form_ways, flds_ways .., wa, _, rfl, .inl (SqL.of told.lst), _, _, rfl, rfl, _, rfl, ?_⟩
      refine ite2 (fun c1 => ?_) (fun c1 => ?_)
      · have c1' : n < vs.length := by
          have := of_decide_eq_true c1
          rw [List.length_map] at this
          omega
        have hv : vs[n]? = some vs[n] := List.getElem?_eq_getElem c1'
        obtain ⟨ws, hws, wat⟩ := told.each n _ hv
        exact ⟨_, rfl, p, D.C_Form, dx, _, _, rfl, F0.ins, T.cl_Form, T.n_Form_ways, flds_ways .., _, rfl, wa, _, _, _, rfl, rfl, SqL.of told.lst, at_nat (v := V.ref vs[n]) (by rw [List.getElem?_map, hv]; rfl), ks ws _ hws wat⟩
      · have c1' : vs.length ≤ n := by
          have : ¬ (n : Int) < (((vs.map V.ref).length : Nat) : Int) := fun z => c1 (decide_eq_true z)
          rw [List.length_map] at this
          omega
        exact kn (told.no n c1' hn)

def wI (want : Bool) : Int := if want then 1 else 0
def wCall (want : Bool) (q : Nat) : Kp201.Call := if want then .ever q else .always q
def wAns (want : Bool) (h : House) (q : Nat) : Ans := match h.form[q]? with
  | none => Kp201.say (-2)
  | some x => match Kp201.waysTo h.form q with
    | none => Kp201.say (-75)
    | some ws => match ws.find? (fun w => Kp201.asked w.came x == want) with
      | none => Kp201.say (1 - wI want)
      | some w => ⟨wI want, w.came⟩
theorem wStep (want : Bool) (h : House) (q : Nat) : Kp201.step (some h) (wCall want q) = (some h, wAns want h q) := by
  cases want with
  | true =>
    show Kp201.step (some h) (.ever q) = _
    simp only [Kp201.step, wAns]
    cases hx : h.form[q]? with
    | none => rfl
    | some x =>
      have hq := (List.getElem?_eq_some_iff.mp hx).1
      cases hw : Kp201.waysTo h.form q with
      | none => rfl
      | some ws =>
        dsimp only
        rw [least_find (waysTo_ok (Nat.le_of_lt hq) hw).ord]
        have ep : (fun w : Way => Kp201.asked w.came x == true) = fun w => Kp201.asked w.came x := by funext w; simp
        rw [ep]
        cases ws.find? fun w => Kp201.asked w.came x <;> rfl
  | false =>
    show Kp201.step (some h) (.always q) = _
    simp only [Kp201.step, wAns]
    cases hx : h.form[q]? with
    | none => rfl
    | some x =>
      have hq := (List.getElem?_eq_some_iff.mp hx).1
      cases hw : Kp201.waysTo h.form q with
      | none => rfl
      | some ws =>
        dsimp only
        rw [least_find (waysTo_ok (Nat.le_of_lt hq) hw).ord]
        have ep : (fun w : Way => Kp201.asked w.came x == false) = fun w => !Kp201.asked w.came x := by funext w; simp
        rw [ep]
        cases ws.find? fun w => !Kp201.asked w.came x <;> rfl
def spTell (C : Addr) : Sp := fun vs H Q _ => ∃ (p : Addr) (own : List Addr) (h : House) (q : Nat) (want : Bool), vs = [.ref p, nV q, .int (wI want)] ∧ FormAt C H p own h ∧ GoodH h ∧ EndsBy C H p own h (wCall want q) Q
theorem ok_tell (T : Known K mg D) : FnOk P w K mg base CX0 6 D.f_Form_tell_way D.d_Form_tell_way ["self", "question", "asked"] (spTell D.C_Form) := by
  have GS : FnOk P w K mg base CX0 1 D.f_Form_has_question D.d_Form_has_question ["self", "question"] (spHas D.C_Form) := ok_has T
  have GB : FnOk P w K mg base CX0 5 D.f_Form_ways_before D.d_Form_ways_before ["self", "count"] (spBefore D.C_Form) := ok_before T
  have GE : FnOk P w K mg base CX0 2 D.f_earliest_row D.d_earliest_row ["ways", "needs", "wanted"] spEarliest := ok_earliest T
  have GW : FnOk P w K mg base CX0 2 D.f_what_comes D.d_what_comes ["row", "count"] spWhat := ok_what_comes T
  refine T.F_Form_tell_way.ok sc_Form_tell_way (fun vs H Q E h => ?_) (fun cdv A outer s H vs Q E hr h => ?_)
  · obtain ⟨p, own, h, q, want, rfl, _⟩ := h
    rfl
  · obtain ⟨p, own, h, q, want, rfl, F, g, k⟩ := h
    obtain ⟨dx, a1, a2, a3, a4, ns, nms, wv, tw, eo, F0⟩ := id F
    have hr1 : Room 1 _ := hr.mono (by decide)
    have hr2 : Room 2 _ := hr.mono (by decide)
    refine ⟨_, pss_cons (ps_if (pt_not (pt_val (pe_meth (pv 0) T.cl_Form T.m_Form_has_question GS hr1 T.b_Form_has_question .nil pass0 (pa_cons (pv 1) pa_nil)))) (pss_one (ps_ret (pe_lst (pa_cons (pe_gi T.g_NO_QUESTION) pa_nil)))) pss_nil)
      (pss_cons (ps_set (i := 3) sc_Form_tell_way.nd rfl (Or.inl rfl) (pe_meth (pv 0) T.cl_Form T.m_Form_ways_before GB hr T.b_Form_ways_before .nil pass0 (pa_cons (pv 1) pa_nil)))
      (pss_cons (ps_if (pt_cmpR op_isN (pv 3) pe_non (nomark _)) (pss_one (ps_ret (pe_lst (pa_cons (pe_gi T.g_TOO_MANY) pa_nil)))) pss_nil)
      (pss_cons (ps_set (i := 4) sc_Form_tell_way.nd rfl (Or.inl rfl) (pe_call GE hr2 rfl T.m_earliest_row T.F_earliest_row.kp T.b_earliest_row .nil pass0 (pa_cons (pv 3) (pa_cons (pe_ix ix_list (pe_fld (pv 0) rfl) (pv 1) plain) (pa_cons (pe_cmpR op_eq (pv 2) pe_int (nomark _)) pa_nil)))))
      (pss_cons (ps_if (pt_cmpR op_isN (pv 4) pe_non (nomark _)) (pss_one (ps_ret (pe_lst (pa_cons (pe_op op_sub pe_int (pv 2)) pa_nil)))) pss_nil)
      (pss_one (ps_ret (pe_op op_cat (pe_lst (pa_cons (pv 2) pa_nil)) (pe_call GW hr2 rfl T.m_what_comes T.F_what_comes.kp T.b_what_comes .nil pass0 (pa_cons (pv 4) (pa_cons (pv 1) pa_nil)))))))))), ?_⟩
    have step := wStep want h q
    refine ⟨_, rfl, p, dx, _, rfl, F0.ins, flds_no .., _, rfl, p, own, h, q, rfl, F, _, rfl, ?_⟩
    refine ite2 (fun c1 => ?_) (fun c1 => ?_)
    · have hq : h.form[q]? = none := by
        rw [List.getElem?_eq_none_iff]
        have : ¬ q < h.form.length := by simpa using c1
        omega
      have st : Kp201.step (some h) (wCall want q) = (some h, Kp201.say (-2)) := by
        rw [step]
        unfold wAns
        rw [hq]
      exact ⟨by decide, fun l hl => (k h _ st g).new F (Same.refl H) hl rfl⟩
    have hql : q < h.form.length := by simpa using c1
    obtain ⟨x, hx⟩ : ∃ x, h.form[q]? = some x := ⟨_, List.getElem?_eq_getElem hql⟩
    have gx := (g.q q x hx).qok
    refine ⟨_, rfl, p, dx, _, rfl, F0.ins, flds_no .., _, rfl, p, own, h, q, rfl, F, g, Nat.le_of_lt hql, fun H1 own1 dn lv => ⟨fun hw => ?_, fun ws v hw wat => ?_⟩⟩
    · refine ⟨_, rfl, rfl, _, rfl, iteT ?_⟩
      have st : Kp201.step (some h) (wCall want q) = (some h, Kp201.say (-75)) := by
        rw [step]
        unfold wAns
        rw [hx, hw]
      exact ⟨by decide, fun l hl => (k h _ st g).done dn lv (Same.refl H1) hl rfl⟩
    · refine ⟨_, rfl, rfl, _, rfl, iteF ?_⟩
      obtain ⟨dx', b1, b2, b3, b4, ms, nms', wv', tw', eo', F1⟩ := id dn.form
      obtain ⟨nd, hnd, hx2⟩ := pairGetR F1.fin.each hx
      have fit := waysTo_fit (fun i y e => ⟨(g.q i y e).o1, (g.q i y e).o8⟩) (Nat.le_of_lt hql) hw
      have ew : decide (V.int (wI want) = V.int 1) = want := by cases want <;> decide
      refine ⟨_, rfl, _, rfl, p, D.C_Form, dx', _, _, rfl, F1.ins, T.cl_Form, T.n_Form_needs, flds_needs .., _, rfl, b2, _, _, _, rfl, rfl, SqL.of F1.fin.needs, at_nat (v := V.ref nd) (by rw [List.getElem?_map, hnd]; rfl), _, rfl, rfl, ?_⟩
      refine ⟨v, nd, want, x, ws, ?_, wat, hx2, gx.toAskOk, fun H2 s2 hf => ?_, fun H2 wy R s2 hf hR => ?_⟩
      · show [V.ref v, V.ref nd, V.bl (decide (V.int (wI want) = V.int 1))] = _
        rw [ew]
      · refine ⟨_, rfl, rfl, _, rfl, iteT ?_⟩
        have st : Kp201.step (some h) (wCall want q) = (some h, Kp201.say (1 - wI want)) := by
          rw [step]
          unfold wAns
          rw [hx, hw]
          dsimp only
          rw [hf]
        exact ⟨_, rfl, _, _, rfl, rfl, (by show 1 ≤ sizeLine; decide), fun l hl => (k h _ st g).done dn lv s2 hl rfl⟩
      · refine ⟨_, rfl, rfl, _, rfl, iteF ?_⟩
        have st : Kp201.step (some h) (wCall want q) = (some h, ⟨wI want, wy.came⟩) := by
          rw [step]
          unfold wAns
          rw [hx, hw]
          dsimp only
          rw [hf]
        have wm := List.mem_of_find?_eq_some hf
        have wl := fit.ok.len wy wm
        have w8 := fit.le wy wm
        have sz := g.size
        have emap : wy.came.map comeV = wy.came.map nV := List.map_congr_left fun u hu => by
          show V.int (comeI u) = V.int u
          rw [comeI_le (w8 u hu)]
        refine ⟨_, rfl, (by show 1 ≤ sizeLine; decide), fun l hl => ?_⟩
        have s3 : Same H2 (upd H2 l (.lst [.int (wI want)])) := Same.new hl
        refine ⟨_, rfl, _, rfl, R, wy.came, by rw [wl]; rfl, by omega, hR, fun u hu => by have := w8 u hu; omega, fun H4 a s4 ha h4 => ?_⟩
        have hl4 : H4 l = some (.lst [.int (wI want)]) := s4 _ _ upd_same
        refine ⟨l, a, _, _, rfl, rfl, hl4, h4, ?_, fun l2 hl2 => ?_⟩
        · rw [List.length_map]
          exact small (by show 1 + wy.came.length ≤ _; omega)
        · refine (k h _ st g).done dn lv (s2.trans (s3.trans s4)) hl2 ?_
          rw [emap]
          show HO.lst (V.int (wI want) :: wy.came.map nV) = HO.lst (List.map V.int (wI want :: List.map (fun (x : Nat) => (x : Int)) wy.came))
          rw [List.map_cons, List.map_map]
          rfl

def spEver (C : Addr) (want : Bool) : Sp := fun vs H Q _ => ∃ (p : Addr) (own : List Addr) (h : House) (q : Nat), vs = [.ref p, nV q] ∧ FormAt C H p own h ∧ GoodH h ∧ EndsBy C H p own h (wCall want q) Q
theorem ok_ever (T : Known K mg D) : FnOk P w K mg base CX0 7 D.f_Form_ever D.d_Form_ever ["self", "question"] (spEver D.C_Form true) := by
  have GT : FnOk P w K mg base CX0 6 D.f_Form_tell_way D.d_Form_tell_way ["self", "question", "asked"] (spTell D.C_Form) := ok_tell T
  refine T.F_Form_ever.ok sc_Form_ever (fun vs H Q E h => ?_) (fun cdv A outer s H vs Q E hr h => ?_)
  · obtain ⟨p, own, h, q, rfl, _⟩ := h
    rfl
  · obtain ⟨p, own, h, q, rfl, F, g, k⟩ := h
    obtain ⟨dx, a1, a2, a3, a4, ns, nms, wv, tw, eo, F0⟩ := id F
    refine ⟨_, pss_one (ps_ret (pe_meth (pv 0) T.cl_Form T.m_Form_tell_way GT hr T.b_Form_tell_way .nil pass0 (pa_cons (pv 1) (pa_cons pe_int pa_nil)))), ?_⟩
    exact ⟨_, rfl, p, dx, _, rfl, F0.ins, flds_no .., _, rfl, p, own, h, q, true, rfl, F, g, k⟩
theorem ok_always (T : Known K mg D) : FnOk P w K mg base CX0 7 D.f_Form_always D.d_Form_always ["self", "question"] (spEver D.C_Form false) := by
  have GT : FnOk P w K mg base CX0 6 D.f_Form_tell_way D.d_Form_tell_way ["self", "question", "asked"] (spTell D.C_Form) := ok_tell T
  refine T.F_Form_always.ok sc_Form_always (fun vs H Q E h => ?_) (fun cdv A outer s H vs Q E hr h => ?_)
  · obtain ⟨p, own, h, q, rfl, _⟩ := h
    rfl
  · obtain ⟨p, own, h, q, rfl, F, g, k⟩ := h
    obtain ⟨dx, a1, a2, a3, a4, ns, nms, wv, tw, eo, F0⟩ := id F
    refine ⟨_, pss_one (ps_ret (pe_meth (pv 0) T.cl_Form T.m_Form_tell_way GT hr T.b_Form_tell_way .nil pass0 (pa_cons (pv 1) (pa_cons pe_int pa_nil)))), ?_⟩
    exact ⟨_, rfl, p, dx, _, rfl, F0.ins, flds_no .., _, rfl, p, own, h, q, false, rfl, F, g, k⟩

theorem fold_most : ∀ (ws : List Way) (a : Nat), a ≤ ws.foldl (fun (a : Nat) (w : Way) => max a w.many) a ∧ (∀ w ∈ ws, w.many ≤ ws.foldl (fun (a : Nat) (w : Way) => max a w.many) a) ∧ (ws.foldl (fun (a : Nat) (w : Way) => max a w.many) a = a ∨ ∃ w ∈ ws, w.many = ws.foldl (fun (a : Nat) (w : Way) => max a w.many) a)
  | [], a => by
    refine ⟨Nat.le_refl _, fun w hw => ?_, .inl rfl⟩
    cases hw
  | v :: ws, a => by
    obtain ⟨h1, h2, h3⟩ := fold_most ws (max a v.many)
    rw [List.foldl_cons]
    refine ⟨Nat.le_trans (Nat.le_max_left ..) h1, fun w hw => ?_, ?_⟩
    · rcases List.mem_cons.mp hw with z | z
      · rw [z]; exact Nat.le_trans (Nat.le_max_right ..) h1
      · exact h2 w z
    · rcases h3 with z | ⟨w, hw, z⟩
      · by_cases c : a ≤ v.many
        · rw [Nat.max_eq_right c] at z
          exact .inr ⟨v, List.mem_cons_self .., by rw [Nat.max_eq_right c]; exact z.symm⟩
        · rw [Nat.max_eq_left (by omega)] at z
          exact .inl (by rw [Nat.max_eq_left (by omega)]; exact z)
      · exact .inr ⟨w, List.mem_cons_of_mem _ hw, z⟩
theorem most_is {ws : List Way} {m : Int} (h1 : m ∈ ws.map fun w => (w.many : Int)) (h2 : ∀ y ∈ ws.map fun w => (w.many : Int), y ≤ m) : m = ((ws.foldl (fun (a : Nat) (w : Way) => max a w.many) 0 : Nat) : Int) := by
  obtain ⟨v, hv, e⟩ := List.mem_map.mp h1
  obtain ⟨f1, f2, f3⟩ := fold_most ws 0
  have g1 := f2 v hv
  rcases f3 with z | ⟨u, hu, z⟩
  · omega
  · have := h2 _ (List.mem_map.mpr ⟨u, hu, rfl⟩)
    omega
def spMost (C : Addr) : Sp := fun vs H Q _ => ∃ (p : Addr) (own : List Addr) (h : House), vs = [.ref p] ∧ FormAt C H p own h ∧ GoodH h ∧ EndsBy C H p own h .most Q
theorem ok_most (T : Known K mg D) : FnOk P w K mg base CX0 6 D.f_Form_most D.d_Form_most ["self"] (spMost D.C_Form) := by
  have GB : FnOk P w K mg base CX0 5 D.f_Form_ways_before D.d_Form_ways_before ["self", "count"] (spBefore D.C_Form) := ok_before T
  refine T.F_Form_most.ok sc_Form_most (fun vs H Q E h => ?_) (fun cdv A outer s H vs Q E hr h => ?_)
  · obtain ⟨p, own, h, rfl, _⟩ := h
    rfl
  · obtain ⟨p, own, h, rfl, F, g, k⟩ := h
    obtain ⟨dx, a1, a2, a3, a4, ns, nms, wv, tw, eo, F0⟩ := id F
    refine ⟨_, pss_cons (ps_set (i := 1) sc_Form_most.nd rfl (Or.inl rfl) (pe_meth (pv 0) T.cl_Form T.m_Form_ways_before GB hr T.b_Form_ways_before .nil pass0 (pa_cons (pe_callB call_len_seq (by rfl) T.z_len PySem.boot_len (pa_cons (pe_fld (pv 0) rfl) pa_nil)) pa_nil)))
      (pss_cons (ps_if (pt_cmpR op_isN (pv 1) pe_non (nomark _)) (pss_one (ps_ret (pe_lst (pa_cons (pe_gi T.g_TOO_MANY) pa_nil)))) pss_nil)
      (pss_one (ps_ret (pe_lst (pa_cons (pe_callB (cr_max rfl) (by rfl) T.z_max boot_max (pa_cons
        (pe_lc (own := [("row", 2), ("asked", 3)]) (g := gTup K 2 (gCons (gName 2) (gCons (gName 3) gNil))) rfl sc_Form_most.nd (pi_list (pv 1)) (blkOk_by (N := ["self", "ways", "row", "asked"]) (sc := defScope s_Form_most) (by decide +kernel))
          (fun _ _ _ _ _ => pg_tup rfl (pgs_cons (pg_name (i := 2) sc_Form_most.nd rfl (Or.inl rfl)) (pgs_cons (pg_name (i := 3) sc_Form_most.nd rfl (Or.inl rfl)) pgs_nil))) (fun _ _ _ _ _ => pts_nil)
          (fun _ _ _ _ _ => pv 3)) pa_nil)) pa_nil))))), ?_⟩
    refine ⟨_, rfl, p, dx, _, rfl, F0.ins, flds_no .., _, rfl, p, D.C_Form, dx, _, _, rfl, F0.ins, T.cl_Form, T.n_Form_sizes, flds_sizes .., a1, _, rfl, .inl (SqL.of F0.fin.sizes), p, own, h, h.form.length, by rw [List.length_map]; rfl, F, g, Nat.le_refl _, fun H1 own1 dn lv => ⟨fun hw => ?_, fun ws v hw wat => ?_⟩⟩
    · refine ⟨_, rfl, rfl, _, rfl, iteT ?_⟩
      have st : Kp201.step (some h) .most = (some h, Kp201.say (-75)) := by
        simp only [Kp201.step]
        rw [hw]
      exact ⟨by decide, fun l hl => (k h _ st g).done dn lv (Same.refl H1) hl rfl⟩
    · refine ⟨_, rfl, rfl, _, rfl, iteF ?_⟩
      have fit := waysTo_fit (fun i y e => ⟨(g.q i y e).o1, (g.q i y e).o8⟩) (Nat.le_refl _) hw
      have w300 := waysTo_len (Nat.le_refl _) hw
      have st : Kp201.step (some h) .most = (some h, Kp201.say ((ws.foldl (fun (a : Nat) (w : Way) => max a w.many) 0 : Nat) : Int)) := by
        simp only [Kp201.step]
        rw [hw]
      obtain ⟨ts, hv, hp⟩ := wat
      refine ⟨_, rfl, v, rfl, ⟨_, SqL.of hv⟩, fun L hL => ?_⟩
      refine lc_list (K := K) (a := v) (xs := ts.map V.ref) (fun i H' => Same H1 H' ∧ H' L = some (.lst ((ws.take i).map fun w => nV w.many)))
        ⟨Same.new hL, upd_same⟩ (fun i H' _ ⟨s1, _⟩ => s1.seq (SqL.of hv)) ?_ ?_
      · rintro i y H' hi ⟨s1, h1⟩
        obtain ⟨t, ht, rfl⟩ := refs_at hi
        obtain ⟨wy, hwy, R, hwt, hR⟩ := pairGet hp ht
        refine ⟨t, _, rfl, SqT.of (s1 _ _ hwt), rfl, _, _, rfl, _, _, rfl, rfl, rfl, _, rfl, _, h1, ?_, s1.upd hL, ?_⟩
        · rw [List.length_map, List.length_take]
          exact small' (by omega)
        · rw [upd_same, take_snoc' hwy, List.map_append]
          rfl
      · rintro H' ⟨s1, h1⟩
        rw [List.length_map, pairLen hp, List.take_length] at h1
        refine ⟨L, ws.map fun w => (w.many : Int), rfl, SqL.of (by rw [h1, List.map_map]; rfl), ?_, fun m hm1 hm2 => ?_⟩
        · rw [List.length_map]
          exact List.length_pos_iff.mpr fit.ne
        · refine ⟨(by show 1 ≤ sizeLine; decide), fun l hl => ?_⟩
          rw [most_is hm1 hm2]
          exact (k h _ st g).done dn lv s1 hl rfl
end
end Aj
end
section
set_option Elab.async false
set_option linter.all false
set_option maxRecDepth 100000
set_option maxHeartbeats 4000000
/-! The desk: the calls of a list. -/
namespace Aj
open PySem PySem.Spec PyProof.Rows L2
open Kp201 (Literal House Came Ans Way)
/-- a comprehension over a range with a step -/
theorem lc_rangeC {lo c : Int} {n : Nat} {g : TG} {tt : TT} {te : TE} {vs : List Nat} {σ : L2.St} {H1 : Hp} {D : Addr} {Qd : Hp → Prop} (Pv : Nat → Hp → Prop) (h0 : Pv 0 (upd H1 D (.lst [])))
    (hs : ∀ i H, i < n → Pv i H → g (.int (lo + (i : Nat) * c)) (wipe σ vs) H fun σ2 H2 => wipe σ2 vs = wipe σ vs ∧ tt σ2 H2 fun b H3 =>
      if b = true then te σ2 H3 fun y H4 => ∃ acc, H4 D = some (.lst acc) ∧ acc.length < sizeLine ∧ Pv (i + 1) (upd H4 D (.lst (acc ++ [y]))) else Pv (i + 1) H3) (hd : ∀ H, Pv n H → Qd H) :
    ∃ W : Nat → Nat → Hp → Prop, (∃ m, W 0 m (upd H1 D (.lst []))) ∧ ∀ i m H, W i m H →
      ((Itc lo c n).stop i H ∧ Qd H) ∨ ((Itc lo c n).go i H ∧ ∃ Nx : Hp → Prop, (∀ H', Nx H' → ∃ m', m' < m ∧ W (i + 1) m' H') ∧ ∀ x H', (Itc lo c n).yld i H x H' → g x (wipe σ vs) H' fun σ2 H2 => wipe σ2 vs = wipe σ vs ∧ tt σ2 H2 fun b H3 =>
        if b = true then te σ2 H3 fun y H4 => ∃ acc, H4 D = some (.lst acc) ∧ acc.length < sizeLine ∧ Nx (upd H4 D (.lst (acc ++ [y]))) else Nx H3) := by
  refine ⟨fun i m H => m = n - i ∧ i ≤ n ∧ Pv i H, ⟨n, by simp, Nat.zero_le _, h0⟩, ?_⟩
  rintro i m H ⟨rfl, hi, p⟩
  by_cases hlt : i < n
  · refine .inr ⟨hlt, Pv (i + 1), fun H' p' => ⟨n - (i + 1), by omega, rfl, hlt, p'⟩, fun x H' y => ?_⟩
    obtain ⟨e, y⟩ := y
    subst e y
    exact hs i _ hlt p
  · have e : i = n := by omega
    subst e
    exact .inl ⟨Nat.le_refl _, hd H p⟩
section
variable {P : Program} {w : World} {K : PySem.W.Frag} {mg : Str → Option Value} {base : Heap} {D : Defs}

def spPairs (K : PySem.W.Frag) : Sp := fun vs H Q _ => ∃ (a : Addr) (r : List Int) (m : Nat), vs = [.ref a] ∧ SqL K H a (r.map V.int) ∧ r.length = 2 * m ∧ m ≤ 10 ∧ (∀ z ∈ r, 0 ≤ z) ∧ ∀ H' c, Same H H' → H c = none → ClAt H' c (litsOf r) → Q (.ref c) H'
theorem rg_two {m : Nat} (h : m ≤ 10) : RgC 0 ((2 * m : Nat) : Int) 2 m := by
  have : m = 0 ∨ m = 1 ∨ m = 2 ∨ m = 3 ∨ m = 4 ∨ m = 5 ∨ m = 6 ∨ m = 7 ∨ m = 8 ∨ m = 9 ∨ m = 10 := by omega
  rcases this with rfl | rfl | rfl | rfl | rfl | rfl | rfl | rfl | rfl | rfl | rfl <;> exact ⟨by decide, by decide, by decide +kernel, by decide +kernel⟩
theorem int_at {r : List Int} {i : Nat} (h : i < r.length) : (r.map V.int)[i]? = some (V.int (r.getD i 0)) := by
  rw [List.getElem?_map, List.getD_eq_getElem?_getD, List.getElem?_eq_getElem h]
  rfl
theorem ok_pairs (T : Known K mg D) : FnOk P w K mg base CX0 1 D.f_in_pairs D.d_in_pairs ["numbers"] (spPairs K) := by
  refine T.F_in_pairs.ok sc_in_pairs (fun vs H Q E h => ?_) (fun cdv A outer s H vs Q E hr h => ?_)
  · obtain ⟨a, r, m, rfl, _⟩ := h
    rfl
  · obtain ⟨a, r, m, rfl, hS, h2, h10, hp, k⟩ := h
    refine ⟨_, pss_one (ps_ret (pe_lc (own := [("k", 1)]) rfl sc_in_pairs.nd (pi_range3 rfl T.z_range (pa_cons pe_int (pa_cons (pe_callB call_len_seq (by rfl) T.z_len PySem.boot_len (pa_cons (pv 0) pa_nil)) (pa_cons pe_int pa_nil)))) (blkOk_by (N := ["numbers", "k"]) (sc := defScope s_in_pairs) (by decide +kernel))
      (fun _ _ _ _ _ => pg_name (i := 1) sc_in_pairs.nd rfl (Or.inl rfl)) (fun _ _ _ _ _ => pts_nil)
      (fun _ _ _ _ _ => pe_tup (pa_cons (pe_ix (r := rIxL K) ix_list (pv 0) (pv 1) plain) (pa_cons (pe_ix (r := rIxL K) ix_list (pv 0) (pe_op op_add (pv 1) pe_int) plain) pa_nil))))), ?_⟩
    have hln : ((r.map V.int).length : Int) = ((2 * m : Nat) : Int) := by rw [List.length_map, h2]
    refine ⟨_, rfl, a, _, rfl, .inl hS, 0, _, 2, m, rfl, by rw [hln]; exact rg_two h10, fun L hL => ?_⟩
    refine lc_rangeC (fun i H' => Same H H' ∧ ∃ ts : List Addr, H' L = some (.lst (ts.map V.ref)) ∧ Paired (LitAt H') ts ((litsOf r).take i)) ⟨Same.new hL, [], upd_same, .nil⟩ ?_ ?_
    · rintro i H' hi ⟨s1, ts, h1, hts⟩
      have e0 : (0 : Int) + (i : Nat) * 2 = ((2 * i : Nat) : Int) := by omega
      have e1 : ((2 * i : Nat) : Int) + 1 = ((2 * i + 1 : Nat) : Int) := by omega
      have tl : ts.length = i := by
        rw [pairLen hts, List.length_take, litsOf_len h2]
        omega
      rw [e0]
      refine ⟨rfl, _, rfl, _, rfl, a, _, _, _, rfl, rfl, s1.seq hS, at_nat (int_at (by omega)), _, rfl, _, rfl, _, _, rfl, rfl, a, _, _, _, rfl, rfl, s1.seq hS, by rw [e1]; exact at_nat (int_at (by omega)), (by show 2 ≤ sizeLine; decide), fun t ht => ?_⟩
      have nLt : L ≠ t := ne_of_none h1 ht
      refine ⟨_, by rw [upd_ne nLt]; exact h1, by rw [List.length_map, tl]; exact small' (by omega), ?_, ts ++ [t], ?_, ?_⟩
      · exact (s1.upd (s1.free ht)).upd hL
      · rw [upd_same, List.map_append]
        rfl
      · rw [take_snoc' (litsOf_at h2 hi)]
        have st : ∀ (o : HO) (x : Addr) (l : Literal), LitAt H' x l → LitAt (upd (upd H' t (.tup [V.int (r.getD (2 * i) 0), V.int (r.getD (2 * i + 1) 0)])) L o) x l := fun o x l hx => by
          have hx' : H' x = some (.tup [nV l.q, nV l.set]) := hx
          show upd _ L o x = _
          rw [upd_ne (ne_of hx' h1 (by intro z; cases z)), upd_ne (ne_of_none hx' ht)]
          exact hx'
        refine Paired.snoc (pairMono (fun x l hx => st _ x l hx) hts) ?_
        show upd _ L _ t = _
        rw [upd_ne nLt.symm, upd_same]
        have g : ∀ j, j < r.length → V.int (r.getD j 0) = nV (r.getD j 0).toNat := fun j hj => by
          have : 0 ≤ r.getD j 0 := by
            rw [List.getD_eq_getElem?_getD, List.getElem?_eq_getElem hj]
            exact hp _ (List.getElem_mem hj)
          show V.int _ = V.int _
          rw [Int.toNat_of_nonneg this]
        rw [g _ (by omega), g _ (by omega)]
    · rintro H' ⟨s1, ts, h1, hts⟩
      rw [List.take_of_length_le (by rw [litsOf_len h2]; exact Nat.le_refl _)] at hts
      exact k H' L s1 hL ⟨ts, h1, hts⟩

def spLen (K : PySem.W.Frag) : Sp := fun vs H Q _ => ∃ (a : Addr) (ns : List Int) (i : Nat) (c : List (List Int)) (t : List Int), vs = [.ref a, nV i] ∧ SqL K H a (ns.map V.int) ∧ ns.drop i = flat c ++ t ∧ Sh c ∧ Q (nV (flat c).length) H
theorem drop_at {ns l : List Int} {i j : Nat} {z : Int} (h : ns.drop i = l) (e : l[j]? = some z) : (ns.map V.int)[i + j]? = some (V.int z) := by
  rw [List.getElem?_map, ← List.getElem?_drop, h, e]
  rfl
theorem ok_len (T : Known K mg D) : FnOk P w K mg base CX0 1 D.f_call_length D.d_call_length ["calls", "start"] (spLen K) := by
  refine T.F_call_length.ok sc_call_length (fun vs H Q E h => ?_) (fun cdv A outer s H vs Q E hr h => ?_)
  · obtain ⟨a, ns, i, c, t, rfl, _⟩ := h
    rfl
  · obtain ⟨a, ns, i, c, t, rfl, hS, hd, hc, k⟩ := h
    refine ⟨_, pss_cons (ps_set (i := 2) sc_call_length.nd rfl (Or.inl rfl) (pe_ix ix_tup (pe_glob (v := .ref D.a_LENGTHS) rfl T.g_LENGTHS rfl) (pe_ix ix_list (pv 0) (pv 1) plain) plain))
      (pss_cons (ps_if (pt_cmpR op_eq (pe_ix ix_list (pv 0) (pv 1) plain) (pe_gi T.g_NEED) (nomark _)) (pss_one (ps_ret (pe_op op_add (pv 2) (pe_ix ix_list (pv 0) (pe_op op_add (pv 1) pe_int) plain)))) pss_nil)
      (pss_one (ps_ret (pv 2)))), ?_⟩
    have e2 : ((i : Nat) : Int) + 2 = ((i + 2 : Nat) : Int) := by omega
    have at0 : ∀ {z : Int} {l : List Int}, flat c ++ t = z :: l → atI (ns.map V.int) ((i : Nat) : Int) = some (V.int z) := fun {z l} e => by
      have := drop_at (j := 0) hd (z := z) (by rw [e]; rfl)
      exact at_nat this
    cases hc with
    | c0 =>
      refine ⟨_, rfl, _, rfl, a, _, _, _, rfl, rfl, hS, at0 (z := 0) rfl, D.a_LENGTHS, _, _, _, rfl, rfl, T.t_LENGTHS _, at_nat (j := 0) rfl, ?_⟩
      exact ⟨_, rfl, _, rfl, a, _, _, _, rfl, rfl, hS, at0 (z := 0) rfl, rfl, _, rfl, iteF ⟨_, rfl, k⟩⟩
    | c1 n =>
      refine ⟨_, rfl, _, rfl, a, _, _, _, rfl, rfl, hS, at0 (z := 1) rfl, D.a_LENGTHS, _, _, _, rfl, rfl, T.t_LENGTHS _, at_nat (j := 1) rfl, ?_⟩
      exact ⟨_, rfl, _, rfl, a, _, _, _, rfl, rfl, hS, at0 (z := 1) rfl, rfl, _, rfl, iteF ⟨_, rfl, k⟩⟩
    | c2 q r =>
      refine ⟨_, rfl, _, rfl, a, _, _, _, rfl, rfl, hS, at0 (z := 2) rfl, D.a_LENGTHS, _, _, _, rfl, rfl, T.t_LENGTHS _, at_nat (j := 2) rfl, ?_⟩
      refine ⟨_, rfl, _, rfl, a, _, _, _, rfl, rfl, hS, at0 (z := 2) rfl, rfl, _, rfl, iteT ?_⟩
      refine ⟨_, rfl, _, rfl, _, rfl, _, _, rfl, rfl, a, _, _, _, rfl, rfl, hS, by rw [e2]; exact at_nat (drop_at hd (z := (r.length : Int)) rfl), _, _, rfl, rfl, ?_⟩
      have e : (3 : Int) + (r.length : Int) = (((flat [[2, q], r]).length : Nat) : Int) := by
        simp only [flat, List.length_append, List.length_cons, List.length_nil]
        omega
      change Q (V.int (((flat [[2, q], r]).length : Nat) : Int)) H at k
      rw [← e] at k
      exact k
    | c3 =>
      refine ⟨_, rfl, _, rfl, a, _, _, _, rfl, rfl, hS, at0 (z := 3) rfl, D.a_LENGTHS, _, _, _, rfl, rfl, T.t_LENGTHS _, at_nat (j := 3) rfl, ?_⟩
      exact ⟨_, rfl, _, rfl, a, _, _, _, rfl, rfl, hS, at0 (z := 3) rfl, rfl, _, rfl, iteF ⟨_, rfl, k⟩⟩
    | c4 q o =>
      refine ⟨_, rfl, _, rfl, a, _, _, _, rfl, rfl, hS, at0 (z := 4) rfl, D.a_LENGTHS, _, _, _, rfl, rfl, T.t_LENGTHS _, at_nat (j := 4) rfl, ?_⟩
      exact ⟨_, rfl, _, rfl, a, _, _, _, rfl, rfl, hS, at0 (z := 4) rfl, rfl, _, rfl, iteF ⟨_, rfl, k⟩⟩
    | c5 q =>
      refine ⟨_, rfl, _, rfl, a, _, _, _, rfl, rfl, hS, at0 (z := 5) rfl, D.a_LENGTHS, _, _, _, rfl, rfl, T.t_LENGTHS _, at_nat (j := 5) rfl, ?_⟩
      exact ⟨_, rfl, _, rfl, a, _, _, _, rfl, rfl, hS, at0 (z := 5) rfl, rfl, _, rfl, iteF ⟨_, rfl, k⟩⟩
    | c6 =>
      refine ⟨_, rfl, _, rfl, a, _, _, _, rfl, rfl, hS, at0 (z := 6) rfl, D.a_LENGTHS, _, _, _, rfl, rfl, T.t_LENGTHS _, at_nat (j := 6) rfl, ?_⟩
      exact ⟨_, rfl, _, rfl, a, _, _, _, rfl, rfl, hS, at0 (z := 6) rfl, rfl, _, rfl, iteF ⟨_, rfl, k⟩⟩
    | c7 q =>
      refine ⟨_, rfl, _, rfl, a, _, _, _, rfl, rfl, hS, at0 (z := 7) rfl, D.a_LENGTHS, _, _, _, rfl, rfl, T.t_LENGTHS _, at_nat (j := 7) rfl, ?_⟩
      exact ⟨_, rfl, _, rfl, a, _, _, _, rfl, rfl, hS, at0 (z := 7) rfl, rfl, _, rfl, iteF ⟨_, rfl, k⟩⟩
    | c8 q =>
      refine ⟨_, rfl, _, rfl, a, _, _, _, rfl, rfl, hS, at0 (z := 8) rfl, D.a_LENGTHS, _, _, _, rfl, rfl, T.t_LENGTHS _, at_nat (j := 8) rfl, ?_⟩
      exact ⟨_, rfl, _, rfl, a, _, _, _, rfl, rfl, hS, at0 (z := 8) rfl, rfl, _, rfl, iteF ⟨_, rfl, k⟩⟩
    | c9 =>
      refine ⟨_, rfl, _, rfl, a, _, _, _, rfl, rfl, hS, at0 (z := 9) rfl, D.a_LENGTHS, _, _, _, rfl, rfl, T.t_LENGTHS _, at_nat (j := 9) rfl, ?_⟩
      exact ⟨_, rfl, _, rfl, a, _, _, _, rfl, rfl, hS, at0 (z := 9) rfl, rfl, _, rfl, iteF ⟨_, rfl, k⟩⟩
end
end Aj
end
section
set_option Elab.async false
set_option linter.all false
set_option maxRecDepth 100000
set_option maxHeartbeats 4000000
/-! One call, and the whole list. -/
namespace Aj
open PySem PySem.Spec PyProof.Rows L2
open Kp201 (Literal House Came Ans Way)
theorem EndsBy.same {C : Addr} {H H1 : Hp} {p : Addr} {own : List Addr} {h : House} {c : Kp201.Call} {Q : VK} (k : EndsBy C H p own h c Q) (s : Same H H1) : EndsBy C H1 p own h c Q := fun h' ans st g H' own' a d n e =>
  k h' ans st g H' own' a ⟨d.form, fun b hb => (d.sub b hb).imp id s.free, fun b o e hb => d.keep b o (s b o e) hb⟩ (s.free n) e
section
variable {P : Program} {w : World} {K : PySem.W.Frag} {mg : Str → Option Value} {base : Heap} {D : Defs}
/-- a call's number -/
def hdOf (c : List (List Int)) : Int := (flat c).headD 0
theorem hd_at {c : List (List Int)} (h : Sh c) : ((flat c).map V.int)[0]? = some (V.int (hdOf c)) := by cases h <;> rfl
/-- one call on a form, its number from lo to hi -/
def spCalls (K : PySem.W.Frag) (C : Addr) (lo hi : Int) : Sp := fun vs H Q _ => ∃ (p cl : Addr) (own : List Addr) (h : House) (c : List (List Int)), vs = [.ref p, .ref cl] ∧ FormAt C H p own h ∧ GoodH h ∧ SqL K H cl ((flat c).map V.int) ∧ Sh c ∧ lo ≤ hdOf c ∧ hdOf c ≤ hi ∧ Kp201Neutral.asked1 c = true ∧
  EndsBy C H p own h (callOf c) Q
theorem hd_in {c : List (List Int)} (h : Sh c) : 0 ≤ hdOf c ∧ hdOf c ≤ 9 := by cases h <;> simp [hdOf, flat]
theorem cutV_from3 (a b c : Int) (r : List Int) : cutV ((a :: b :: c :: r).map V.int) (some 3) none = r.map V.int := by
  unfold cutV
  rw [show (some (3 : Int)) = some (((3 : Nat) : Int)) from rfl, HT.sIx_nat, HT.sIx_none]
  have e : min 3 ((a :: b :: c :: r).map V.int).length = 3 := by
    rw [List.length_map]
    simp only [List.length_cons]
    omega
  rw [e]
  show List.take _ (r.map V.int) = _
  refine List.take_of_length_le ?_
  rw [List.length_map, List.length_map]
  simp only [List.length_cons]
  omega
theorem ok_make (T : Known K mg D) : FnOk P w K mg base CX0 5 D.f_make D.d_make ["form", "call"] (spCalls K D.C_Form 0 2) := by
  have G0 : FnOk P w K mg base CX0 1 D.f_Form_begin D.d_Form_begin ["self"] (spBegin D.C_Form) := ok_begin T
  have G1 : FnOk P w K mg base CX0 1 D.f_Form_add_question D.d_Form_add_question ["self", "size"] (spQuestion D.C_Form) := ok_question T
  have G2 : FnOk P w K mg base CX0 4 D.f_Form_add_need D.d_Form_add_need ["self", "question", "conditions"] (spNeed D.C_Form) := ok_need T
  have GP : FnOk P w K mg base CX0 1 D.f_in_pairs D.d_in_pairs ["numbers"] (spPairs K) := ok_pairs T
  refine T.F_make.ok sc_make (fun vs H Q E h => ?_) (fun cdv A outer s H vs Q E hr h => ?_)
  · obtain ⟨p, cl, own, h, c, rfl, _⟩ := h
    rfl
  · obtain ⟨p, cl, own, h, c, rfl, F, g, hS, hc, hlo, hhi, ha, k⟩ := h
    obtain ⟨dx, a1, a2, a3, a4, ns, nms, wv, tw, eo, F0⟩ := id F
    have hr1 : Room 1 _ := hr.mono (by decide)
    refine ⟨_, pss_cons (ps_if (pt_cmpR op_eq (pe_ix ix_list (pv 1) pe_int plain) (pe_gi T.g_BEGIN) (nomark _)) (pss_one (ps_ret (pe_meth0 (pv 0) T.cl_Form T.m_Form_begin G0 hr1 T.b_Form_begin .nil pass0))) pss_nil)
      (pss_cons (ps_if (pt_cmpR op_eq (pe_ix ix_list (pv 1) pe_int plain) (pe_gi T.g_QUESTION) (nomark _)) (pss_one (ps_ret (pe_meth (pv 0) T.cl_Form T.m_Form_add_question G1 hr1 T.b_Form_add_question .nil pass0 (pa_cons (pe_ix ix_list (pv 1) pe_int plain) pa_nil)))) pss_nil)
      (pss_one (ps_ret (pe_meth (pv 0) T.cl_Form T.m_Form_add_need G2 hr T.b_Form_add_need .nil pass0 (pa_cons (pe_ix ix_list (pv 1) pe_int plain)
        (pa_cons (pe_call GP hr1 rfl T.m_in_pairs T.F_in_pairs.kp T.b_in_pairs .nil pass0 (pa_cons (pe_slice sl_list (pv 1) (po_some pe_int) po_none) pa_nil)) pa_nil)))))), ?_⟩
    cases hc with
    | c0 =>
      refine ⟨_, rfl, cl, _, _, _, rfl, rfl, hS, at_nat (j := 0) rfl, rfl, _, rfl, iteT ?_⟩
      exact ⟨_, rfl, p, dx, _, rfl, F0.ins, flds_no .., p, own, h, rfl, F, k⟩
    | c1 n =>
      obtain ⟨n, rfl⟩ := asked_nat (show Kp201Neutral.natural n 32 = true from ha)
      refine ⟨_, rfl, cl, _, _, _, rfl, rfl, hS, at_nat (j := 0) rfl, rfl, _, rfl, iteF ?_⟩
      refine ⟨_, rfl, cl, _, _, _, rfl, rfl, hS, at_nat (j := 0) rfl, rfl, _, rfl, iteT ?_⟩
      exact ⟨_, rfl, p, dx, _, rfl, F0.ins, flds_no .., _, rfl, cl, _, _, _, rfl, rfl, hS, at_nat (j := 1) rfl, p, own, h, n, rfl, F, g, k⟩
    | c2 q r =>
      refine ⟨_, rfl, cl, _, _, _, rfl, rfl, hS, at_nat (j := 0) rfl, rfl, _, rfl, iteF ?_⟩
      refine ⟨_, rfl, cl, _, _, _, rfl, rfl, hS, at_nat (j := 0) rfl, rfl, _, rfl, iteF ?_⟩
      obtain ⟨⟨q, rfl⟩, ⟨m, hm, hm10⟩, hnn⟩ := asked_row ha
      refine ⟨_, rfl, p, dx, _, rfl, F0.ins, flds_no .., _, rfl, cl, _, _, _, rfl, rfl, hS, at_nat (j := 1) rfl, _, rfl, _, rfl, cl, _, rfl, hS, fun sl hsl => ?_⟩
      have ecut : cutV ((flat [[2, (q : Int)], r]).map V.int) (some 3) none = r.map V.int := cutV_from3 _ _ _ r
      have s1 : Same H (upd H sl (.lst (cutV ((flat [[2, (q : Int)], r]).map V.int) (some 3) none))) := Same.new hsl
      refine ⟨sl, r, m, rfl, SqL.of (by rw [upd_same, ecut]), hm, hm10, hnn, fun H2 c s2 hc2 hcl => ?_⟩
      have s12 : Same H H2 := s1.trans s2
      have fc : H c = none := s1.free hc2
      exact ⟨p, c, own, h, q, litsOf r, rfl, F.same s12, g, hcl, F.fresh fc, by rw [litsOf_len hm]; omega, k.same s12⟩
    | c3 => exact absurd (show (3 : Int) ≤ 2 from hhi) (by decide)
    | c4 q o => exact absurd (show (4 : Int) ≤ 2 from hhi) (by decide)
    | c5 q => exact absurd (show (5 : Int) ≤ 2 from hhi) (by decide)
    | c6 => exact absurd (show (6 : Int) ≤ 2 from hhi) (by decide)
    | c7 q => exact absurd (show (7 : Int) ≤ 2 from hhi) (by decide)
    | c8 q => exact absurd (show (8 : Int) ≤ 2 from hhi) (by decide)
    | c9 => exact absurd (show (9 : Int) ≤ 2 from hhi) (by decide)

theorem ok_fill (T : Known K mg D) : FnOk P w K mg base CX0 5 D.f_fill_in D.d_fill_in ["form", "call"] (spCalls K D.C_Form 3 6) := by
  have G3 : FnOk P w K mg base CX0 4 D.f_Form_next_question D.d_Form_next_question ["self"] (spNext D.C_Form) := ok_next T
  have G4 : FnOk P w K mg base CX0 4 D.f_Form_answer D.d_Form_answer ["self", "question", "option"] (spAnswer D.C_Form) := ok_answer T
  have G5 : FnOk P w K mg base CX0 2 D.f_Form_forget D.d_Form_forget ["self", "question"] (spForget D.C_Form) := ok_forget T
  have G6 : FnOk P w K mg base CX0 4 D.f_Form_result D.d_Form_result ["self"] (spResult D.C_Form) := ok_result T
  refine T.F_fill_in.ok sc_fill_in (fun vs H Q E h => ?_) (fun cdv A outer s H vs Q E hr h => ?_)
  · obtain ⟨p, cl, own, h, c, rfl, _⟩ := h
    rfl
  · obtain ⟨p, cl, own, h, c, rfl, F, g, hS, hc, hlo, hhi, ha, k⟩ := h
    obtain ⟨dx, a1, a2, a3, a4, ns, nms, wv, tw, eo, F0⟩ := id F
    have hr2 : Room 2 _ := hr.mono (by decide)
    refine ⟨_, pss_cons (ps_if (pt_cmpR op_eq (pe_ix ix_list (pv 1) pe_int plain) (pe_gi T.g_NEXT) (nomark _)) (pss_one (ps_ret (pe_meth0 (pv 0) T.cl_Form T.m_Form_next_question G3 hr T.b_Form_next_question .nil pass0))) pss_nil)
      (pss_cons (ps_if (pt_cmpR op_eq (pe_ix ix_list (pv 1) pe_int plain) (pe_gi T.g_ANSWER) (nomark _)) (pss_one (ps_ret (pe_meth (pv 0) T.cl_Form T.m_Form_answer G4 hr T.b_Form_answer .nil pass0 (pa_cons (pe_ix ix_list (pv 1) pe_int plain) (pa_cons (pe_ix ix_list (pv 1) pe_int plain) pa_nil))))) pss_nil)
      (pss_cons (ps_if (pt_cmpR op_eq (pe_ix ix_list (pv 1) pe_int plain) (pe_gi T.g_FORGET) (nomark _)) (pss_one (ps_ret (pe_meth (pv 0) T.cl_Form T.m_Form_forget G5 hr2 T.b_Form_forget .nil pass0 (pa_cons (pe_ix ix_list (pv 1) pe_int plain) pa_nil)))) pss_nil)
      (pss_one (ps_ret (pe_meth0 (pv 0) T.cl_Form T.m_Form_result G6 hr T.b_Form_result .nil pass0))))), ?_⟩
    cases hc with
    | c0 => exact absurd (show (3 : Int) ≤ 0 from hlo) (by decide)
    | c1 n => exact absurd (show (3 : Int) ≤ 1 from hlo) (by decide)
    | c2 q r => exact absurd (show (3 : Int) ≤ 2 from hlo) (by decide)
    | c3 =>
      refine ⟨_, rfl, cl, _, _, _, rfl, rfl, hS, at_nat (j := 0) rfl, rfl, _, rfl, iteT ?_⟩
      exact ⟨_, rfl, p, dx, _, rfl, F0.ins, flds_no .., p, own, h, rfl, F, g, k⟩
    | c4 q o =>
      have ha' : (Kp201Neutral.natural q 32 && Kp201Neutral.natural o 32) = true := ha
      rw [Bool.and_eq_true] at ha'
      obtain ⟨q, rfl⟩ := asked_nat ha'.1
      obtain ⟨o, rfl⟩ := asked_nat ha'.2
      refine ⟨_, rfl, cl, _, _, _, rfl, rfl, hS, at_nat (j := 0) rfl, rfl, _, rfl, iteF ?_⟩
      refine ⟨_, rfl, cl, _, _, _, rfl, rfl, hS, at_nat (j := 0) rfl, rfl, _, rfl, iteT ?_⟩
      exact ⟨_, rfl, p, dx, _, rfl, F0.ins, flds_no .., _, rfl, cl, _, _, _, rfl, rfl, hS, at_nat (j := 1) rfl, _, rfl, cl, _, _, _, rfl, rfl, hS, at_nat (j := 2) rfl, p, own, h, q, o, rfl, F, g, k⟩
    | c5 q =>
      obtain ⟨q, rfl⟩ := asked_nat (show Kp201Neutral.natural q 32 = true from ha)
      refine ⟨_, rfl, cl, _, _, _, rfl, rfl, hS, at_nat (j := 0) rfl, rfl, _, rfl, iteF ?_⟩
      refine ⟨_, rfl, cl, _, _, _, rfl, rfl, hS, at_nat (j := 0) rfl, rfl, _, rfl, iteF ?_⟩
      refine ⟨_, rfl, cl, _, _, _, rfl, rfl, hS, at_nat (j := 0) rfl, rfl, _, rfl, iteT ?_⟩
      exact ⟨_, rfl, p, dx, _, rfl, F0.ins, flds_no .., _, rfl, cl, _, _, _, rfl, rfl, hS, at_nat (j := 1) rfl, p, own, h, q, rfl, F, g, k⟩
    | c6 =>
      refine ⟨_, rfl, cl, _, _, _, rfl, rfl, hS, at_nat (j := 0) rfl, rfl, _, rfl, iteF ?_⟩
      refine ⟨_, rfl, cl, _, _, _, rfl, rfl, hS, at_nat (j := 0) rfl, rfl, _, rfl, iteF ?_⟩
      refine ⟨_, rfl, cl, _, _, _, rfl, rfl, hS, at_nat (j := 0) rfl, rfl, _, rfl, iteF ?_⟩
      exact ⟨_, rfl, p, dx, _, rfl, F0.ins, flds_no .., p, own, h, rfl, F, g, k⟩
    | c7 q => exact absurd (show (7 : Int) ≤ 6 from hhi) (by decide)
    | c8 q => exact absurd (show (8 : Int) ≤ 6 from hhi) (by decide)
    | c9 => exact absurd (show (9 : Int) ≤ 6 from hhi) (by decide)

theorem ok_look (T : Known K mg D) : FnOk P w K mg base CX0 8 D.f_look_over D.d_look_over ["form", "call"] (spCalls K D.C_Form 7 9) := by
  have G7 : FnOk P w K mg base CX0 7 D.f_Form_ever D.d_Form_ever ["self", "question"] (spEver D.C_Form true) := ok_ever T
  have G8 : FnOk P w K mg base CX0 7 D.f_Form_always D.d_Form_always ["self", "question"] (spEver D.C_Form false) := ok_always T
  have G9 : FnOk P w K mg base CX0 6 D.f_Form_most D.d_Form_most ["self"] (spMost D.C_Form) := ok_most T
  refine T.F_look_over.ok sc_look_over (fun vs H Q E h => ?_) (fun cdv A outer s H vs Q E hr h => ?_)
  · obtain ⟨p, cl, own, h, c, rfl, _⟩ := h
    rfl
  · obtain ⟨p, cl, own, h, c, rfl, F, g, hS, hc, hlo, hhi, ha, k⟩ := h
    obtain ⟨dx, a1, a2, a3, a4, ns, nms, wv, tw, eo, F0⟩ := id F
    have hr6 : Room 6 _ := hr.mono (by decide)
    refine ⟨_, pss_cons (ps_if (pt_cmpR op_eq (pe_ix ix_list (pv 1) pe_int plain) (pe_gi T.g_EVER) (nomark _)) (pss_one (ps_ret (pe_meth (pv 0) T.cl_Form T.m_Form_ever G7 hr T.b_Form_ever .nil pass0 (pa_cons (pe_ix ix_list (pv 1) pe_int plain) pa_nil)))) pss_nil)
      (pss_cons (ps_if (pt_cmpR op_eq (pe_ix ix_list (pv 1) pe_int plain) (pe_gi T.g_ALWAYS) (nomark _)) (pss_one (ps_ret (pe_meth (pv 0) T.cl_Form T.m_Form_always G8 hr T.b_Form_always .nil pass0 (pa_cons (pe_ix ix_list (pv 1) pe_int plain) pa_nil)))) pss_nil)
      (pss_one (ps_ret (pe_meth0 (pv 0) T.cl_Form T.m_Form_most G9 hr6 T.b_Form_most .nil pass0)))), ?_⟩
    cases hc with
    | c0 => exact absurd (show (7 : Int) ≤ 0 from hlo) (by decide)
    | c1 n => exact absurd (show (7 : Int) ≤ 1 from hlo) (by decide)
    | c2 q r => exact absurd (show (7 : Int) ≤ 2 from hlo) (by decide)
    | c3 => exact absurd (show (7 : Int) ≤ 3 from hlo) (by decide)
    | c4 q o => exact absurd (show (7 : Int) ≤ 4 from hlo) (by decide)
    | c5 q => exact absurd (show (7 : Int) ≤ 5 from hlo) (by decide)
    | c6 => exact absurd (show (7 : Int) ≤ 6 from hlo) (by decide)
    | c7 q =>
      obtain ⟨q, rfl⟩ := asked_nat (show Kp201Neutral.natural q 32 = true from ha)
      refine ⟨_, rfl, cl, _, _, _, rfl, rfl, hS, at_nat (j := 0) rfl, rfl, _, rfl, iteT ?_⟩
      exact ⟨_, rfl, p, dx, _, rfl, F0.ins, flds_no .., _, rfl, cl, _, _, _, rfl, rfl, hS, at_nat (j := 1) rfl, p, own, h, q, rfl, F, g, k⟩
    | c8 q =>
      obtain ⟨q, rfl⟩ := asked_nat (show Kp201Neutral.natural q 32 = true from ha)
      refine ⟨_, rfl, cl, _, _, _, rfl, rfl, hS, at_nat (j := 0) rfl, rfl, _, rfl, iteF ?_⟩
      refine ⟨_, rfl, cl, _, _, _, rfl, rfl, hS, at_nat (j := 0) rfl, rfl, _, rfl, iteT ?_⟩
      exact ⟨_, rfl, p, dx, _, rfl, F0.ins, flds_no .., _, rfl, cl, _, _, _, rfl, rfl, hS, at_nat (j := 1) rfl, p, own, h, q, rfl, F, g, k⟩
    | c9 =>
      refine ⟨_, rfl, cl, _, _, _, rfl, rfl, hS, at_nat (j := 0) rfl, rfl, _, rfl, iteF ?_⟩
      refine ⟨_, rfl, cl, _, _, _, rfl, rfl, hS, at_nat (j := 0) rfl, rfl, _, rfl, iteF ?_⟩
      exact ⟨_, rfl, p, dx, _, rfl, F0.ins, flds_no .., p, own, h, rfl, F, g, k⟩

theorem ok_call (T : Known K mg D) : FnOk P w K mg base CX0 9 D.f_answer_call D.d_answer_call ["form", "call"] (spCalls K D.C_Form 0 9) := by
  have GM : FnOk P w K mg base CX0 5 D.f_make D.d_make ["form", "call"] (spCalls K D.C_Form 0 2) := ok_make T
  have GF : FnOk P w K mg base CX0 5 D.f_fill_in D.d_fill_in ["form", "call"] (spCalls K D.C_Form 3 6) := ok_fill T
  have GL : FnOk P w K mg base CX0 8 D.f_look_over D.d_look_over ["form", "call"] (spCalls K D.C_Form 7 9) := ok_look T
  refine T.F_answer_call.ok sc_answer_call (fun vs H Q E h => ?_) (fun cdv A outer s H vs Q E hr h => ?_)
  · obtain ⟨p, cl, own, h, c, rfl, _⟩ := h
    rfl
  · obtain ⟨p, cl, own, h, c, rfl, F, g, hS, hc, hlo, hhi, ha, k⟩ := h
    have hr5 : Room 5 _ := hr.mono (by decide)
    refine ⟨_, pss_cons (ps_if (pt_cmpR op_le (pe_ix ix_list (pv 1) pe_int plain) (pe_gi T.g_NEED) (nomark _)) (pss_one (ps_ret (pe_call GM hr5 rfl T.m_make T.F_make.kp T.b_make .nil pass0 (pa_cons (pv 0) (pa_cons (pv 1) pa_nil))))) pss_nil)
      (pss_cons (ps_if (pt_cmpR op_le (pe_ix ix_list (pv 1) pe_int plain) (pe_gi T.g_RESULT) (nomark _)) (pss_one (ps_ret (pe_call GF hr5 rfl T.m_fill_in T.F_fill_in.kp T.b_fill_in .nil pass0 (pa_cons (pv 0) (pa_cons (pv 1) pa_nil))))) pss_nil)
      (pss_one (ps_ret (pe_call GL hr rfl T.m_look_over T.F_look_over.kp T.b_look_over .nil pass0 (pa_cons (pv 0) (pa_cons (pv 1) pa_nil)))))), ?_⟩
    refine ⟨_, rfl, cl, _, _, _, rfl, rfl, hS, at_nat (j := 0) (hd_at hc), _, _, rfl, rfl, _, rfl, ?_⟩
    refine ite2 (fun c1 => ?_) (fun c1 => ?_)
    · exact ⟨_, rfl, _, rfl, p, cl, own, h, c, rfl, F, g, hS, hc, hlo, of_decide_eq_true c1, ha, k⟩
    have c1' : ¬ hdOf c ≤ 2 := fun z => c1 (decide_eq_true z)
    refine ⟨_, rfl, cl, _, _, _, rfl, rfl, hS, at_nat (j := 0) (hd_at hc), _, _, rfl, rfl, _, rfl, ?_⟩
    refine ite2 (fun c2 => ?_) (fun c2 => ?_)
    · exact ⟨_, rfl, _, rfl, p, cl, own, h, c, rfl, F, g, hS, hc, by omega, of_decide_eq_true c2, ha, k⟩
    have c2' : ¬ hdOf c ≤ 6 := fun z => c2 (decide_eq_true z)
    exact ⟨_, rfl, _, rfl, p, cl, own, h, c, rfl, F, g, hS, hc, by omega, hhi, ha, k⟩

/-- the whole: a list that may be handed in -/
def spAll (K : PySem.W.Frag) : Sp := fun vs H Q _ => ∃ (a : Addr) (ns : List Int) (cs : List (List (List Int))), vs = [.ref a] ∧ SqL K H a (ns.map V.int) ∧ Reads ns cs ∧ cs.length ≤ 300 ∧ (∀ c ∈ cs, Kp201Neutral.asked1 c = true) ∧
  ∀ (H' : Hp) (p : Addr), H' p = some (.lst ((restOut ⟨[], []⟩ cs).map V.int)) → Q (.ref p) H'
theorem cutV_mid {ns pre t : List Int} {i : Nat} (h : ns.drop i = pre ++ t) : cutV (ns.map V.int) (some (i : Int)) (some ((i : Int) + (pre.length : Int))) = pre.map V.int := by
  rw [show (i : Int) + (pre.length : Int) = ((i + pre.length : Nat) : Int) by omega]
  have hl : i + pre.length ≤ ns.length ∨ pre = [] := by
    have := congrArg List.length h
    rw [List.length_drop, List.length_append] at this
    cases pre with
    | nil => exact .inr rfl
    | cons x pre => simp only [List.length_cons] at *; exact .inl (by omega)
  unfold cutV
  rw [HT.sIx_nat, HT.sIx_nat, List.length_map]
  rcases hl with hl | rfl
  · rw [Nat.min_eq_left hl, Nat.min_eq_left (show i ≤ ns.length by omega), ← List.map_drop, h, show i + pre.length - i = pre.length by omega, List.map_append, ← List.length_map (f := V.int) (as := pre), List.take_left]
  · simp
theorem ok_all (T : Known K mg D) : FnOk P w K mg base CX0 10 D.f_answers D.d_answers ["calls"] (spAll K) := by
  have GI : FnOk P w K mg base CX0 1 D.f_Form_init D.d_Form_init ["self"] (spInit D.C_Form) := ok_init T
  have GL : FnOk P w K mg base CX0 1 D.f_call_length D.d_call_length ["calls", "start"] (spLen K) := ok_len T
  have GC : FnOk P w K mg base CX0 9 D.f_answer_call D.d_answer_call ["form", "call"] (spCalls K D.C_Form 0 9) := ok_call T
  refine T.F_answers.ok sc_answers (fun vs H Q E h => ?_) (fun cdv A outer s H vs Q E hr h => ?_)
  · obtain ⟨a, ns, cs, rfl, _⟩ := h
    rfl
  · obtain ⟨a, ns, cs, rfl, hS, hR, h300, hA, k⟩ := h
    have hr1 : Room 1 _ := hr.mono (by decide)
    have hr2 : Room 2 _ := hr.mono (by decide)
    refine ⟨_, pss_cons (ps_set (i := 1) sc_answers.nd rfl (Or.inl rfl) (pe_make0 T.mk_Form GI hr2 rfl T.mg_Form T.b_Form_init .nil pass0))
      (pss_cons (ps_set (i := 2) sc_answers.nd rfl (Or.inl rfl) (pe_lst pa_nil))
      (pss_cons (ps_set (i := 3) sc_answers.nd rfl (Or.inl rfl) pe_int)
      (pss_cons (ps_while PassesOwn.never (pt_cmpR op_lt (pv 3) (pe_callB call_len_seq (by rfl) T.z_len PySem.boot_len (pa_cons (pv 0) pa_nil)) (nomark _))
        (pss_cons (ps_set (i := 4) sc_answers.nd rfl (Or.inl rfl) (pe_op op_add (pv 3) (pe_call GL hr1 rfl T.m_call_length T.F_call_length.kp T.b_call_length .nil pass0 (pa_cons (pv 0) (pa_cons (pv 3) pa_nil)))))
        (pss_cons (ps_set (i := 5) sc_answers.nd rfl (Or.inl rfl) (pe_call GC hr rfl T.m_answer_call T.F_answer_call.kp T.b_answer_call .nil pass0 (pa_cons (pv 1) (pa_cons (pe_slice sl_list (pv 0) (po_some (pv 3)) (po_some (pv 4))) pa_nil))))
        (pss_cons (ps_expr (pe_bm PySem.F.plainAttrs_list PySem.F.slot_list_append PySem.F.type_list_append mt_append (pv 2) (pa_cons (pe_callB call_len_seq (by rfl) T.z_len PySem.boot_len (pa_cons (pv 5) pa_nil)) pa_nil)))
        (pss_cons (ps_expr (pe_bm PySem.F.plainAttrs_list PySem.F.slot_list_extend PySem.F.type_list_extend mt_extend (pv 2) (pa_cons (pv 5) pa_nil)))
        (pss_one (ps_set (i := 3) sc_answers.nd rfl (Or.inl rfl) (pv 4))))))))
      (pss_one (ps_ret (pv 2)))))), ?_⟩
    intro x dx nx ndx nex
    refine ⟨x, dx, rfl, upd_same, fun H1 own F1 fo kp1 => ⟨rfl, ?_⟩⟩
    have s1 : Same H H1 := Same.made nx ndx kp1
    refine ⟨Nat.zero_le _, fun l hl => ?_⟩
    have s2 : Same H1 (upd H1 l (.lst [])) := Same.new hl
    have fo' : ∀ b ∈ own, b ≠ l := fun b hb e => by
      exact F1.fresh hl (e ▸ hb)
    refine while_by (fun σ H' => ∃ (i : Nat) (v4 v5 : Option V) (rest : List (List (List Int))) (out : List Int) (h : House) (own : List Addr), σ = [some (.ref a), some (.ref x), some (.ref l), some (nV i), v4, v5] ∧ Same H H' ∧ Reads (ns.drop i) rest ∧ i ≤ ns.length ∧
        (∀ c ∈ rest, Kp201Neutral.asked1 c = true) ∧ rest.length ≤ 300 ∧ H' l = some (.lst (out.map V.int)) ∧ out.length ≤ 51 * (300 - rest.length) ∧ out ++ restOut h rest = restOut ⟨[], []⟩ cs ∧ FormAt D.C_Form H' x own h ∧ GoodH h ∧ l ∉ own ∧ ∀ b ∈ own, H b = none)
      (fun (σ : L2.St) _ => match σ[3]? with
        | some (some (V.int z)) => ns.length - z.toNat
        | _ => 0)
      ⟨0, none, none, cs, [], ⟨[], []⟩, own, rfl, s1.trans s2, hR, Nat.zero_le _, hA, h300, upd_same, Nat.zero_le _, rfl, F1.same s2, good_nil, fun hm => fo' l hm rfl, fun b hb => ?_⟩ ?_ ?_
    · rcases fo b hb with z | z
      · rw [z]; exact nx
      · exact upd_free (upd_free z)
    · rintro σ H' ⟨i, v4, v5, rest, out, h, own, rfl, s3, hRd, hi, hAs, hr300, hl3, hol, hout, F, g, lo, fow⟩
      refine ⟨_, rfl, _, rfl, a, _, rfl, .inl (s3.seq hS), _, _, rfl, rfl, _, rfl, ?_⟩
      refine ite2 (fun c1 => ?_) (fun c1 => ?_)
      · have il : i < ns.length := by
          have := of_decide_eq_true c1
          rw [List.length_map] at this
          omega
        obtain ⟨c, t, rest', rfl, hc, hRt, hdr⟩ : ∃ c t rest', rest = c :: rest' ∧ Sh c ∧ Reads t rest' ∧ ns.drop i = flat c ++ t := by
          generalize hd : ns.drop i = dl at hRd
          cases hRd with
          | nil =>
            have := congrArg List.length hd
            rw [List.length_drop] at this
            simp at this
            omega
          | cons hc hRt => exact ⟨_, _, _, rfl, hc, hRt, rfl⟩
        have hac := hAs c (List.mem_cons_self ..)
        have hh := hd_in hc
        refine ⟨_, rfl, _, rfl, _, rfl, a, ns, i, c, t, rfl, s3.seq hS, hdr, hc, _, _, rfl, rfl, ?_⟩
        refine ⟨_, rfl, _, rfl, _, rfl, _, rfl, _, rfl, _, rfl, a, _, rfl, s3.seq hS, fun sl hsl => ?_⟩
        have s4 : Same H' (upd H' sl (.lst (cutV (ns.map V.int) (some (i : Int)) (some ((i : Int) + ((flat c).length : Int)))))) := Same.new hsl
        refine ⟨x, sl, own, h, c, rfl, F.same s4, g, SqL.of (by rw [upd_same, cutV_mid hdr]), hc, hh.1, hh.2, hac, fun h' ans st g' H5 own' nb dn fn en => ?_⟩
        have hl4 := s4 _ _ hl3
        have hl5 : H5 l = some (.lst (out.map V.int)) := dn.keep _ _ hl4 lo
        have nbl : l ≠ nb := ne_of_none hl4 fn
        have olen : (outI ans).length ≤ 50 := by
          have := out_len g (callOf c)
          rw [st] at this
          exact this
        have hol' : out.length ≤ 51 * 300 := by omega
        refine ⟨_, rfl, .inl ⟨rfl, _, SqL.of hl5⟩, _, rfl, nb, _, rfl, .inl (SqL.of en), l, _, _, rfl, rfl, hl5, by rw [List.length_map]; exact small' (by omega), ?_⟩
        refine ⟨_, rfl, .inl ⟨rfl, _, SqL.of upd_same⟩, _, rfl, l, nb, _, _, rfl, rfl, upd_same, by rw [upd_ne nbl.symm]; exact en, ?_, ?_⟩
        · rw [List.length_append, List.length_map, List.length_map, List.length_singleton]
          exact small (by omega)
        · refine ⟨_, rfl, ⟨i + (flat c).length, _, _, rest', out ++ ((outI ans).length : Int) :: outI ans, h', own', rfl, ?_, ?_, ?_, fun c' hc' => hAs c' (List.mem_cons_of_mem _ hc'), ?_, ?_, ?_, ?_, ?_, g', ?_, ?_⟩, ?_⟩
          · intro b o e
            have b1 : b ∉ own := fun hm => by
              rw [fow b hm] at e
              cases e
            have b2 : b ≠ l := fun z => by
              rw [z] at e
              have := s1.free hl
              rw [this] at e
              cases e
            rw [upd_ne b2, upd_ne b2]
            exact dn.keep b o (s4 _ _ (s3 _ _ e)) b1
          · rw [← List.drop_drop, hdr, List.drop_left]
            exact hRt
          · have := congrArg List.length hdr
            rw [List.length_drop, List.length_append] at this
            omega
          · simp only [List.length_cons] at hr300
            omega
          · rw [upd_same, List.map_append, List.map_cons, List.length_map, List.append_assoc]
            rfl
          · rw [List.length_append, List.length_cons]
            simp only [List.length_cons] at hr300 hol
            omega
          · rw [← hout, restOut_cons hc st, List.append_assoc]
            rfl
          · have lo' : l ∉ own' := fun hm => by
              rcases dn.sub l hm with z | z
              · exact lo z
              · rw [hl4] at z
                cases z
            refine dn.form.but hl5 lo' fun b o e hb => ?_
            rw [upd_ne hb, upd_ne hb]
            exact e
          · intro hm
            rcases dn.sub l hm with z | z
            · exact lo z
            · rw [hl4] at z
              cases z
          · intro b hb
            rcases dn.sub b hb with z | z
            · exact fow b z
            · exact s3.free (s4.free z)
          · have := flat_pos hc
            show ns.length - ((i + (flat c).length : Nat) : Int).toNat < ns.length - ((i : Nat) : Int).toNat
            rw [Int.toNat_natCast, Int.toNat_natCast]
            omega
      · have il : i = ns.length := by
          have : ¬ ((i : Nat) : Int) < (((ns.map V.int).length : Nat) : Int) := fun z => c1 (decide_eq_true z)
          rw [List.length_map] at this
          omega
        have er : rest = [] := by
          rw [il, List.drop_length] at hRd
          generalize hd : ([] : List Int) = dl at hRd
          cases hRd with
          | nil => rfl
          | cons hc _ =>
            have e1 := congrArg List.length hd
            have e2 := flat_pos hc
            rw [List.length_append, List.length_nil] at e1
            omega
        subst er
        have eo : out = restOut ⟨[], []⟩ cs := by
          rw [← hout]
          show out = out ++ []
          rw [List.append_nil]
        rw [eo] at hl3
        exact ⟨_, rfl, k H' l hl3⟩
    · rintro σ H' Q1 Q2 f ⟨v, e1, v0, e2, p0, ys, e3, e4, i1, j1, e5, e6, b, e7, q⟩
      exact ⟨v, e1, v0, e2, p0, ys, e3, e4, i1, j1, e5, e6, b, e7, f _ _ q⟩
end
end Aj
end
section
set_option Elab.async false
set_option linter.all false
set_option maxRecDepth 100000
set_option maxHeartbeats 4000000
namespace Aj
open PySem PySem.Spec PyProof.Rows L2
theorem known_mk {K : PySem.W.Frag} {h : Heap} {mg : Str → Option Value} (X : K.In h) (G : h.Ns mainGlobals mg)
    {C_Form f_placed f_mark f_need_of f_names_of f_is_asked f_come_of f_what_comes f_keep_way f_ways_behind f_named_behind f_ways_through f_earliest_row f_is_valid_condition f_is_valid_need f_Form_init f_Form_begin f_Form_has_question f_Form_add_question f_Form_add_need f_Form_as_things_are f_Form_next_question f_Form_answer f_Form_forget f_Form_result f_Form_ways_before f_Form_tell_way f_Form_ever f_Form_always f_Form_most f_call_length f_in_pairs f_make f_fill_in f_look_over f_answer_call f_answers a_LENGTHS : Addr} {od_placed od_mark od_need_of od_names_of od_is_asked od_come_of od_what_comes od_keep_way od_ways_behind od_named_behind od_ways_through od_earliest_row od_is_valid_condition od_is_valid_need od_Form_init od_Form_begin od_Form_has_question od_Form_add_question od_Form_add_need od_Form_as_things_are od_Form_next_question od_Form_answer od_Form_forget od_Form_result od_Form_ways_before od_Form_tell_way od_Form_ever od_Form_always od_Form_most od_call_length od_in_pairs od_make od_fill_in od_look_over od_answer_call od_answers an_placed an_mark an_need_of an_names_of an_is_asked an_come_of an_what_comes an_keep_way an_ways_behind an_named_behind an_ways_through an_earliest_row an_is_valid_condition an_is_valid_need an_Form_init an_Form_begin an_Form_has_question an_Form_add_question an_Form_add_need an_Form_as_things_are an_Form_next_question an_Form_answer an_Form_forget an_Form_result an_Form_ways_before an_Form_tell_way an_Form_ever an_Form_always an_Form_most an_call_length an_in_pairs an_make an_fill_in an_look_over an_answer_call an_answers od_LENGTHS : Option Addr} {sl_placed sl_mark sl_need_of sl_names_of sl_is_asked sl_come_of sl_what_comes sl_keep_way sl_ways_behind sl_named_behind sl_ways_through sl_earliest_row sl_is_valid_condition sl_is_valid_need sl_Form_init sl_Form_begin sl_Form_has_question sl_Form_add_question sl_Form_add_need sl_Form_as_things_are sl_Form_next_question sl_Form_answer sl_Form_forget sl_Form_result sl_Form_ways_before sl_Form_tell_way sl_Form_ever sl_Form_always sl_Form_most sl_call_length sl_in_pairs sl_make sl_fill_in sl_look_over sl_answer_call sl_answers sl_LENGTHS : Array (Option Value)}
    {oc_placed kV_placed dc_placed pm_placed cd_placed ct_placed oc_mark kV_mark dc_mark pm_mark cd_mark ct_mark oc_need_of kV_need_of dc_need_of pm_need_of cd_need_of ct_need_of oc_names_of kV_names_of dc_names_of pm_names_of cd_names_of ct_names_of oc_is_asked kV_is_asked dc_is_asked pm_is_asked cd_is_asked ct_is_asked oc_come_of kV_come_of dc_come_of pm_come_of cd_come_of ct_come_of oc_what_comes kV_what_comes dc_what_comes pm_what_comes cd_what_comes ct_what_comes oc_keep_way kV_keep_way dc_keep_way pm_keep_way cd_keep_way ct_keep_way oc_ways_behind kV_ways_behind dc_ways_behind pm_ways_behind cd_ways_behind ct_ways_behind oc_named_behind kV_named_behind dc_named_behind pm_named_behind cd_named_behind ct_named_behind oc_ways_through kV_ways_through dc_ways_through pm_ways_through cd_ways_through ct_ways_through oc_earliest_row kV_earliest_row dc_earliest_row pm_earliest_row cd_earliest_row ct_earliest_row oc_is_valid_condition kV_is_valid_condition dc_is_valid_condition pm_is_valid_condition cd_is_valid_condition ct_is_valid_condition oc_is_valid_need kV_is_valid_need dc_is_valid_need pm_is_valid_need cd_is_valid_need ct_is_valid_need oc_Form_init kV_Form_init dc_Form_init pm_Form_init cd_Form_init ct_Form_init oc_Form_begin kV_Form_begin dc_Form_begin pm_Form_begin cd_Form_begin ct_Form_begin oc_Form_has_question kV_Form_has_question dc_Form_has_question pm_Form_has_question cd_Form_has_question ct_Form_has_question oc_Form_add_question kV_Form_add_question dc_Form_add_question pm_Form_add_question cd_Form_add_question ct_Form_add_question oc_Form_add_need kV_Form_add_need dc_Form_add_need pm_Form_add_need cd_Form_add_need ct_Form_add_need oc_Form_as_things_are kV_Form_as_things_are dc_Form_as_things_are pm_Form_as_things_are cd_Form_as_things_are ct_Form_as_things_are oc_Form_next_question kV_Form_next_question dc_Form_next_question pm_Form_next_question cd_Form_next_question ct_Form_next_question oc_Form_answer kV_Form_answer dc_Form_answer pm_Form_answer cd_Form_answer ct_Form_answer oc_Form_forget kV_Form_forget dc_Form_forget pm_Form_forget cd_Form_forget ct_Form_forget oc_Form_result kV_Form_result dc_Form_result pm_Form_result cd_Form_result ct_Form_result oc_Form_ways_before kV_Form_ways_before dc_Form_ways_before pm_Form_ways_before cd_Form_ways_before ct_Form_ways_before oc_Form_tell_way kV_Form_tell_way dc_Form_tell_way pm_Form_tell_way cd_Form_tell_way ct_Form_tell_way oc_Form_ever kV_Form_ever dc_Form_ever pm_Form_ever cd_Form_ever ct_Form_ever oc_Form_always kV_Form_always dc_Form_always pm_Form_always cd_Form_always ct_Form_always oc_Form_most kV_Form_most dc_Form_most pm_Form_most cd_Form_most ct_Form_most oc_call_length kV_call_length dc_call_length pm_call_length cd_call_length ct_call_length oc_in_pairs kV_in_pairs dc_in_pairs pm_in_pairs cd_in_pairs ct_in_pairs oc_make kV_make dc_make pm_make cd_make ct_make oc_fill_in kV_fill_in dc_fill_in pm_fill_in cd_fill_in ct_fill_in oc_look_over kV_look_over dc_look_over pm_look_over cd_look_over ct_look_over oc_answer_call kV_answer_call dc_answer_call pm_answer_call cd_answer_call ct_answer_call oc_answers kV_answers dc_answers pm_answers cd_answers ct_answers : Value} {t_MOST_WAYS t_WIDTH t_ALL_BITS t_PASSED_OVER t_WAITING t_NO_QUESTION t_NO_ANSWER t_NOT_ASKED t_NOT_VALID t_NO_ROOM t_TOO_MANY t_MOST_QUESTIONS t_MOST_OPTIONS t_MOST_NEEDS t_MOST_CONDITIONS t_SET_LIMIT t_BEGIN t_QUESTION t_NEED t_NEXT t_ANSWER t_FORGET t_RESULT t_EVER t_ALWAYS t_LENGTHS_0 t_LENGTHS_1 t_LENGTHS_2 t_LENGTHS_3 t_LENGTHS_4 t_LENGTHS_5 t_LENGTHS_6 t_LENGTHS_7 t_LENGTHS_8 t_LENGTHS_9 : Tok} {ne_LENGTHS : Nat}
    (aC_Form : PySem.W.nsIn K mainGlobals "Form" = some (some (.ref C_Form)))
    (a_placed : PySem.W.nsIn K mainGlobals "placed" = some (some (.ref f_placed)))
    (l_placed : K.lookup f_placed = some ⟨oc_placed, od_placed, .func (PySem.W.fnOf "placed" "placed" (defArgs s_placed) (defBody s_placed) (defScope s_placed) .none kV_placed dc_placed pm_placed an_placed cd_placed ct_placed), sl_placed⟩)
    (c_placed : PySem.W.codeIn K cd_placed "placed" = true)
    (k_placed : PySem.W.keepIn K (.ref f_placed) = true)
    (a_mark : PySem.W.nsIn K mainGlobals "mark" = some (some (.ref f_mark)))
    (l_mark : K.lookup f_mark = some ⟨oc_mark, od_mark, .func (PySem.W.fnOf "mark" "mark" (defArgs s_mark) (defBody s_mark) (defScope s_mark) .none kV_mark dc_mark pm_mark an_mark cd_mark ct_mark), sl_mark⟩)
    (c_mark : PySem.W.codeIn K cd_mark "mark" = true)
    (k_mark : PySem.W.keepIn K (.ref f_mark) = true)
    (a_need_of : PySem.W.nsIn K mainGlobals "need_of" = some (some (.ref f_need_of)))
    (l_need_of : K.lookup f_need_of = some ⟨oc_need_of, od_need_of, .func (PySem.W.fnOf "need_of" "need_of" (defArgs s_need_of) (defBody s_need_of) (defScope s_need_of) .none kV_need_of dc_need_of pm_need_of an_need_of cd_need_of ct_need_of), sl_need_of⟩)
    (c_need_of : PySem.W.codeIn K cd_need_of "need_of" = true)
    (k_need_of : PySem.W.keepIn K (.ref f_need_of) = true)
    (a_names_of : PySem.W.nsIn K mainGlobals "names_of" = some (some (.ref f_names_of)))
    (l_names_of : K.lookup f_names_of = some ⟨oc_names_of, od_names_of, .func (PySem.W.fnOf "names_of" "names_of" (defArgs s_names_of) (defBody s_names_of) (defScope s_names_of) .none kV_names_of dc_names_of pm_names_of an_names_of cd_names_of ct_names_of), sl_names_of⟩)
    (c_names_of : PySem.W.codeIn K cd_names_of "names_of" = true)
    (k_names_of : PySem.W.keepIn K (.ref f_names_of) = true)
    (a_is_asked : PySem.W.nsIn K mainGlobals "is_asked" = some (some (.ref f_is_asked)))
    (l_is_asked : K.lookup f_is_asked = some ⟨oc_is_asked, od_is_asked, .func (PySem.W.fnOf "is_asked" "is_asked" (defArgs s_is_asked) (defBody s_is_asked) (defScope s_is_asked) .none kV_is_asked dc_is_asked pm_is_asked an_is_asked cd_is_asked ct_is_asked), sl_is_asked⟩)
    (c_is_asked : PySem.W.codeIn K cd_is_asked "is_asked" = true)
    (k_is_asked : PySem.W.keepIn K (.ref f_is_asked) = true)
    (a_come_of : PySem.W.nsIn K mainGlobals "come_of" = some (some (.ref f_come_of)))
    (l_come_of : K.lookup f_come_of = some ⟨oc_come_of, od_come_of, .func (PySem.W.fnOf "come_of" "come_of" (defArgs s_come_of) (defBody s_come_of) (defScope s_come_of) .none kV_come_of dc_come_of pm_come_of an_come_of cd_come_of ct_come_of), sl_come_of⟩)
    (c_come_of : PySem.W.codeIn K cd_come_of "come_of" = true)
    (k_come_of : PySem.W.keepIn K (.ref f_come_of) = true)
    (a_what_comes : PySem.W.nsIn K mainGlobals "what_comes" = some (some (.ref f_what_comes)))
    (l_what_comes : K.lookup f_what_comes = some ⟨oc_what_comes, od_what_comes, .func (PySem.W.fnOf "what_comes" "what_comes" (defArgs s_what_comes) (defBody s_what_comes) (defScope s_what_comes) .none kV_what_comes dc_what_comes pm_what_comes an_what_comes cd_what_comes ct_what_comes), sl_what_comes⟩)
    (c_what_comes : PySem.W.codeIn K cd_what_comes "what_comes" = true)
    (k_what_comes : PySem.W.keepIn K (.ref f_what_comes) = true)
    (a_keep_way : PySem.W.nsIn K mainGlobals "keep_way" = some (some (.ref f_keep_way)))
    (l_keep_way : K.lookup f_keep_way = some ⟨oc_keep_way, od_keep_way, .func (PySem.W.fnOf "keep_way" "keep_way" (defArgs s_keep_way) (defBody s_keep_way) (defScope s_keep_way) .none kV_keep_way dc_keep_way pm_keep_way an_keep_way cd_keep_way ct_keep_way), sl_keep_way⟩)
    (c_keep_way : PySem.W.codeIn K cd_keep_way "keep_way" = true)
    (k_keep_way : PySem.W.keepIn K (.ref f_keep_way) = true)
    (a_ways_behind : PySem.W.nsIn K mainGlobals "ways_behind" = some (some (.ref f_ways_behind)))
    (l_ways_behind : K.lookup f_ways_behind = some ⟨oc_ways_behind, od_ways_behind, .func (PySem.W.fnOf "ways_behind" "ways_behind" (defArgs s_ways_behind) (defBody s_ways_behind) (defScope s_ways_behind) .none kV_ways_behind dc_ways_behind pm_ways_behind an_ways_behind cd_ways_behind ct_ways_behind), sl_ways_behind⟩)
    (c_ways_behind : PySem.W.codeIn K cd_ways_behind "ways_behind" = true)
    (k_ways_behind : PySem.W.keepIn K (.ref f_ways_behind) = true)
    (a_named_behind : PySem.W.nsIn K mainGlobals "named_behind" = some (some (.ref f_named_behind)))
    (l_named_behind : K.lookup f_named_behind = some ⟨oc_named_behind, od_named_behind, .func (PySem.W.fnOf "named_behind" "named_behind" (defArgs s_named_behind) (defBody s_named_behind) (defScope s_named_behind) .none kV_named_behind dc_named_behind pm_named_behind an_named_behind cd_named_behind ct_named_behind), sl_named_behind⟩)
    (c_named_behind : PySem.W.codeIn K cd_named_behind "named_behind" = true)
    (k_named_behind : PySem.W.keepIn K (.ref f_named_behind) = true)
    (a_ways_through : PySem.W.nsIn K mainGlobals "ways_through" = some (some (.ref f_ways_through)))
    (l_ways_through : K.lookup f_ways_through = some ⟨oc_ways_through, od_ways_through, .func (PySem.W.fnOf "ways_through" "ways_through" (defArgs s_ways_through) (defBody s_ways_through) (defScope s_ways_through) .none kV_ways_through dc_ways_through pm_ways_through an_ways_through cd_ways_through ct_ways_through), sl_ways_through⟩)
    (c_ways_through : PySem.W.codeIn K cd_ways_through "ways_through" = true)
    (k_ways_through : PySem.W.keepIn K (.ref f_ways_through) = true)
    (a_earliest_row : PySem.W.nsIn K mainGlobals "earliest_row" = some (some (.ref f_earliest_row)))
    (l_earliest_row : K.lookup f_earliest_row = some ⟨oc_earliest_row, od_earliest_row, .func (PySem.W.fnOf "earliest_row" "earliest_row" (defArgs s_earliest_row) (defBody s_earliest_row) (defScope s_earliest_row) .none kV_earliest_row dc_earliest_row pm_earliest_row an_earliest_row cd_earliest_row ct_earliest_row), sl_earliest_row⟩)
    (c_earliest_row : PySem.W.codeIn K cd_earliest_row "earliest_row" = true)
    (k_earliest_row : PySem.W.keepIn K (.ref f_earliest_row) = true)
    (a_is_valid_condition : PySem.W.nsIn K mainGlobals "is_valid_condition" = some (some (.ref f_is_valid_condition)))
    (l_is_valid_condition : K.lookup f_is_valid_condition = some ⟨oc_is_valid_condition, od_is_valid_condition, .func (PySem.W.fnOf "is_valid_condition" "is_valid_condition" (defArgs s_is_valid_condition) (defBody s_is_valid_condition) (defScope s_is_valid_condition) .none kV_is_valid_condition dc_is_valid_condition pm_is_valid_condition an_is_valid_condition cd_is_valid_condition ct_is_valid_condition), sl_is_valid_condition⟩)
    (c_is_valid_condition : PySem.W.codeIn K cd_is_valid_condition "is_valid_condition" = true)
    (k_is_valid_condition : PySem.W.keepIn K (.ref f_is_valid_condition) = true)
    (a_is_valid_need : PySem.W.nsIn K mainGlobals "is_valid_need" = some (some (.ref f_is_valid_need)))
    (l_is_valid_need : K.lookup f_is_valid_need = some ⟨oc_is_valid_need, od_is_valid_need, .func (PySem.W.fnOf "is_valid_need" "is_valid_need" (defArgs s_is_valid_need) (defBody s_is_valid_need) (defScope s_is_valid_need) .none kV_is_valid_need dc_is_valid_need pm_is_valid_need an_is_valid_need cd_is_valid_need ct_is_valid_need), sl_is_valid_need⟩)
    (c_is_valid_need : PySem.W.codeIn K cd_is_valid_need "is_valid_need" = true)
    (k_is_valid_need : PySem.W.keepIn K (.ref f_is_valid_need) = true)
    (a_Form_init : PySem.W.findIn K (.ref C_Form) "__init__" = some (some (.ref f_Form_init)))
    (i_Form_init : PySem.W.isFn K (.ref f_Form_init) = true)
    (l_Form_init : K.lookup f_Form_init = some ⟨oc_Form_init, od_Form_init, .func (PySem.W.fnOf "__init__" "Form.__init__" (defArgs s_Form_init) (defBody s_Form_init) (defScope s_Form_init) .none kV_Form_init dc_Form_init pm_Form_init an_Form_init cd_Form_init ct_Form_init), sl_Form_init⟩)
    (c_Form_init : PySem.W.codeIn K cd_Form_init "Form.__init__" = true)
    (k_Form_init : PySem.W.keepIn K (.ref f_Form_init) = true)
    (a_Form_begin : PySem.W.findIn K (.ref C_Form) "begin" = some (some (.ref f_Form_begin)))
    (i_Form_begin : PySem.W.isFn K (.ref f_Form_begin) = true)
    (l_Form_begin : K.lookup f_Form_begin = some ⟨oc_Form_begin, od_Form_begin, .func (PySem.W.fnOf "begin" "Form.begin" (defArgs s_Form_begin) (defBody s_Form_begin) (defScope s_Form_begin) .none kV_Form_begin dc_Form_begin pm_Form_begin an_Form_begin cd_Form_begin ct_Form_begin), sl_Form_begin⟩)
    (c_Form_begin : PySem.W.codeIn K cd_Form_begin "Form.begin" = true)
    (k_Form_begin : PySem.W.keepIn K (.ref f_Form_begin) = true)
    (a_Form_has_question : PySem.W.findIn K (.ref C_Form) "has_question" = some (some (.ref f_Form_has_question)))
    (i_Form_has_question : PySem.W.isFn K (.ref f_Form_has_question) = true)
    (l_Form_has_question : K.lookup f_Form_has_question = some ⟨oc_Form_has_question, od_Form_has_question, .func (PySem.W.fnOf "has_question" "Form.has_question" (defArgs s_Form_has_question) (defBody s_Form_has_question) (defScope s_Form_has_question) .none kV_Form_has_question dc_Form_has_question pm_Form_has_question an_Form_has_question cd_Form_has_question ct_Form_has_question), sl_Form_has_question⟩)
    (c_Form_has_question : PySem.W.codeIn K cd_Form_has_question "Form.has_question" = true)
    (k_Form_has_question : PySem.W.keepIn K (.ref f_Form_has_question) = true)
    (a_Form_add_question : PySem.W.findIn K (.ref C_Form) "add_question" = some (some (.ref f_Form_add_question)))
    (i_Form_add_question : PySem.W.isFn K (.ref f_Form_add_question) = true)
    (l_Form_add_question : K.lookup f_Form_add_question = some ⟨oc_Form_add_question, od_Form_add_question, .func (PySem.W.fnOf "add_question" "Form.add_question" (defArgs s_Form_add_question) (defBody s_Form_add_question) (defScope s_Form_add_question) .none kV_Form_add_question dc_Form_add_question pm_Form_add_question an_Form_add_question cd_Form_add_question ct_Form_add_question), sl_Form_add_question⟩)
    (c_Form_add_question : PySem.W.codeIn K cd_Form_add_question "Form.add_question" = true)
    (k_Form_add_question : PySem.W.keepIn K (.ref f_Form_add_question) = true)
    (a_Form_add_need : PySem.W.findIn K (.ref C_Form) "add_need" = some (some (.ref f_Form_add_need)))
    (i_Form_add_need : PySem.W.isFn K (.ref f_Form_add_need) = true)
    (l_Form_add_need : K.lookup f_Form_add_need = some ⟨oc_Form_add_need, od_Form_add_need, .func (PySem.W.fnOf "add_need" "Form.add_need" (defArgs s_Form_add_need) (defBody s_Form_add_need) (defScope s_Form_add_need) .none kV_Form_add_need dc_Form_add_need pm_Form_add_need an_Form_add_need cd_Form_add_need ct_Form_add_need), sl_Form_add_need⟩)
    (c_Form_add_need : PySem.W.codeIn K cd_Form_add_need "Form.add_need" = true)
    (k_Form_add_need : PySem.W.keepIn K (.ref f_Form_add_need) = true)
    (a_Form_as_things_are : PySem.W.findIn K (.ref C_Form) "as_things_are" = some (some (.ref f_Form_as_things_are)))
    (i_Form_as_things_are : PySem.W.isFn K (.ref f_Form_as_things_are) = true)
    (l_Form_as_things_are : K.lookup f_Form_as_things_are = some ⟨oc_Form_as_things_are, od_Form_as_things_are, .func (PySem.W.fnOf "as_things_are" "Form.as_things_are" (defArgs s_Form_as_things_are) (defBody s_Form_as_things_are) (defScope s_Form_as_things_are) .none kV_Form_as_things_are dc_Form_as_things_are pm_Form_as_things_are an_Form_as_things_are cd_Form_as_things_are ct_Form_as_things_are), sl_Form_as_things_are⟩)
    (c_Form_as_things_are : PySem.W.codeIn K cd_Form_as_things_are "Form.as_things_are" = true)
    (k_Form_as_things_are : PySem.W.keepIn K (.ref f_Form_as_things_are) = true)
    (a_Form_next_question : PySem.W.findIn K (.ref C_Form) "next_question" = some (some (.ref f_Form_next_question)))
    (i_Form_next_question : PySem.W.isFn K (.ref f_Form_next_question) = true)
    (l_Form_next_question : K.lookup f_Form_next_question = some ⟨oc_Form_next_question, od_Form_next_question, .func (PySem.W.fnOf "next_question" "Form.next_question" (defArgs s_Form_next_question) (defBody s_Form_next_question) (defScope s_Form_next_question) .none kV_Form_next_question dc_Form_next_question pm_Form_next_question an_Form_next_question cd_Form_next_question ct_Form_next_question), sl_Form_next_question⟩)
    (c_Form_next_question : PySem.W.codeIn K cd_Form_next_question "Form.next_question" = true)
    (k_Form_next_question : PySem.W.keepIn K (.ref f_Form_next_question) = true)
    (a_Form_answer : PySem.W.findIn K (.ref C_Form) "answer" = some (some (.ref f_Form_answer)))
    (i_Form_answer : PySem.W.isFn K (.ref f_Form_answer) = true)
    (l_Form_answer : K.lookup f_Form_answer = some ⟨oc_Form_answer, od_Form_answer, .func (PySem.W.fnOf "answer" "Form.answer" (defArgs s_Form_answer) (defBody s_Form_answer) (defScope s_Form_answer) .none kV_Form_answer dc_Form_answer pm_Form_answer an_Form_answer cd_Form_answer ct_Form_answer), sl_Form_answer⟩)
    (c_Form_answer : PySem.W.codeIn K cd_Form_answer "Form.answer" = true)
    (k_Form_answer : PySem.W.keepIn K (.ref f_Form_answer) = true)
    (a_Form_forget : PySem.W.findIn K (.ref C_Form) "forget" = some (some (.ref f_Form_forget)))
    (i_Form_forget : PySem.W.isFn K (.ref f_Form_forget) = true)
    (l_Form_forget : K.lookup f_Form_forget = some ⟨oc_Form_forget, od_Form_forget, .func (PySem.W.fnOf "forget" "Form.forget" (defArgs s_Form_forget) (defBody s_Form_forget) (defScope s_Form_forget) .none kV_Form_forget dc_Form_forget pm_Form_forget an_Form_forget cd_Form_forget ct_Form_forget), sl_Form_forget⟩)
    (c_Form_forget : PySem.W.codeIn K cd_Form_forget "Form.forget" = true)
    (k_Form_forget : PySem.W.keepIn K (.ref f_Form_forget) = true)
    (a_Form_result : PySem.W.findIn K (.ref C_Form) "result" = some (some (.ref f_Form_result)))
    (i_Form_result : PySem.W.isFn K (.ref f_Form_result) = true)
    (l_Form_result : K.lookup f_Form_result = some ⟨oc_Form_result, od_Form_result, .func (PySem.W.fnOf "result" "Form.result" (defArgs s_Form_result) (defBody s_Form_result) (defScope s_Form_result) .none kV_Form_result dc_Form_result pm_Form_result an_Form_result cd_Form_result ct_Form_result), sl_Form_result⟩)
    (c_Form_result : PySem.W.codeIn K cd_Form_result "Form.result" = true)
    (k_Form_result : PySem.W.keepIn K (.ref f_Form_result) = true)
    (a_Form_ways_before : PySem.W.findIn K (.ref C_Form) "ways_before" = some (some (.ref f_Form_ways_before)))
    (i_Form_ways_before : PySem.W.isFn K (.ref f_Form_ways_before) = true)
    (l_Form_ways_before : K.lookup f_Form_ways_before = some ⟨oc_Form_ways_before, od_Form_ways_before, .func (PySem.W.fnOf "ways_before" "Form.ways_before" (defArgs s_Form_ways_before) (defBody s_Form_ways_before) (defScope s_Form_ways_before) .none kV_Form_ways_before dc_Form_ways_before pm_Form_ways_before an_Form_ways_before cd_Form_ways_before ct_Form_ways_before), sl_Form_ways_before⟩)
    (c_Form_ways_before : PySem.W.codeIn K cd_Form_ways_before "Form.ways_before" = true)
    (k_Form_ways_before : PySem.W.keepIn K (.ref f_Form_ways_before) = true)
    (a_Form_tell_way : PySem.W.findIn K (.ref C_Form) "tell_way" = some (some (.ref f_Form_tell_way)))
    (i_Form_tell_way : PySem.W.isFn K (.ref f_Form_tell_way) = true)
    (l_Form_tell_way : K.lookup f_Form_tell_way = some ⟨oc_Form_tell_way, od_Form_tell_way, .func (PySem.W.fnOf "tell_way" "Form.tell_way" (defArgs s_Form_tell_way) (defBody s_Form_tell_way) (defScope s_Form_tell_way) .none kV_Form_tell_way dc_Form_tell_way pm_Form_tell_way an_Form_tell_way cd_Form_tell_way ct_Form_tell_way), sl_Form_tell_way⟩)
    (c_Form_tell_way : PySem.W.codeIn K cd_Form_tell_way "Form.tell_way" = true)
    (k_Form_tell_way : PySem.W.keepIn K (.ref f_Form_tell_way) = true)
    (a_Form_ever : PySem.W.findIn K (.ref C_Form) "ever" = some (some (.ref f_Form_ever)))
    (i_Form_ever : PySem.W.isFn K (.ref f_Form_ever) = true)
    (l_Form_ever : K.lookup f_Form_ever = some ⟨oc_Form_ever, od_Form_ever, .func (PySem.W.fnOf "ever" "Form.ever" (defArgs s_Form_ever) (defBody s_Form_ever) (defScope s_Form_ever) .none kV_Form_ever dc_Form_ever pm_Form_ever an_Form_ever cd_Form_ever ct_Form_ever), sl_Form_ever⟩)
    (c_Form_ever : PySem.W.codeIn K cd_Form_ever "Form.ever" = true)
    (k_Form_ever : PySem.W.keepIn K (.ref f_Form_ever) = true)
    (a_Form_always : PySem.W.findIn K (.ref C_Form) "always" = some (some (.ref f_Form_always)))
    (i_Form_always : PySem.W.isFn K (.ref f_Form_always) = true)
    (l_Form_always : K.lookup f_Form_always = some ⟨oc_Form_always, od_Form_always, .func (PySem.W.fnOf "always" "Form.always" (defArgs s_Form_always) (defBody s_Form_always) (defScope s_Form_always) .none kV_Form_always dc_Form_always pm_Form_always an_Form_always cd_Form_always ct_Form_always), sl_Form_always⟩)
    (c_Form_always : PySem.W.codeIn K cd_Form_always "Form.always" = true)
    (k_Form_always : PySem.W.keepIn K (.ref f_Form_always) = true)
    (a_Form_most : PySem.W.findIn K (.ref C_Form) "most" = some (some (.ref f_Form_most)))
    (i_Form_most : PySem.W.isFn K (.ref f_Form_most) = true)
    (l_Form_most : K.lookup f_Form_most = some ⟨oc_Form_most, od_Form_most, .func (PySem.W.fnOf "most" "Form.most" (defArgs s_Form_most) (defBody s_Form_most) (defScope s_Form_most) .none kV_Form_most dc_Form_most pm_Form_most an_Form_most cd_Form_most ct_Form_most), sl_Form_most⟩)
    (c_Form_most : PySem.W.codeIn K cd_Form_most "Form.most" = true)
    (k_Form_most : PySem.W.keepIn K (.ref f_Form_most) = true)
    (a_call_length : PySem.W.nsIn K mainGlobals "call_length" = some (some (.ref f_call_length)))
    (l_call_length : K.lookup f_call_length = some ⟨oc_call_length, od_call_length, .func (PySem.W.fnOf "call_length" "call_length" (defArgs s_call_length) (defBody s_call_length) (defScope s_call_length) .none kV_call_length dc_call_length pm_call_length an_call_length cd_call_length ct_call_length), sl_call_length⟩)
    (c_call_length : PySem.W.codeIn K cd_call_length "call_length" = true)
    (k_call_length : PySem.W.keepIn K (.ref f_call_length) = true)
    (a_in_pairs : PySem.W.nsIn K mainGlobals "in_pairs" = some (some (.ref f_in_pairs)))
    (l_in_pairs : K.lookup f_in_pairs = some ⟨oc_in_pairs, od_in_pairs, .func (PySem.W.fnOf "in_pairs" "in_pairs" (defArgs s_in_pairs) (defBody s_in_pairs) (defScope s_in_pairs) .none kV_in_pairs dc_in_pairs pm_in_pairs an_in_pairs cd_in_pairs ct_in_pairs), sl_in_pairs⟩)
    (c_in_pairs : PySem.W.codeIn K cd_in_pairs "in_pairs" = true)
    (k_in_pairs : PySem.W.keepIn K (.ref f_in_pairs) = true)
    (a_make : PySem.W.nsIn K mainGlobals "make" = some (some (.ref f_make)))
    (l_make : K.lookup f_make = some ⟨oc_make, od_make, .func (PySem.W.fnOf "make" "make" (defArgs s_make) (defBody s_make) (defScope s_make) .none kV_make dc_make pm_make an_make cd_make ct_make), sl_make⟩)
    (c_make : PySem.W.codeIn K cd_make "make" = true)
    (k_make : PySem.W.keepIn K (.ref f_make) = true)
    (a_fill_in : PySem.W.nsIn K mainGlobals "fill_in" = some (some (.ref f_fill_in)))
    (l_fill_in : K.lookup f_fill_in = some ⟨oc_fill_in, od_fill_in, .func (PySem.W.fnOf "fill_in" "fill_in" (defArgs s_fill_in) (defBody s_fill_in) (defScope s_fill_in) .none kV_fill_in dc_fill_in pm_fill_in an_fill_in cd_fill_in ct_fill_in), sl_fill_in⟩)
    (c_fill_in : PySem.W.codeIn K cd_fill_in "fill_in" = true)
    (k_fill_in : PySem.W.keepIn K (.ref f_fill_in) = true)
    (a_look_over : PySem.W.nsIn K mainGlobals "look_over" = some (some (.ref f_look_over)))
    (l_look_over : K.lookup f_look_over = some ⟨oc_look_over, od_look_over, .func (PySem.W.fnOf "look_over" "look_over" (defArgs s_look_over) (defBody s_look_over) (defScope s_look_over) .none kV_look_over dc_look_over pm_look_over an_look_over cd_look_over ct_look_over), sl_look_over⟩)
    (c_look_over : PySem.W.codeIn K cd_look_over "look_over" = true)
    (k_look_over : PySem.W.keepIn K (.ref f_look_over) = true)
    (a_answer_call : PySem.W.nsIn K mainGlobals "answer_call" = some (some (.ref f_answer_call)))
    (l_answer_call : K.lookup f_answer_call = some ⟨oc_answer_call, od_answer_call, .func (PySem.W.fnOf "answer_call" "answer_call" (defArgs s_answer_call) (defBody s_answer_call) (defScope s_answer_call) .none kV_answer_call dc_answer_call pm_answer_call an_answer_call cd_answer_call ct_answer_call), sl_answer_call⟩)
    (c_answer_call : PySem.W.codeIn K cd_answer_call "answer_call" = true)
    (k_answer_call : PySem.W.keepIn K (.ref f_answer_call) = true)
    (a_answers : PySem.W.nsIn K mainGlobals "answers" = some (some (.ref f_answers)))
    (l_answers : K.lookup f_answers = some ⟨oc_answers, od_answers, .func (PySem.W.fnOf "answers" "answers" (defArgs s_answers) (defBody s_answers) (defScope s_answers) .none kV_answers dc_answers pm_answers an_answers cd_answers ct_answers), sl_answers⟩)
    (c_answers : PySem.W.codeIn K cd_answers "answers" = true)
    (k_answers : PySem.W.keepIn K (.ref f_answers) = true)
    (pg_Form : PySem.W.plainGet K C_Form Str.empty = true)
    (hd_Form : PySem.W.hasDictIn K C_Form = true)
    (po_Form : PySem.W.plainOver K C_Form = true)
    (sa_Form : PySem.W.findIn K (.ref C_Form) "__setattr__" = some (some (.builtin "object.__setattr__")))
    (mk_Form : PySem.W.makesIn K C_Form = true)
    (kc_Form : PySem.W.keepIn K (.ref C_Form) = true)
    (n_Form_given : PySem.W.findIn K (.ref C_Form) "given" = some none)
    (n_Form_names : PySem.W.findIn K (.ref C_Form) "names" = some none)
    (n_Form_needs : PySem.W.findIn K (.ref C_Form) "needs" = some none)
    (n_Form_sizes : PySem.W.findIn K (.ref C_Form) "sizes" = some none)
    (n_Form_ways : PySem.W.findIn K (.ref C_Form) "ways" = some none)
    (g_MOST_WAYS : PySem.W.nsIn K mainGlobals "MOST_WAYS" = some (some (.int (300) t_MOST_WAYS)))
    (g_WIDTH : PySem.W.nsIn K mainGlobals "WIDTH" = some (some (.int (9) t_WIDTH)))
    (g_ALL_BITS : PySem.W.nsIn K mainGlobals "ALL_BITS" = some (some (.int (511) t_ALL_BITS)))
    (g_PASSED_OVER : PySem.W.nsIn K mainGlobals "PASSED_OVER" = some (some (.int (8) t_PASSED_OVER)))
    (g_WAITING : PySem.W.nsIn K mainGlobals "WAITING" = some (some (.int (-1) t_WAITING)))
    (g_NO_QUESTION : PySem.W.nsIn K mainGlobals "NO_QUESTION" = some (some (.int (-2) t_NO_QUESTION)))
    (g_NO_ANSWER : PySem.W.nsIn K mainGlobals "NO_ANSWER" = some (some (.int (-6) t_NO_ANSWER)))
    (g_NOT_ASKED : PySem.W.nsIn K mainGlobals "NOT_ASKED" = some (some (.int (-16) t_NOT_ASKED)))
    (g_NOT_VALID : PySem.W.nsIn K mainGlobals "NOT_VALID" = some (some (.int (-22) t_NOT_VALID)))
    (g_NO_ROOM : PySem.W.nsIn K mainGlobals "NO_ROOM" = some (some (.int (-28) t_NO_ROOM)))
    (g_TOO_MANY : PySem.W.nsIn K mainGlobals "TOO_MANY" = some (some (.int (-75) t_TOO_MANY)))
    (g_MOST_QUESTIONS : PySem.W.nsIn K mainGlobals "MOST_QUESTIONS" = some (some (.int (24) t_MOST_QUESTIONS)))
    (g_MOST_OPTIONS : PySem.W.nsIn K mainGlobals "MOST_OPTIONS" = some (some (.int (8) t_MOST_OPTIONS)))
    (g_MOST_NEEDS : PySem.W.nsIn K mainGlobals "MOST_NEEDS" = some (some (.int (4) t_MOST_NEEDS)))
    (g_MOST_CONDITIONS : PySem.W.nsIn K mainGlobals "MOST_CONDITIONS" = some (some (.int (4) t_MOST_CONDITIONS)))
    (g_SET_LIMIT : PySem.W.nsIn K mainGlobals "SET_LIMIT" = some (some (.int (512) t_SET_LIMIT)))
    (g_BEGIN : PySem.W.nsIn K mainGlobals "BEGIN" = some (some (.int (0) t_BEGIN)))
    (g_QUESTION : PySem.W.nsIn K mainGlobals "QUESTION" = some (some (.int (1) t_QUESTION)))
    (g_NEED : PySem.W.nsIn K mainGlobals "NEED" = some (some (.int (2) t_NEED)))
    (g_NEXT : PySem.W.nsIn K mainGlobals "NEXT" = some (some (.int (3) t_NEXT)))
    (g_ANSWER : PySem.W.nsIn K mainGlobals "ANSWER" = some (some (.int (4) t_ANSWER)))
    (g_FORGET : PySem.W.nsIn K mainGlobals "FORGET" = some (some (.int (5) t_FORGET)))
    (g_RESULT : PySem.W.nsIn K mainGlobals "RESULT" = some (some (.int (6) t_RESULT)))
    (g_EVER : PySem.W.nsIn K mainGlobals "EVER" = some (some (.int (7) t_EVER)))
    (g_ALWAYS : PySem.W.nsIn K mainGlobals "ALWAYS" = some (some (.int (8) t_ALWAYS)))
    (g_LENGTHS : PySem.W.nsIn K mainGlobals "LENGTHS" = some (some (.ref a_LENGTHS)))
    (l_LENGTHS : K.lookup a_LENGTHS = some ⟨.type "tuple", od_LENGTHS, .seq #[.int (1) t_LENGTHS_0, .int (2) t_LENGTHS_1, .int (3) t_LENGTHS_2, .int (1) t_LENGTHS_3, .int (3) t_LENGTHS_4, .int (2) t_LENGTHS_5, .int (1) t_LENGTHS_6, .int (2) t_LENGTHS_7, .int (2) t_LENGTHS_8, .int (1) t_LENGTHS_9] ne_LENGTHS, sl_LENGTHS⟩)
    (z_all : PySem.W.nsIn K mainGlobals "all" = some none)
    (z_enumerate : PySem.W.nsIn K mainGlobals "enumerate" = some none)
    (z_len : PySem.W.nsIn K mainGlobals "len" = some none)
    (z_list : PySem.W.nsIn K mainGlobals "list" = some none)
    (z_max : PySem.W.nsIn K mainGlobals "max" = some none)
    (z_range : PySem.W.nsIn K mainGlobals "range" = some none) :
    Known K mg { C_Form := C_Form, f_placed := f_placed, d_placed := PySem.W.fnOf "placed" "placed" (defArgs s_placed) (defBody s_placed) (defScope s_placed) .none kV_placed dc_placed pm_placed an_placed cd_placed ct_placed, f_mark := f_mark, d_mark := PySem.W.fnOf "mark" "mark" (defArgs s_mark) (defBody s_mark) (defScope s_mark) .none kV_mark dc_mark pm_mark an_mark cd_mark ct_mark, f_need_of := f_need_of, d_need_of := PySem.W.fnOf "need_of" "need_of" (defArgs s_need_of) (defBody s_need_of) (defScope s_need_of) .none kV_need_of dc_need_of pm_need_of an_need_of cd_need_of ct_need_of, f_names_of := f_names_of, d_names_of := PySem.W.fnOf "names_of" "names_of" (defArgs s_names_of) (defBody s_names_of) (defScope s_names_of) .none kV_names_of dc_names_of pm_names_of an_names_of cd_names_of ct_names_of, f_is_asked := f_is_asked, d_is_asked := PySem.W.fnOf "is_asked" "is_asked" (defArgs s_is_asked) (defBody s_is_asked) (defScope s_is_asked) .none kV_is_asked dc_is_asked pm_is_asked an_is_asked cd_is_asked ct_is_asked, f_come_of := f_come_of, d_come_of := PySem.W.fnOf "come_of" "come_of" (defArgs s_come_of) (defBody s_come_of) (defScope s_come_of) .none kV_come_of dc_come_of pm_come_of an_come_of cd_come_of ct_come_of, f_what_comes := f_what_comes, d_what_comes := PySem.W.fnOf "what_comes" "what_comes" (defArgs s_what_comes) (defBody s_what_comes) (defScope s_what_comes) .none kV_what_comes dc_what_comes pm_what_comes an_what_comes cd_what_comes ct_what_comes, f_keep_way := f_keep_way, d_keep_way := PySem.W.fnOf "keep_way" "keep_way" (defArgs s_keep_way) (defBody s_keep_way) (defScope s_keep_way) .none kV_keep_way dc_keep_way pm_keep_way an_keep_way cd_keep_way ct_keep_way, f_ways_behind := f_ways_behind, d_ways_behind := PySem.W.fnOf "ways_behind" "ways_behind" (defArgs s_ways_behind) (defBody s_ways_behind) (defScope s_ways_behind) .none kV_ways_behind dc_ways_behind pm_ways_behind an_ways_behind cd_ways_behind ct_ways_behind, f_named_behind := f_named_behind, d_named_behind := PySem.W.fnOf "named_behind" "named_behind" (defArgs s_named_behind) (defBody s_named_behind) (defScope s_named_behind) .none kV_named_behind dc_named_behind pm_named_behind an_named_behind cd_named_behind ct_named_behind, f_ways_through := f_ways_through, d_ways_through := PySem.W.fnOf "ways_through" "ways_through" (defArgs s_ways_through) (defBody s_ways_through) (defScope s_ways_through) .none kV_ways_through dc_ways_through pm_ways_through an_ways_through cd_ways_through ct_ways_through, f_earliest_row := f_earliest_row, d_earliest_row := PySem.W.fnOf "earliest_row" "earliest_row" (defArgs s_earliest_row) (defBody s_earliest_row) (defScope s_earliest_row) .none kV_earliest_row dc_earliest_row pm_earliest_row an_earliest_row cd_earliest_row ct_earliest_row, f_is_valid_condition := f_is_valid_condition, d_is_valid_condition := PySem.W.fnOf "is_valid_condition" "is_valid_condition" (defArgs s_is_valid_condition) (defBody s_is_valid_condition) (defScope s_is_valid_condition) .none kV_is_valid_condition dc_is_valid_condition pm_is_valid_condition an_is_valid_condition cd_is_valid_condition ct_is_valid_condition, f_is_valid_need := f_is_valid_need, d_is_valid_need := PySem.W.fnOf "is_valid_need" "is_valid_need" (defArgs s_is_valid_need) (defBody s_is_valid_need) (defScope s_is_valid_need) .none kV_is_valid_need dc_is_valid_need pm_is_valid_need an_is_valid_need cd_is_valid_need ct_is_valid_need, f_Form_init := f_Form_init, d_Form_init := PySem.W.fnOf "__init__" "Form.__init__" (defArgs s_Form_init) (defBody s_Form_init) (defScope s_Form_init) .none kV_Form_init dc_Form_init pm_Form_init an_Form_init cd_Form_init ct_Form_init, f_Form_begin := f_Form_begin, d_Form_begin := PySem.W.fnOf "begin" "Form.begin" (defArgs s_Form_begin) (defBody s_Form_begin) (defScope s_Form_begin) .none kV_Form_begin dc_Form_begin pm_Form_begin an_Form_begin cd_Form_begin ct_Form_begin, f_Form_has_question := f_Form_has_question, d_Form_has_question := PySem.W.fnOf "has_question" "Form.has_question" (defArgs s_Form_has_question) (defBody s_Form_has_question) (defScope s_Form_has_question) .none kV_Form_has_question dc_Form_has_question pm_Form_has_question an_Form_has_question cd_Form_has_question ct_Form_has_question, f_Form_add_question := f_Form_add_question, d_Form_add_question := PySem.W.fnOf "add_question" "Form.add_question" (defArgs s_Form_add_question) (defBody s_Form_add_question) (defScope s_Form_add_question) .none kV_Form_add_question dc_Form_add_question pm_Form_add_question an_Form_add_question cd_Form_add_question ct_Form_add_question, f_Form_add_need := f_Form_add_need, d_Form_add_need := PySem.W.fnOf "add_need" "Form.add_need" (defArgs s_Form_add_need) (defBody s_Form_add_need) (defScope s_Form_add_need) .none kV_Form_add_need dc_Form_add_need pm_Form_add_need an_Form_add_need cd_Form_add_need ct_Form_add_need, f_Form_as_things_are := f_Form_as_things_are, d_Form_as_things_are := PySem.W.fnOf "as_things_are" "Form.as_things_are" (defArgs s_Form_as_things_are) (defBody s_Form_as_things_are) (defScope s_Form_as_things_are) .none kV_Form_as_things_are dc_Form_as_things_are pm_Form_as_things_are an_Form_as_things_are cd_Form_as_things_are ct_Form_as_things_are, f_Form_next_question := f_Form_next_question, d_Form_next_question := PySem.W.fnOf "next_question" "Form.next_question" (defArgs s_Form_next_question) (defBody s_Form_next_question) (defScope s_Form_next_question) .none kV_Form_next_question dc_Form_next_question pm_Form_next_question an_Form_next_question cd_Form_next_question ct_Form_next_question, f_Form_answer := f_Form_answer, d_Form_answer := PySem.W.fnOf "answer" "Form.answer" (defArgs s_Form_answer) (defBody s_Form_answer) (defScope s_Form_answer) .none kV_Form_answer dc_Form_answer pm_Form_answer an_Form_answer cd_Form_answer ct_Form_answer, f_Form_forget := f_Form_forget, d_Form_forget := PySem.W.fnOf "forget" "Form.forget" (defArgs s_Form_forget) (defBody s_Form_forget) (defScope s_Form_forget) .none kV_Form_forget dc_Form_forget pm_Form_forget an_Form_forget cd_Form_forget ct_Form_forget, f_Form_result := f_Form_result, d_Form_result := PySem.W.fnOf "result" "Form.result" (defArgs s_Form_result) (defBody s_Form_result) (defScope s_Form_result) .none kV_Form_result dc_Form_result pm_Form_result an_Form_result cd_Form_result ct_Form_result, f_Form_ways_before := f_Form_ways_before, d_Form_ways_before := PySem.W.fnOf "ways_before" "Form.ways_before" (defArgs s_Form_ways_before) (defBody s_Form_ways_before) (defScope s_Form_ways_before) .none kV_Form_ways_before dc_Form_ways_before pm_Form_ways_before an_Form_ways_before cd_Form_ways_before ct_Form_ways_before, f_Form_tell_way := f_Form_tell_way, d_Form_tell_way := PySem.W.fnOf "tell_way" "Form.tell_way" (defArgs s_Form_tell_way) (defBody s_Form_tell_way) (defScope s_Form_tell_way) .none kV_Form_tell_way dc_Form_tell_way pm_Form_tell_way an_Form_tell_way cd_Form_tell_way ct_Form_tell_way, f_Form_ever := f_Form_ever, d_Form_ever := PySem.W.fnOf "ever" "Form.ever" (defArgs s_Form_ever) (defBody s_Form_ever) (defScope s_Form_ever) .none kV_Form_ever dc_Form_ever pm_Form_ever an_Form_ever cd_Form_ever ct_Form_ever, f_Form_always := f_Form_always, d_Form_always := PySem.W.fnOf "always" "Form.always" (defArgs s_Form_always) (defBody s_Form_always) (defScope s_Form_always) .none kV_Form_always dc_Form_always pm_Form_always an_Form_always cd_Form_always ct_Form_always, f_Form_most := f_Form_most, d_Form_most := PySem.W.fnOf "most" "Form.most" (defArgs s_Form_most) (defBody s_Form_most) (defScope s_Form_most) .none kV_Form_most dc_Form_most pm_Form_most an_Form_most cd_Form_most ct_Form_most, f_call_length := f_call_length, d_call_length := PySem.W.fnOf "call_length" "call_length" (defArgs s_call_length) (defBody s_call_length) (defScope s_call_length) .none kV_call_length dc_call_length pm_call_length an_call_length cd_call_length ct_call_length, f_in_pairs := f_in_pairs, d_in_pairs := PySem.W.fnOf "in_pairs" "in_pairs" (defArgs s_in_pairs) (defBody s_in_pairs) (defScope s_in_pairs) .none kV_in_pairs dc_in_pairs pm_in_pairs an_in_pairs cd_in_pairs ct_in_pairs, f_make := f_make, d_make := PySem.W.fnOf "make" "make" (defArgs s_make) (defBody s_make) (defScope s_make) .none kV_make dc_make pm_make an_make cd_make ct_make, f_fill_in := f_fill_in, d_fill_in := PySem.W.fnOf "fill_in" "fill_in" (defArgs s_fill_in) (defBody s_fill_in) (defScope s_fill_in) .none kV_fill_in dc_fill_in pm_fill_in an_fill_in cd_fill_in ct_fill_in, f_look_over := f_look_over, d_look_over := PySem.W.fnOf "look_over" "look_over" (defArgs s_look_over) (defBody s_look_over) (defScope s_look_over) .none kV_look_over dc_look_over pm_look_over an_look_over cd_look_over ct_look_over, f_answer_call := f_answer_call, d_answer_call := PySem.W.fnOf "answer_call" "answer_call" (defArgs s_answer_call) (defBody s_answer_call) (defScope s_answer_call) .none kV_answer_call dc_answer_call pm_answer_call an_answer_call cd_answer_call ct_answer_call, f_answers := f_answers, d_answers := PySem.W.fnOf "answers" "answers" (defArgs s_answers) (defBody s_answers) (defScope s_answers) .none kV_answers dc_answers pm_answers an_answers cd_answers ct_answers, a_LENGTHS := a_LENGTHS } := by
  have F_placed := fun_mk (st := s_placed) l_placed c_placed k_placed
  have F_mark := fun_mk (st := s_mark) l_mark c_mark k_mark
  have F_need_of := fun_mk (st := s_need_of) l_need_of c_need_of k_need_of
  have F_names_of := fun_mk (st := s_names_of) l_names_of c_names_of k_names_of
  have F_is_asked := fun_mk (st := s_is_asked) l_is_asked c_is_asked k_is_asked
  have F_come_of := fun_mk (st := s_come_of) l_come_of c_come_of k_come_of
  have F_what_comes := fun_mk (st := s_what_comes) l_what_comes c_what_comes k_what_comes
  have F_keep_way := fun_mk (st := s_keep_way) l_keep_way c_keep_way k_keep_way
  have F_ways_behind := fun_mk (st := s_ways_behind) l_ways_behind c_ways_behind k_ways_behind
  have F_named_behind := fun_mk (st := s_named_behind) l_named_behind c_named_behind k_named_behind
  have F_ways_through := fun_mk (st := s_ways_through) l_ways_through c_ways_through k_ways_through
  have F_earliest_row := fun_mk (st := s_earliest_row) l_earliest_row c_earliest_row k_earliest_row
  have F_is_valid_condition := fun_mk (st := s_is_valid_condition) l_is_valid_condition c_is_valid_condition k_is_valid_condition
  have F_is_valid_need := fun_mk (st := s_is_valid_need) l_is_valid_need c_is_valid_need k_is_valid_need
  have F_Form_init := fun_mk (st := s_Form_init) l_Form_init c_Form_init k_Form_init
  have F_Form_begin := fun_mk (st := s_Form_begin) l_Form_begin c_Form_begin k_Form_begin
  have F_Form_has_question := fun_mk (st := s_Form_has_question) l_Form_has_question c_Form_has_question k_Form_has_question
  have F_Form_add_question := fun_mk (st := s_Form_add_question) l_Form_add_question c_Form_add_question k_Form_add_question
  have F_Form_add_need := fun_mk (st := s_Form_add_need) l_Form_add_need c_Form_add_need k_Form_add_need
  have F_Form_as_things_are := fun_mk (st := s_Form_as_things_are) l_Form_as_things_are c_Form_as_things_are k_Form_as_things_are
  have F_Form_next_question := fun_mk (st := s_Form_next_question) l_Form_next_question c_Form_next_question k_Form_next_question
  have F_Form_answer := fun_mk (st := s_Form_answer) l_Form_answer c_Form_answer k_Form_answer
  have F_Form_forget := fun_mk (st := s_Form_forget) l_Form_forget c_Form_forget k_Form_forget
  have F_Form_result := fun_mk (st := s_Form_result) l_Form_result c_Form_result k_Form_result
  have F_Form_ways_before := fun_mk (st := s_Form_ways_before) l_Form_ways_before c_Form_ways_before k_Form_ways_before
  have F_Form_tell_way := fun_mk (st := s_Form_tell_way) l_Form_tell_way c_Form_tell_way k_Form_tell_way
  have F_Form_ever := fun_mk (st := s_Form_ever) l_Form_ever c_Form_ever k_Form_ever
  have F_Form_always := fun_mk (st := s_Form_always) l_Form_always c_Form_always k_Form_always
  have F_Form_most := fun_mk (st := s_Form_most) l_Form_most c_Form_most k_Form_most
  have F_call_length := fun_mk (st := s_call_length) l_call_length c_call_length k_call_length
  have F_in_pairs := fun_mk (st := s_in_pairs) l_in_pairs c_in_pairs k_in_pairs
  have F_make := fun_mk (st := s_make) l_make c_make k_make
  have F_fill_in := fun_mk (st := s_fill_in) l_fill_in c_fill_in k_fill_in
  have F_look_over := fun_mk (st := s_look_over) l_look_over c_look_over k_look_over
  have F_answer_call := fun_mk (st := s_answer_call) l_answer_call c_answer_call k_answer_call
  have F_answers := fun_mk (st := s_answers) l_answers c_answers k_answers
  exact {
    cl_Form := ⟨pg_Form, hd_Form, po_Form, sa_Form⟩
    mg_Form := PySem.W.mg_of X G aC_Form
    mk_Form := ⟨mk_Form, a_Form_init, i_Form_init, kc_Form⟩
    n_Form_given := n_Form_given
    n_Form_names := n_Form_names
    n_Form_needs := n_Form_needs
    n_Form_sizes := n_Form_sizes
    n_Form_ways := n_Form_ways
    F_placed := F_placed
    b_placed := F_placed.binds (ps := ["question", "bits"]) fun _ _ _ _ _ _ us hl => match us, hl with | [_, _], _ => rfl
    m_placed := PySem.W.mg_of X G a_placed
    F_mark := F_mark
    b_mark := F_mark.binds (ps := ["question", "come"]) fun _ _ _ _ _ _ us hl => match us, hl with | [_, _], _ => rfl
    m_mark := PySem.W.mg_of X G a_mark
    F_need_of := F_need_of
    b_need_of := F_need_of.binds (ps := ["conditions"]) fun _ _ _ _ _ _ us hl => match us, hl with | [_], _ => rfl
    m_need_of := PySem.W.mg_of X G a_need_of
    F_names_of := F_names_of
    b_names_of := F_names_of.binds (ps := ["conditions"]) fun _ _ _ _ _ _ us hl => match us, hl with | [_], _ => rfl
    m_names_of := PySem.W.mg_of X G a_names_of
    F_is_asked := F_is_asked
    b_is_asked := F_is_asked.binds (ps := ["needs", "row"]) fun _ _ _ _ _ _ us hl => match us, hl with | [_, _], _ => rfl
    m_is_asked := PySem.W.mg_of X G a_is_asked
    F_come_of := F_come_of
    b_come_of := F_come_of.binds (ps := ["question", "row"]) fun _ _ _ _ _ _ us hl => match us, hl with | [_, _], _ => rfl
    m_come_of := PySem.W.mg_of X G a_come_of
    F_what_comes := F_what_comes
    b_what_comes := F_what_comes.binds (ps := ["row", "count"]) fun _ _ _ _ _ _ us hl => match us, hl with | [_, _], _ => rfl
    m_what_comes := PySem.W.mg_of X G a_what_comes
    F_keep_way := F_keep_way
    b_keep_way := F_keep_way.binds (ps := ["alike", "row", "asked", "named"]) fun _ _ _ _ _ _ us hl => match us, hl with | [_, _, _, _], _ => rfl
    m_keep_way := PySem.W.mg_of X G a_keep_way
    F_ways_behind := F_ways_behind
    b_ways_behind := F_ways_behind.binds (ps := ["ways", "question", "size", "needs", "named"]) fun _ _ _ _ _ _ us hl => match us, hl with | [_, _, _, _, _], _ => rfl
    m_ways_behind := PySem.W.mg_of X G a_ways_behind
    F_named_behind := F_named_behind
    b_named_behind := F_named_behind.binds (ps := ["names", "question"]) fun _ _ _ _ _ _ us hl => match us, hl with | [_, _], _ => rfl
    m_named_behind := PySem.W.mg_of X G a_named_behind
    F_ways_through := F_ways_through
    b_ways_through := F_ways_through.binds (ps := ["sizes", "needs", "names"]) fun _ _ _ _ _ _ us hl => match us, hl with | [_, _, _], _ => rfl
    m_ways_through := PySem.W.mg_of X G a_ways_through
    F_earliest_row := F_earliest_row
    b_earliest_row := F_earliest_row.binds (ps := ["ways", "needs", "wanted"]) fun _ _ _ _ _ _ us hl => match us, hl with | [_, _, _], _ => rfl
    m_earliest_row := PySem.W.mg_of X G a_earliest_row
    F_is_valid_condition := F_is_valid_condition
    b_is_valid_condition := F_is_valid_condition.binds (ps := ["condition", "question"]) fun _ _ _ _ _ _ us hl => match us, hl with | [_, _], _ => rfl
    m_is_valid_condition := PySem.W.mg_of X G a_is_valid_condition
    F_is_valid_need := F_is_valid_need
    b_is_valid_need := F_is_valid_need.binds (ps := ["conditions", "question"]) fun _ _ _ _ _ _ us hl => match us, hl with | [_, _], _ => rfl
    m_is_valid_need := PySem.W.mg_of X G a_is_valid_need
    F_Form_init := F_Form_init
    b_Form_init := F_Form_init.binds (ps := ["self"]) fun _ _ _ _ _ _ us hl => match us, hl with | [_], _ => rfl
    F_Form_begin := F_Form_begin
    b_Form_begin := F_Form_begin.binds (ps := ["self"]) fun _ _ _ _ _ _ us hl => match us, hl with | [_], _ => rfl
    m_Form_begin := ⟨a_Form_begin, i_Form_begin, k_Form_begin⟩
    F_Form_has_question := F_Form_has_question
    b_Form_has_question := F_Form_has_question.binds (ps := ["self", "question"]) fun _ _ _ _ _ _ us hl => match us, hl with | [_, _], _ => rfl
    m_Form_has_question := ⟨a_Form_has_question, i_Form_has_question, k_Form_has_question⟩
    F_Form_add_question := F_Form_add_question
    b_Form_add_question := F_Form_add_question.binds (ps := ["self", "size"]) fun _ _ _ _ _ _ us hl => match us, hl with | [_, _], _ => rfl
    m_Form_add_question := ⟨a_Form_add_question, i_Form_add_question, k_Form_add_question⟩
    F_Form_add_need := F_Form_add_need
    b_Form_add_need := F_Form_add_need.binds (ps := ["self", "question", "conditions"]) fun _ _ _ _ _ _ us hl => match us, hl with | [_, _, _], _ => rfl
    m_Form_add_need := ⟨a_Form_add_need, i_Form_add_need, k_Form_add_need⟩
    F_Form_as_things_are := F_Form_as_things_are
    b_Form_as_things_are := F_Form_as_things_are.binds (ps := ["self"]) fun _ _ _ _ _ _ us hl => match us, hl with | [_], _ => rfl
    m_Form_as_things_are := ⟨a_Form_as_things_are, i_Form_as_things_are, k_Form_as_things_are⟩
    F_Form_next_question := F_Form_next_question
    b_Form_next_question := F_Form_next_question.binds (ps := ["self"]) fun _ _ _ _ _ _ us hl => match us, hl with | [_], _ => rfl
    m_Form_next_question := ⟨a_Form_next_question, i_Form_next_question, k_Form_next_question⟩
    F_Form_answer := F_Form_answer
    b_Form_answer := F_Form_answer.binds (ps := ["self", "question", "option"]) fun _ _ _ _ _ _ us hl => match us, hl with | [_, _, _], _ => rfl
    m_Form_answer := ⟨a_Form_answer, i_Form_answer, k_Form_answer⟩
    F_Form_forget := F_Form_forget
    b_Form_forget := F_Form_forget.binds (ps := ["self", "question"]) fun _ _ _ _ _ _ us hl => match us, hl with | [_, _], _ => rfl
    m_Form_forget := ⟨a_Form_forget, i_Form_forget, k_Form_forget⟩
    F_Form_result := F_Form_result
    b_Form_result := F_Form_result.binds (ps := ["self"]) fun _ _ _ _ _ _ us hl => match us, hl with | [_], _ => rfl
    m_Form_result := ⟨a_Form_result, i_Form_result, k_Form_result⟩
    F_Form_ways_before := F_Form_ways_before
    b_Form_ways_before := F_Form_ways_before.binds (ps := ["self", "count"]) fun _ _ _ _ _ _ us hl => match us, hl with | [_, _], _ => rfl
    m_Form_ways_before := ⟨a_Form_ways_before, i_Form_ways_before, k_Form_ways_before⟩
    F_Form_tell_way := F_Form_tell_way
    b_Form_tell_way := F_Form_tell_way.binds (ps := ["self", "question", "asked"]) fun _ _ _ _ _ _ us hl => match us, hl with | [_, _, _], _ => rfl
    m_Form_tell_way := ⟨a_Form_tell_way, i_Form_tell_way, k_Form_tell_way⟩
    F_Form_ever := F_Form_ever
    b_Form_ever := F_Form_ever.binds (ps := ["self", "question"]) fun _ _ _ _ _ _ us hl => match us, hl with | [_, _], _ => rfl
    m_Form_ever := ⟨a_Form_ever, i_Form_ever, k_Form_ever⟩
    F_Form_always := F_Form_always
    b_Form_always := F_Form_always.binds (ps := ["self", "question"]) fun _ _ _ _ _ _ us hl => match us, hl with | [_, _], _ => rfl
    m_Form_always := ⟨a_Form_always, i_Form_always, k_Form_always⟩
    F_Form_most := F_Form_most
    b_Form_most := F_Form_most.binds (ps := ["self"]) fun _ _ _ _ _ _ us hl => match us, hl with | [_], _ => rfl
    m_Form_most := ⟨a_Form_most, i_Form_most, k_Form_most⟩
    F_call_length := F_call_length
    b_call_length := F_call_length.binds (ps := ["calls", "start"]) fun _ _ _ _ _ _ us hl => match us, hl with | [_, _], _ => rfl
    m_call_length := PySem.W.mg_of X G a_call_length
    F_in_pairs := F_in_pairs
    b_in_pairs := F_in_pairs.binds (ps := ["numbers"]) fun _ _ _ _ _ _ us hl => match us, hl with | [_], _ => rfl
    m_in_pairs := PySem.W.mg_of X G a_in_pairs
    F_make := F_make
    b_make := F_make.binds (ps := ["form", "call"]) fun _ _ _ _ _ _ us hl => match us, hl with | [_, _], _ => rfl
    m_make := PySem.W.mg_of X G a_make
    F_fill_in := F_fill_in
    b_fill_in := F_fill_in.binds (ps := ["form", "call"]) fun _ _ _ _ _ _ us hl => match us, hl with | [_, _], _ => rfl
    m_fill_in := PySem.W.mg_of X G a_fill_in
    F_look_over := F_look_over
    b_look_over := F_look_over.binds (ps := ["form", "call"]) fun _ _ _ _ _ _ us hl => match us, hl with | [_, _], _ => rfl
    m_look_over := PySem.W.mg_of X G a_look_over
    F_answer_call := F_answer_call
    b_answer_call := F_answer_call.binds (ps := ["form", "call"]) fun _ _ _ _ _ _ us hl => match us, hl with | [_, _], _ => rfl
    m_answer_call := PySem.W.mg_of X G a_answer_call
    F_answers := F_answers
    b_answers := F_answers.binds (ps := ["calls"]) fun _ _ _ _ _ _ us hl => match us, hl with | [_], _ => rfl
    m_answers := PySem.W.mg_of X G a_answers
    g_MOST_WAYS := ⟨_, PySem.W.mg_of X G g_MOST_WAYS⟩
    g_WIDTH := ⟨_, PySem.W.mg_of X G g_WIDTH⟩
    g_ALL_BITS := ⟨_, PySem.W.mg_of X G g_ALL_BITS⟩
    g_PASSED_OVER := ⟨_, PySem.W.mg_of X G g_PASSED_OVER⟩
    g_WAITING := ⟨_, PySem.W.mg_of X G g_WAITING⟩
    g_NO_QUESTION := ⟨_, PySem.W.mg_of X G g_NO_QUESTION⟩
    g_NO_ANSWER := ⟨_, PySem.W.mg_of X G g_NO_ANSWER⟩
    g_NOT_ASKED := ⟨_, PySem.W.mg_of X G g_NOT_ASKED⟩
    g_NOT_VALID := ⟨_, PySem.W.mg_of X G g_NOT_VALID⟩
    g_NO_ROOM := ⟨_, PySem.W.mg_of X G g_NO_ROOM⟩
    g_TOO_MANY := ⟨_, PySem.W.mg_of X G g_TOO_MANY⟩
    g_MOST_QUESTIONS := ⟨_, PySem.W.mg_of X G g_MOST_QUESTIONS⟩
    g_MOST_OPTIONS := ⟨_, PySem.W.mg_of X G g_MOST_OPTIONS⟩
    g_MOST_NEEDS := ⟨_, PySem.W.mg_of X G g_MOST_NEEDS⟩
    g_MOST_CONDITIONS := ⟨_, PySem.W.mg_of X G g_MOST_CONDITIONS⟩
    g_SET_LIMIT := ⟨_, PySem.W.mg_of X G g_SET_LIMIT⟩
    g_BEGIN := ⟨_, PySem.W.mg_of X G g_BEGIN⟩
    g_QUESTION := ⟨_, PySem.W.mg_of X G g_QUESTION⟩
    g_NEED := ⟨_, PySem.W.mg_of X G g_NEED⟩
    g_NEXT := ⟨_, PySem.W.mg_of X G g_NEXT⟩
    g_ANSWER := ⟨_, PySem.W.mg_of X G g_ANSWER⟩
    g_FORGET := ⟨_, PySem.W.mg_of X G g_FORGET⟩
    g_RESULT := ⟨_, PySem.W.mg_of X G g_RESULT⟩
    g_EVER := ⟨_, PySem.W.mg_of X G g_EVER⟩
    g_ALWAYS := ⟨_, PySem.W.mg_of X G g_ALWAYS⟩
    g_LENGTHS := PySem.W.mg_of X G g_LENGTHS
    t_LENGTHS := fun H => .inr ⟨_, _, _, l_LENGTHS, rfl, rfl, (by show 10 ≤ sizeLine; decide), .cons ⟨_, rfl⟩ (.cons ⟨_, rfl⟩ (.cons ⟨_, rfl⟩ (.cons ⟨_, rfl⟩ (.cons ⟨_, rfl⟩ (.cons ⟨_, rfl⟩ (.cons ⟨_, rfl⟩ (.cons ⟨_, rfl⟩ (.cons ⟨_, rfl⟩ (.cons ⟨_, rfl⟩ .nil)))))))))⟩
    z_all := PySem.W.mg_none_of X G z_all
    z_enumerate := PySem.W.mg_none_of X G z_enumerate
    z_len := PySem.W.mg_none_of X G z_len
    z_list := PySem.W.mg_none_of X G z_list
    z_max := PySem.W.mg_none_of X G z_max
    z_range := PySem.W.mg_none_of X G z_range }
end Aj
end
section
set_option Elab.async false
set_option maxRecDepth 100000
set_option maxHeartbeats 4000000
namespace Aj
open PySem PySem.Spec PyProof.Rows L2
theorem entry {P : Program} {w : World} {K : PySem.W.Frag} {mg : Str → Option Value} {fa : Addr} {D : Defs} (T : Known K mg D) (hfa : mg "answers" = some (.ref fa)) :
    ∃ fd : FuncData, (∀ (s : Shared) (us : List Value), us.length = (["calls"] : List Str).length → BindsTo s fd ⟨us, []⟩ ((["calls"] : List Str).zip us)) ∧ ∀ base : Heap, K.In base → base.Ns mainGlobals mg → FnOk P w K mg base CX0 10 fa fd ["calls"] (spAll K) := by
  have e := hfa.symm.trans T.m_answers
  cases e
  refine ⟨D.d_answers, fun s us hu => ?_, fun base _ _ => ok_all T⟩
  obtain ⟨oc, od, kV, doc, pm, an, cdv, ct, osl, e, _, _⟩ := T.F_answers.ex
  rw [e]
  exact match us, hu with | [_], _ => .of_eq rfl
end Aj
open PySem PySem.W PyProof.Rows
set_option maxRecDepth 100000 in
set_option maxHeartbeats 0 in
theorem PySem.Challenge.cw_askedjust_s01_answers_holds : PySem.Challenge.rw_askedjust_s01_answers.Holds := by
  w_on; k_headS; (case hw => exact ⟨[.list [.int 0]], by decide +kernel, by decide +kernel⟩)
  k_fillS
  refine L2.walk_specK (r := PySem.Challenge.rw_askedjust_s01_answers) (k := 10) (CX := L2.CX0) (ps := ["calls"]) (sp := Aj.spAll) (by decide +kernel) rfl rfl ⟨rfl, by decide, by decide⟩ (fun w h Y => PySem.W.kIn_of Y) ?F ?S (fun _ _ _ _ z => z)
  case F =>
    intro w mg fa h Y KX G hmg
    refine' Aj.entry (Aj.known_mk KX G ?aC_Form ?a_placed ?l_placed ?c_placed ?k_placed ?a_mark ?l_mark ?c_mark ?k_mark ?a_need_of ?l_need_of ?c_need_of ?k_need_of ?a_names_of ?l_names_of ?c_names_of ?k_names_of ?a_is_asked ?l_is_asked ?c_is_asked ?k_is_asked ?a_come_of ?l_come_of ?c_come_of ?k_come_of ?a_what_comes ?l_what_comes ?c_what_comes ?k_what_comes ?a_keep_way ?l_keep_way ?c_keep_way ?k_keep_way ?a_ways_behind ?l_ways_behind ?c_ways_behind ?k_ways_behind ?a_named_behind ?l_named_behind ?c_named_behind ?k_named_behind ?a_ways_through ?l_ways_through ?c_ways_through ?k_ways_through ?a_earliest_row ?l_earliest_row ?c_earliest_row ?k_earliest_row ?a_is_valid_condition ?l_is_valid_condition ?c_is_valid_condition ?k_is_valid_condition ?a_is_valid_need ?l_is_valid_need ?c_is_valid_need ?k_is_valid_need ?a_Form_init ?i_Form_init ?l_Form_init ?c_Form_init ?k_Form_init ?a_Form_begin ?i_Form_begin ?l_Form_begin ?c_Form_begin ?k_Form_begin ?a_Form_has_question ?i_Form_has_question ?l_Form_has_question ?c_Form_has_question ?k_Form_has_question ?a_Form_add_question ?i_Form_add_question ?l_Form_add_question ?c_Form_add_question ?k_Form_add_question ?a_Form_add_need ?i_Form_add_need ?l_Form_add_need ?c_Form_add_need ?k_Form_add_need ?a_Form_as_things_are ?i_Form_as_things_are ?l_Form_as_things_are ?c_Form_as_things_are ?k_Form_as_things_are ?a_Form_next_question ?i_Form_next_question ?l_Form_next_question ?c_Form_next_question ?k_Form_next_question ?a_Form_answer ?i_Form_answer ?l_Form_answer ?c_Form_answer ?k_Form_answer ?a_Form_forget ?i_Form_forget ?l_Form_forget ?c_Form_forget ?k_Form_forget ?a_Form_result ?i_Form_result ?l_Form_result ?c_Form_result ?k_Form_result ?a_Form_ways_before ?i_Form_ways_before ?l_Form_ways_before ?c_Form_ways_before ?k_Form_ways_before ?a_Form_tell_way ?i_Form_tell_way ?l_Form_tell_way ?c_Form_tell_way ?k_Form_tell_way ?a_Form_ever ?i_Form_ever ?l_Form_ever ?c_Form_ever ?k_Form_ever ?a_Form_always ?i_Form_always ?l_Form_always ?c_Form_always ?k_Form_always ?a_Form_most ?i_Form_most ?l_Form_most ?c_Form_most ?k_Form_most ?a_call_length ?l_call_length ?c_call_length ?k_call_length ?a_in_pairs ?l_in_pairs ?c_in_pairs ?k_in_pairs ?a_make ?l_make ?c_make ?k_make ?a_fill_in ?l_fill_in ?c_fill_in ?k_fill_in ?a_look_over ?l_look_over ?c_look_over ?k_look_over ?a_answer_call ?l_answer_call ?c_answer_call ?k_answer_call ?a_answers ?l_answers ?c_answers ?k_answers ?pg_Form ?hd_Form ?po_Form ?sa_Form ?mk_Form ?kc_Form ?n_Form_given ?n_Form_names ?n_Form_needs ?n_Form_sizes ?n_Form_ways ?g_MOST_WAYS ?g_WIDTH ?g_ALL_BITS ?g_PASSED_OVER ?g_WAITING ?g_NO_QUESTION ?g_NO_ANSWER ?g_NOT_ASKED ?g_NOT_VALID ?g_NO_ROOM ?g_TOO_MANY ?g_MOST_QUESTIONS ?g_MOST_OPTIONS ?g_MOST_NEEDS ?g_MOST_CONDITIONS ?g_SET_LIMIT ?g_BEGIN ?g_QUESTION ?g_NEED ?g_NEXT ?g_ANSWER ?g_FORGET ?g_RESULT ?g_EVER ?g_ALWAYS ?g_LENGTHS ?l_LENGTHS ?z_all ?z_enumerate ?z_len ?z_list ?z_max ?z_range) hmg
    (case aC_Form => k_is)
    (case a_placed => k_is)
    (case l_placed => k_is)
    (case c_placed => k_is)
    (case k_placed => k_is)
    (case a_mark => k_is)
    (case l_mark => k_is)
    (case c_mark => k_is)
    (case k_mark => k_is)
    (case a_need_of => k_is)
    (case l_need_of => k_is)
    (case c_need_of => k_is)
    (case k_need_of => k_is)
    (case a_names_of => k_is)
    (case l_names_of => k_is)
    (case c_names_of => k_is)
    (case k_names_of => k_is)
    (case a_is_asked => k_is)
    (case l_is_asked => k_is)
    (case c_is_asked => k_is)
    (case k_is_asked => k_is)
    (case a_come_of => k_is)
    (case l_come_of => k_is)
    (case c_come_of => k_is)
    (case k_come_of => k_is)
    (case a_what_comes => k_is)
    (case l_what_comes => k_is)
    (case c_what_comes => k_is)
    (case k_what_comes => k_is)
    (case a_keep_way => k_is)
    (case l_keep_way => k_is)
    (case c_keep_way => k_is)
    (case k_keep_way => k_is)
    (case a_ways_behind => k_is)
    (case l_ways_behind => k_is)
    (case c_ways_behind => k_is)
    (case k_ways_behind => k_is)
    (case a_named_behind => k_is)
    (case l_named_behind => k_is)
    (case c_named_behind => k_is)
    (case k_named_behind => k_is)
    (case a_ways_through => k_is)
    (case l_ways_through => k_is)
    (case c_ways_through => k_is)
    (case k_ways_through => k_is)
    (case a_earliest_row => k_is)
    (case l_earliest_row => k_is)
    (case c_earliest_row => k_is)
    (case k_earliest_row => k_is)
    (case a_is_valid_condition => k_is)
    (case l_is_valid_condition => k_is)
    (case c_is_valid_condition => k_is)
    (case k_is_valid_condition => k_is)
    (case a_is_valid_need => k_is)
    (case l_is_valid_need => k_is)
    (case c_is_valid_need => k_is)
    (case k_is_valid_need => k_is)
    (case a_Form_init => k_is)
    (case i_Form_init => k_is)
    (case l_Form_init => k_is)
    (case c_Form_init => k_is)
    (case k_Form_init => k_is)
    (case a_Form_begin => k_is)
    (case i_Form_begin => k_is)
    (case l_Form_begin => k_is)
    (case c_Form_begin => k_is)
    (case k_Form_begin => k_is)
    (case a_Form_has_question => k_is)
    (case i_Form_has_question => k_is)
    (case l_Form_has_question => k_is)
    (case c_Form_has_question => k_is)
    (case k_Form_has_question => k_is)
    (case a_Form_add_question => k_is)
    (case i_Form_add_question => k_is)
    (case l_Form_add_question => k_is)
    (case c_Form_add_question => k_is)
    (case k_Form_add_question => k_is)
    (case a_Form_add_need => k_is)
    (case i_Form_add_need => k_is)
    (case l_Form_add_need => k_is)
    (case c_Form_add_need => k_is)
    (case k_Form_add_need => k_is)
    (case a_Form_as_things_are => k_is)
    (case i_Form_as_things_are => k_is)
    (case l_Form_as_things_are => k_is)
    (case c_Form_as_things_are => k_is)
    (case k_Form_as_things_are => k_is)
    (case a_Form_next_question => k_is)
    (case i_Form_next_question => k_is)
    (case l_Form_next_question => k_is)
    (case c_Form_next_question => k_is)
    (case k_Form_next_question => k_is)
    (case a_Form_answer => k_is)
    (case i_Form_answer => k_is)
    (case l_Form_answer => k_is)
    (case c_Form_answer => k_is)
    (case k_Form_answer => k_is)
    (case a_Form_forget => k_is)
    (case i_Form_forget => k_is)
    (case l_Form_forget => k_is)
    (case c_Form_forget => k_is)
    (case k_Form_forget => k_is)
    (case a_Form_result => k_is)
    (case i_Form_result => k_is)
    (case l_Form_result => k_is)
    (case c_Form_result => k_is)
    (case k_Form_result => k_is)
    (case a_Form_ways_before => k_is)
    (case i_Form_ways_before => k_is)
    (case l_Form_ways_before => k_is)
    (case c_Form_ways_before => k_is)
    (case k_Form_ways_before => k_is)
    (case a_Form_tell_way => k_is)
    (case i_Form_tell_way => k_is)
    (case l_Form_tell_way => k_is)
    (case c_Form_tell_way => k_is)
    (case k_Form_tell_way => k_is)
    (case a_Form_ever => k_is)
    (case i_Form_ever => k_is)
    (case l_Form_ever => k_is)
    (case c_Form_ever => k_is)
    (case k_Form_ever => k_is)
    (case a_Form_always => k_is)
    (case i_Form_always => k_is)
    (case l_Form_always => k_is)
    (case c_Form_always => k_is)
    (case k_Form_always => k_is)
    (case a_Form_most => k_is)
    (case i_Form_most => k_is)
    (case l_Form_most => k_is)
    (case c_Form_most => k_is)
    (case k_Form_most => k_is)
    (case a_call_length => k_is)
    (case l_call_length => k_is)
    (case c_call_length => k_is)
    (case k_call_length => k_is)
    (case a_in_pairs => k_is)
    (case l_in_pairs => k_is)
    (case c_in_pairs => k_is)
    (case k_in_pairs => k_is)
    (case a_make => k_is)
    (case l_make => k_is)
    (case c_make => k_is)
    (case k_make => k_is)
    (case a_fill_in => k_is)
    (case l_fill_in => k_is)
    (case c_fill_in => k_is)
    (case k_fill_in => k_is)
    (case a_look_over => k_is)
    (case l_look_over => k_is)
    (case c_look_over => k_is)
    (case k_look_over => k_is)
    (case a_answer_call => k_is)
    (case l_answer_call => k_is)
    (case c_answer_call => k_is)
    (case k_answer_call => k_is)
    (case a_answers => k_is)
    (case l_answers => k_is)
    (case c_answers => k_is)
    (case k_answers => k_is)
    (case pg_Form => k_is)
    (case hd_Form => k_is)
    (case po_Form => k_is)
    (case sa_Form => k_is)
    (case mk_Form => k_is)
    (case kc_Form => k_is)
    (case n_Form_given => k_is)
    (case n_Form_names => k_is)
    (case n_Form_needs => k_is)
    (case n_Form_sizes => k_is)
    (case n_Form_ways => k_is)
    (case g_MOST_WAYS => k_is)
    (case g_WIDTH => k_is)
    (case g_ALL_BITS => k_is)
    (case g_PASSED_OVER => k_is)
    (case g_WAITING => k_is)
    (case g_NO_QUESTION => k_is)
    (case g_NO_ANSWER => k_is)
    (case g_NOT_ASKED => k_is)
    (case g_NOT_VALID => k_is)
    (case g_NO_ROOM => k_is)
    (case g_TOO_MANY => k_is)
    (case g_MOST_QUESTIONS => k_is)
    (case g_MOST_OPTIONS => k_is)
    (case g_MOST_NEEDS => k_is)
    (case g_MOST_CONDITIONS => k_is)
    (case g_SET_LIMIT => k_is)
    (case g_BEGIN => k_is)
    (case g_QUESTION => k_is)
    (case g_NEED => k_is)
    (case g_NEXT => k_is)
    (case g_ANSWER => k_is)
    (case g_FORGET => k_is)
    (case g_RESULT => k_is)
    (case g_EVER => k_is)
    (case g_ALWAYS => k_is)
    (case g_LENGTHS => k_is)
    (case l_LENGTHS => k_is)
    (case z_all => k_is)
    (case z_enumerate => k_is)
    (case z_len => k_is)
    (case z_list => k_is)
    (case z_max => k_is)
    (case z_range => k_is)
  case S =>
    intro K H xs a hO hwi hask hx
    cases hx with
    | cons h1 h2 =>
      cases h2
      cases h1 with
      | lst hs ha =>
        have e := L2.ints_dw a.1 _ ha
        subst e
        obtain ⟨cs, hR, h300, hb, hA, ho⟩ := Aj.asked_reads (ns := a.1) hask
        refine ⟨_, a.1, cs, rfl, hs, hR, h300, hA, fun H' p hp => ?_⟩
        rw [← Aj.start_any hb, ← ho] at hp
        exact .lst (L2.SqL.of hp) (L2.dw_ints _)
#print axioms PySem.Challenge.cw_askedjust_s01_answers_holds
end
