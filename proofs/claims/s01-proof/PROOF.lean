import PyProof.Rows.All
import Wide.All
import OpenK.AllK
import Wide.FinOn
import PyProof.EqAt
import PyProof.EqKinds
import PyProof.TupleCall
import HandS.ForSpec
import HandS.Comp
import HandS.Dict
import HandS.Iter
import HandS.Walk
import HandS.Zip
import KE.GoesNew
import Open.SpecLaws
import KE.OsHead
import KE.OsGo
import HandS.SetFor
import PySem.Challenge.RW_houselot_s01_answers
set_option linter.all false
set_option Elab.async false
set_option maxRecDepth 100000
set_option maxHeartbeats 2000000
/-! # A. The mirror: each def of the program as a total function over lists of whole numbers -/
namespace Hl
def housed (a : List Int) : Int := (a.length : Int) - (a.count (-1) : Nat)
def taken (ns : List Int) : List Int := ns.filter fun h => h != -1
def isAsg (ps : List (List Int)) (ns : List Int) : Bool :=
  decide (ns.length = ps.length) && (decide (taken ns).Nodup && (ns.zip ps).all fun q => q.1 == -1 || q.2.contains q.1)
def srt (xs : List Int) : List Int := xs.mergeSort fun a b => decide (a ≤ b)
def offers (hs : List Int) : List Int := srt hs ++ [-1]
def fits (b : List Int) (h : Int) : Bool := h == -1 || !b.contains h
def ext (b os : List Int) : List (List Int) := (os.filter (fits b)).map fun h => b ++ [h]
def level (found : List (List Int)) (hs : List Int) : List (List Int) := found.flatMap fun b => ext b (offers hs)
def allAsg (ps : List (List Int)) : List (List Int) := ps.foldl level [[]]
def firstsOf (ps : List (List Int)) : List Int := ps.map fun hs => hs.headD (-1)
def othersOf (fs hs : List Int) : List Int := hs.filter fun h => !fs.contains h
def secondsOf (ps : List (List Int)) : List Int := ps.map fun hs => (othersOf (firstsOf ps) hs).headD (-1)
def agree (fs ss a : List Int) : Bool :=
  ((a.zip (fs.zip ss)).all fun q => q.1 == q.2.1 || q.1 == q.2.2) && fs.all fun f => f == -1 || a.contains f
def popular (ps : List (List Int)) : List (List Int) := (allAsg ps).filter (agree (firstsOf ps) (secondsOf ps))
def rankOf (hs : List Int) (h : Int) : Int := if h = -1 then (hs.length : Int) else (hs.idxOf h : Nat)
def voteOf (hs : List Int) (h o : Int) : Int := if rankOf hs h < rankOf hs o then 1 else if rankOf hs o < rankOf hs h then -1 else 0
def won (ps : List (List Int)) (a b : List Int) (i : Nat) : Bool := decide (0 < voteOf (ps.getD i []) (a.getD i 0) (b.getD i 0))
def votesN (ps : List (List Int)) (a b : List Int) (n : Nat) : Nat := ((List.range n).filter (won ps a b)).length
def votesOf (ps : List (List Int)) (a b : List Int) : Int := (votesN ps a b ps.length : Nat)
/-- the weighted votes of applicant i for the house h against the lottery -/
def wv (hs : List Int) (i : Nat) (lot : List (Int × List Int)) (h : Int) : Int := (lot.map fun e => e.1 * voteOf hs h (e.2.getD i 0)).sum
def wmN (ps : List (List Int)) (lot : List (Int × List Int)) (a : List Int) (n : Nat) : Int :=
  ((List.range n).map fun i => wv (ps.getD i []) i lot (a.getD i 0)).sum
def wm (ps : List (List Int)) (lot : List (Int × List Int)) (a : List Int) : Int := wmN ps lot a a.length
/-- c is the first of L with the greatest score g -/
def IsMax {α : Type} (s : α → Int) (L : List α) (g : Int) (c : α) : Prop :=
  ∃ j : Nat, L[j]? = some c ∧ s c = g ∧ (∀ (k : Nat) (x : α), k < j → L[k]? = some x → s x ≠ g) ∧ ∀ x ∈ L, s x ≤ g
/-- the first of the greatest, by going through -/
def bestFrom {α : Type} (s : α → Int) : Option α → List α → Option α :=
  List.foldl fun best b => match best with
    | none => some b
    | some c => if s c < s b then some b else some c
def chal (ps : List (List Int)) (lot : List (Int × List Int)) : Int × List Int :=
  let c := (bestFrom (wm ps lot) none (allAsg ps)).getD []
  (wm ps lot c, c)
def facGo {α : Type} (w l : α → Int) : Int → Int → List α → Option (Int × Int)
  | n, d, [] => some (n, d)
  | n, d, b :: r => if 0 < w b ∧ l b = 0 then none else if n * l b < w b * d then facGo w l (w b) (l b) r else facGo w l n d r
def low (n d : Int) : Int × Int := (n / (Int.gcd n d : Nat), d / (Int.gcd n d : Nat))
def factor (ps : List (List Int)) (a : List Int) : Option (Int × Int) :=
  match facGo (fun b => votesOf ps b a) (fun b => votesOf ps a b) 0 1 (allAsg ps) with
  | none => none
  | some (n, d) => some (low n d)
/-! ### the market -/
structure M where
  tot : Int
  ps : List (List Int)
  cur : List Int
  lot : List (Int × List Int)
def M.fresh (n m : Int) : M := ⟨m, List.replicate n.toNat [], List.replicate n.toNat (-1), []⟩
def M.has (s : M) (i : Int) : Bool := decide (0 ≤ i) && decide (i < (s.ps.length : Int))
def inTot (tot h : Int) : Bool := decide (0 ≤ h) && decide (h < tot)
def isPref (tot : Int) (hs : List Int) : Bool := hs.all (inTot tot) && decide hs.Nodup
def M.setPref (s : M) (i : Int) (hs : List Int) : List Int × M :=
  if s.has i = false then ([-2], s) else if isPref s.tot hs = false then ([-22], s)
  else ([(hs.length : Int)], { s with ps := s.ps.set i.toNat hs, cur := List.replicate s.ps.length (-1), lot := [] })
def M.assign (s : M) (i h : Int) : List Int × M :=
  if s.has i = false then ([-2], s) else if (s.ps.getD i.toNat []).contains h = false then ([-22], s)
  else if (s.cur.contains h && s.cur.getD i.toNat 0 != h) = true then ([-17], s)
  else ([housed (s.cur.set i.toNat h)], { s with cur := s.cur.set i.toNat h })
def M.unassign (s : M) (i : Int) : List Int × M :=
  if s.has i = false then ([-2], s) else if s.cur.getD i.toNat 0 = -1 then ([-6], s)
  else ([s.cur.getD i.toNat 0], { s with cur := s.cur.set i.toNat (-1) })
def M.setAsg (s : M) (a : List Int) : List Int × M :=
  if isAsg s.ps a = false then ([-22], s) else ([housed a], { s with cur := a })
def M.assignment (s : M) : List Int := housed s.cur :: s.cur
def M.compare (s : M) (a : List Int) : List Int :=
  if isAsg s.ps a = false then [-22] else [votesOf s.ps s.cur a, votesOf s.ps a s.cur]
def M.isPop (s : M) : List Int := [if 0 < (chal s.ps [(1, s.cur)]).1 then 0 else 1]
def M.strongest (s : M) : List Int := (s.ps.length : Int) :: (chal s.ps [(1, s.cur)]).1 :: (chal s.ps [(1, s.cur)]).2
def M.unpop (s : M) : List Int := match factor s.ps s.cur with
  | none => [-33]
  | some (n, d) => [0, n, d]
def M.countAsg (s : M) : List Int := [((allAsg s.ps).length : Int), ((popular s.ps).length : Int)]
def M.popAsg (s : M) (k : Int) : List Int :=
  if (decide (0 ≤ k) && decide (k < ((popular s.ps).length : Int))) = false then [-2]
  else housed ((popular s.ps).getD k.toNat []) :: (popular s.ps).getD k.toNat []
def M.useFirst (s : M) : List Int × M := match popular s.ps with
  | [] => ([-33], s)
  | a :: _ => ([housed a], { s with cur := a })
def M.choices (s : M) (i : Int) : List Int :=
  if s.has i = false then [-2] else [2, (firstsOf s.ps).getD i.toNat 0, (secondsOf s.ps).getD i.toNat 0]
def M.check (s : M) : List Int := [if agree (firstsOf s.ps) (secondsOf s.ps) s.cur = true then 1 else 0]
def M.total (s : M) : Int := (s.lot.map (·.1)).sum
def M.addLot (s : M) (w : Int) : List Int × M :=
  if (decide (1 ≤ w) && decide (w ≤ 99)) = false then ([-22], s) else if 12 ≤ s.lot.length then ([-28], s)
  else ([((s.lot ++ [(w, s.cur)]).map (·.1)).sum], { s with lot := s.lot ++ [(w, s.cur)] })
def M.evalLot (s : M) : List Int :=
  if s.lot = [] then [-6]
  else (if 0 < (chal s.ps s.lot).1 then 0 else 1) :: (low (chal s.ps s.lot).1 s.total).1 :: (low (chal s.ps s.lot).1 s.total).2 :: (chal s.ps s.lot).2
def M.clear (s : M) : List Int × M := ([(s.lot.length : Int)], { s with lot := [] })
def M.describe (s : M) : List Int := (s.ps.length : Int) :: s.tot :: s.ps.flatMap fun hs => (hs.length : Int) :: hs
/-! ### the desk -/
abbrev Tri := Int × List Int × List Int
def isChange (c : Int) : Bool := [1, 2, 3, 4, 12, 15, 17].contains c
def M.change (s : M) (c : Int) (ns row : List Int) : List Int × M :=
  if c = 1 then s.setPref (ns.getD 0 0) row else if c = 2 then s.assign (ns.getD 0 0) (ns.getD 1 0)
  else if c = 3 then s.unassign (ns.getD 0 0) else if c = 4 then s.setAsg row
  else if c = 12 then s.useFirst else if c = 15 then s.addLot (ns.getD 0 0) else s.clear
def M.ask (s : M) (c : Int) (ns row : List Int) : List Int :=
  if c = 5 then s.assignment else if c = 6 then s.compare row else if c = 7 then s.isPop else if c = 8 then s.strongest
  else if c = 9 then s.unpop else if c = 10 then s.countAsg else if c = 11 then s.popAsg (ns.getD 0 0)
  else if c = 13 then s.choices (ns.getD 0 0) else if c = 14 then s.check else if c = 16 then s.evalLot else s.describe
def create (o : Option M) (n m : Int) : List Int × Option M :=
  if (decide (1 ≤ n) && decide (n ≤ 5)) = false ∨ (decide (1 ≤ m) && decide (m ≤ 5)) = false then ([-22], o) else ([0], some (M.fresh n m))
def step (o : Option M) (t : Tri) : List Int × Option M :=
  if t.1 = 0 then create o (t.2.1.getD 0 0) (t.2.1.getD 1 0)
  else match o with
    | none => ([-11], none)
    | some s => if isChange t.1 then ((s.change t.1 t.2.1 t.2.2).1, some (s.change t.1 t.2.1 t.2.2).2) else (s.ask t.1 t.2.1 t.2.2, some s)
def played : Option M → List Tri → List (List Int)
  | _, [] => []
  | o, t :: r => (step o t).1 :: played (step o t).2 r
end Hl
/-! # B. The specification's own mathematics: which lists are assignments, ranks, and popularity by first and second choices -/
namespace Hl
open Sr92 (Market Assignment applicantCount preferencesOf houseOf assignmentsFrom assignments isAssignment firstChoice firstChoices secondChoice isCharacterized)

structure WF (t : Market) : Prop where
  nd : ∀ w ∈ t.preferences, w.Nodup
  lt : ∀ w ∈ t.preferences, ∀ h ∈ w, h < t.houseCount

theorem getD_mem {α : Type} {l : List α} {i : Nat} {d : α} (h : i < l.length) : l.getD i d ∈ l := by
  rw [List.getD_eq_getElem?_getD, List.getElem?_eq_getElem h]
  exact List.getElem_mem h
theorem WF.nd' {t : Market} (W : WF t) (i : Nat) : (preferencesOf t i).Nodup := by
  unfold preferencesOf
  by_cases h : i < t.preferences.length
  · exact W.nd _ (getD_mem h)
  · rw [List.getD_eq_getElem?_getD, List.getElem?_eq_none (by omega)]
    exact List.nodup_nil
theorem WF.lt' {t : Market} (W : WF t) (i : Nat) {h : Nat} (hh : h ∈ preferencesOf t i) : h < t.houseCount := by
  unfold preferencesOf at hh
  by_cases k : i < t.preferences.length
  · exact W.lt _ (getD_mem k) h hh
  · rw [List.getD_eq_getElem?_getD, List.getElem?_eq_none (by omega)] at hh
    cases hh

/-! ### the list of all assignments -/
def OkA (m : Nat) : List (List Nat) → List Nat → List Nat → Prop
  | [], _, [] => True
  | w :: ps, used, h :: a => (h = m ∨ (h < m ∧ h ∈ w ∧ h ∉ used)) ∧ OkA m ps (if h = m then used else h :: used) a
  | [], _, _ :: _ => False
  | _ :: _, _, [] => False
theorem mem_from (t : Market) : ∀ (ps : List (List Nat)) (used a : List Nat), a ∈ assignmentsFrom t ps used ↔ OkA t.houseCount ps used a
  | [], used, [] => by simp [assignmentsFrom, OkA]
  | [], used, h :: a => by simp [assignmentsFrom, OkA]
  | w :: ps, used, [] => by
    simp only [assignmentsFrom, OkA, List.mem_flatMap, List.mem_map]
    constructor
    · rintro ⟨_, _, _, _, h⟩; cases h
    · exact False.elim
  | w :: ps, used, h :: a => by
    simp only [assignmentsFrom, OkA, List.mem_flatMap, List.mem_map]
    constructor
    · rintro ⟨x, hx, y, hy, e⟩
      cases e
      refine ⟨?_, (mem_from t ps _ a).mp hy⟩
      rcases List.mem_append.mp hx with q | q
      · have q2 := List.mem_filter.mp q
        refine .inr ⟨List.mem_range.mp q2.1, ?_, ?_⟩
        · have := q2.2
          simp at this
          exact this.1
        · have := q2.2
          simp at this
          exact this.2
      · exact .inl (List.mem_singleton.mp q)
    · rintro ⟨h1, h2⟩
      refine ⟨h, ?_, a, (mem_from t ps _ a).mpr h2, rfl⟩
      rcases h1 with q | ⟨q1, q2, q3⟩
      · exact List.mem_append.mpr (.inr (List.mem_singleton.mpr q))
      · refine List.mem_append.mpr (.inl (List.mem_filter.mpr ⟨List.mem_range.mpr q1, ?_⟩))
        simp [q2, q3]
theorem okA_iff (m : Nat) : ∀ (ps : List (List Nat)) (used a : List Nat), OkA m ps used a ↔ a.length = ps.length ∧
    (∀ i, i < ps.length → a.getD i m = m ∨ (a.getD i m < m ∧ a.getD i m ∈ ps.getD i [] ∧ a.getD i m ∉ used)) ∧
    (∀ i k, i < k → k < ps.length → a.getD i m = m ∨ a.getD i m ≠ a.getD k m)
  | [], used, [] => by simp [OkA]
  | [], used, h :: a => by simp [OkA]
  | w :: ps, used, [] => by simp [OkA]
  | w :: ps, used, h :: a => by
    simp only [OkA, okA_iff m ps]
    constructor
    · rintro ⟨h0, hl, h1, h2⟩
      refine ⟨by simp [hl], fun i hi => ?_, fun i k hik hk => ?_⟩
      · cases i with
        | zero => exact h0
        | succ i =>
          have hi' : i < ps.length := by simpa using hi
          rcases h1 i hi' with q | ⟨q1, q2, q3⟩
          · exact .inl q
          · refine .inr ⟨q1, q2, fun z => q3 ?_⟩
            by_cases hm : h = m
            · rw [if_pos hm]; exact z
            · rw [if_neg hm]; exact List.mem_cons_of_mem _ z
      · cases k with
        | zero => omega
        | succ k =>
          have hk' : k < ps.length := by simpa using hk
          cases i with
          | zero =>
            show h = m ∨ h ≠ a.getD k m
            by_cases hm : h = m
            · exact .inl hm
            · refine .inr fun e => ?_
              rcases h1 k hk' with q | ⟨q1, q2, q3⟩
              · exact hm (e.trans q)
              · rw [if_neg hm] at q3
                exact q3 (by rw [← e]; exact List.mem_cons_self ..)
          | succ i => exact h2 i k (by omega) hk'
    · rintro ⟨hl, h1, h2⟩
      have hl' : a.length = ps.length := by simpa using hl
      refine ⟨h1 0 (by simp), hl', fun i hi => ?_, fun i k hik hk => ?_⟩
      · have c := h1 (i + 1) (by simpa using hi)
        have d := h2 0 (i + 1) (by omega) (by simpa using hi)
        rcases c with q | ⟨q1, q2, q3⟩
        · exact .inl q
        · refine .inr ⟨q1, q2, fun z => ?_⟩
          by_cases hm : h = m
          · rw [if_pos hm] at z; exact q3 z
          · rw [if_neg hm] at z
            rcases List.mem_cons.mp z with e | e
            · rcases d with d | d
              · exact hm d
              · exact d e.symm
            · exact q3 e
      · exact h2 (i + 1) (k + 1) (by omega) (by simpa using hk)

structure IsA (t : Market) (a : Assignment) : Prop where
  len : a.length = applicantCount t
  acc : ∀ i, i < applicantCount t → houseOf t a i = t.houseCount ∨ houseOf t a i ∈ preferencesOf t i
  inj : ∀ i k, i < applicantCount t → k < applicantCount t → i ≠ k → houseOf t a i ≠ t.houseCount → houseOf t a i ≠ houseOf t a k
theorem isA_iff {t : Market} {a : Assignment} : isAssignment t a = true ↔ IsA t a := by
  unfold isAssignment
  simp only [Bool.and_eq_true, decide_eq_true_eq, List.all_eq_true, List.mem_range, Bool.or_eq_true, beq_iff_eq, List.contains_iff_mem, bne_iff_ne, ne_eq]
  constructor
  · rintro ⟨h1, h2, h3⟩
    refine ⟨h1, h2, fun i k hi hk hne hm => ?_⟩
    rcases h3 i hi k hk with (q | q) | q
    · exact absurd q hne
    · exact absurd q hm
    · exact q
  · rintro ⟨h1, h2, h3⟩
    refine ⟨h1, h2, fun i hi k hk => ?_⟩
    by_cases e : i = k
    · exact .inl (.inl e)
    · by_cases q : houseOf t a i = t.houseCount
      · exact .inl (.inr q)
      · exact .inr (h3 i k hi hk e q)
theorem mem_asg {t : Market} (W : WF t) {a : Assignment} : a ∈ assignments t ↔ IsA t a := by
  unfold assignments
  rw [mem_from, okA_iff]
  constructor
  · rintro ⟨h1, h2, h3⟩
    refine ⟨h1, fun i hi => ?_, fun i k hi hk hne hm => ?_⟩
    · rcases h2 i hi with q | q
      · exact .inl q
      · exact .inr q.2.1
    · rcases Nat.lt_or_gt_of_ne hne with q | q
      · rcases h3 i k q hk with r | r
        · exact absurd r hm
        · exact r
      · rcases h3 k i q hi with r | r
        · intro e
          exact hm (e.trans r)
        · exact fun e => r e.symm
  · intro A
    refine ⟨A.len, fun i hi => ?_, fun i k hik hk => ?_⟩
    · rcases A.acc i hi with q | q
      · exact .inl q
      · exact .inr ⟨W.lt' i q, q, List.not_mem_nil⟩
    · by_cases q : houseOf t a i = t.houseCount
      · exact .inl q
      · exact .inr (A.inj i k (Nat.lt_trans hik hk) hk (by omega) q)

/-! ### ranks -/
def rankL (w : List Nat) (h : Nat) : Nat := (w.findIdx? fun x => x == h).getD w.length
theorem rank_eq (t : Market) (i h : Nat) : Sr92.rank t i h = rankL (preferencesOf t i) h := rfl
theorem rankL_idx (w : List Nat) (h : Nat) : rankL w h = w.idxOf h := by
  unfold rankL List.idxOf
  by_cases e : ∃ x ∈ w, (x == h) = true
  · have q : (w.findIdx (fun x => x == h)) < w.length := List.findIdx_lt_length.mpr e
    have : w.findIdx? (fun x => x == h) = some (w.findIdx fun x => x == h) := List.findIdx?_eq_some_of_exists e
    rw [this] <;> rfl
  · have : w.findIdx? (fun x => x == h) = none := by
      rw [List.findIdx?_eq_none_iff]
      intro x hx
      cases hb : (x == h) with
      | false => rfl
      | true => exact absurd ⟨x, hx, hb⟩ e
    rw [this]
    symm
    exact List.findIdx_eq_length.mpr fun x hx => by
      cases hb : (x == h) with
      | false => rfl
      | true => exact absurd ⟨x, hx, hb⟩ e
theorem rankL_cons (x : Nat) (w : List Nat) (h : Nat) : rankL (x :: w) h = if x = h then 0 else rankL w h + 1 := by
  rw [rankL_idx, rankL_idx, List.idxOf_cons]
  by_cases e : x = h
  · simp [e]
  · have : (x == h) = false := by simpa using e
    simp [e, this]
theorem rankL_le (w : List Nat) (h : Nat) : rankL w h ≤ w.length := by
  rw [rankL_idx]; exact List.idxOf_le_length
theorem rankL_mem {w : List Nat} {h : Nat} (hm : h ∈ w) : rankL w h < w.length := by
  rw [rankL_idx]; exact List.idxOf_lt_length_iff.mpr hm
theorem rankL_not {w : List Nat} {h : Nat} (hm : h ∉ w) : rankL w h = w.length := by
  have a := rankL_le w h
  have b : ¬ rankL w h < w.length := by rw [rankL_idx]; exact fun z => hm (List.idxOf_lt_length_iff.mp z)
  omega
theorem rankL_lt_mem {w : List Nat} {h k : Nat} (hl : rankL w h < rankL w k) : h ∈ w := by
  have := rankL_le w k
  have q : rankL w h < w.length := by omega
  rw [rankL_idx] at q
  exact List.idxOf_lt_length_iff.mp q
theorem rankL_inj {h k : Nat} : ∀ {w : List Nat}, h ∈ w → rankL w h = rankL w k → h = k
  | [], hm, _ => by cases hm
  | x :: w, hm, e => by
    rw [rankL_cons, rankL_cons] at e
    by_cases e1 : x = h
    · rw [if_pos e1] at e
      by_cases e2 : x = k
      · exact e1.symm.trans e2
      · rw [if_neg e2] at e; omega
    · rw [if_neg e1] at e
      by_cases e2 : x = k
      · rw [if_pos e2] at e; omega
      · rw [if_neg e2] at e
        have hm' : h ∈ w := by
          rcases List.mem_cons.mp hm with q | q
          · exact absurd q.symm e1
          · exact q
        exact rankL_inj hm' (by omega)
/-- the head has rank 0 -/
theorem rankL_head {w : List Nat} {d : Nat} (hne : w ≠ []) : rankL w (w.headD d) = 0 := by
  cases w with
  | nil => exact absurd rfl hne
  | cons x w => rw [rankL_cons]; exact if_pos rfl
/-- what find? passes over -/
theorem find_before {p : Nat → Bool} {d h : Nat} : ∀ {w : List Nat}, h ∈ w → rankL w h < rankL w ((w.find? p).getD d) → p h = false
  | [], hm, _ => by cases hm
  | x :: w, hm, hl => by
    cases hp : p x with
    | true =>
      rw [List.find?_cons_of_pos hp] at hl
      have e0 : rankL (x :: w) ((some x).getD d) = 0 := (rankL_cons ..).trans (if_pos rfl)
      rw [e0] at hl
      omega
    | false =>
      rw [List.find?_cons_of_neg (by rw [hp]; decide)] at hl
      by_cases e : x = h
      · rw [← e]; exact hp
      · have hm' : h ∈ w := by
          rcases List.mem_cons.mp hm with q | q
          · exact absurd q.symm e
          · exact q
        rw [rankL_cons, rankL_cons, if_neg e] at hl
        split at hl
        · omega
        · exact find_before (d := d) hm' (by omega)

/-! ### popularity -/
theorem first_none {t : Market} {i : Nat} (h : preferencesOf t i = []) : firstChoice t i = t.houseCount := by
  unfold firstChoice; rw [h]; rfl
theorem first_mem {t : Market} {i : Nat} (h : preferencesOf t i ≠ []) : firstChoice t i ∈ preferencesOf t i := by
  unfold firstChoice
  cases e : preferencesOf t i with
  | nil => exact absurd e h
  | cons x w => exact List.mem_cons_self ..
theorem firsts_mem {t : Market} {h : Nat} : h ∈ firstChoices t ↔ h < t.houseCount ∧ ∃ i, i < applicantCount t ∧ firstChoice t i = h := by
  unfold firstChoices
  rw [List.mem_filter, List.mem_range, List.any_eq_true]
  constructor
  · rintro ⟨a, i, hi, e⟩
    exact ⟨a, i, List.mem_range.mp hi, by simpa using e⟩
  · rintro ⟨a, i, hi, e⟩
    exact ⟨a, i, List.mem_range.mpr hi, by simpa using e⟩
theorem second_or (t : Market) (i : Nat) : secondChoice t i = t.houseCount ∨ (secondChoice t i ∈ preferencesOf t i ∧ secondChoice t i ∉ firstChoices t) := by
  unfold secondChoice
  cases e : (preferencesOf t i).find? (fun h => !(firstChoices t).contains h) with
  | none => exact .inl rfl
  | some x =>
    refine .inr ⟨List.mem_of_find?_eq_some e, ?_⟩
    have := List.find?_some e
    simpa using this
theorem second_before {t : Market} {i h : Nat} (hm : h ∈ preferencesOf t i) (hl : Sr92.rank t i h < Sr92.rank t i (secondChoice t i)) : h ∈ firstChoices t := by
  have := find_before (p := fun h => !(firstChoices t).contains h) (d := t.houseCount) hm hl
  simpa using this
theorem charz_iff {t : Market} {a : Assignment} : isCharacterized t a = true ↔ (∀ i, i < applicantCount t → houseOf t a i = firstChoice t i ∨ houseOf t a i = secondChoice t i) ∧ ∀ h ∈ firstChoices t, h ∈ a := by
  unfold isCharacterized
  simp only [Bool.and_eq_true, List.all_eq_true, List.mem_range, Bool.or_eq_true, beq_iff_eq, List.contains_iff_mem]
def vset (t : Market) (a b : Assignment) : List Nat := (List.range (applicantCount t)).filter fun i => decide (Sr92.rank t i (houseOf t a i) < Sr92.rank t i (houseOf t b i))
theorem votes_eq (t : Market) (a b : Assignment) : Sr92.votes t a b = (vset t a b).length := rfl
theorem mem_vset {t : Market} {a b : Assignment} {i : Nat} : i ∈ vset t a b ↔ i < applicantCount t ∧ Sr92.rank t i (houseOf t a i) < Sr92.rank t i (houseOf t b i) := by
  unfold vset
  rw [List.mem_filter, List.mem_range, decide_eq_true_eq]
theorem vset_nodup (t : Market) (a b : Assignment) : (vset t a b).Nodup := List.Pairwise.filter _ List.nodup_range
theorem pop_iff' {t : Market} (W : WF t) {a : Assignment} : Sr92.isPopular t a = true ↔ ∀ b, IsA t b → Sr92.votes t b a ≤ Sr92.votes t a b := by
  unfold Sr92.isPopular
  rw [List.all_eq_true]
  constructor
  · intro h b B
    have := h b ((mem_asg W).mpr B)
    simp at this
    exact this
  · intro h b hb
    have := h b ((mem_asg W).mp hb)
    simpa using this
theorem houseOf_idx {t : Market} {a : Assignment} {h : Nat} (hm : h ∈ a) : houseOf t a (a.idxOf h) = h := by
  unfold houseOf
  have q := List.idxOf_lt_length_iff.mpr hm
  rw [List.getD_eq_getElem?_getD, List.getElem?_eq_getElem q]
  exact List.getElem_idxOf q
theorem IsA.idx {t : Market} {a : Assignment} (A : IsA t a) {h i : Nat} (hi : i < applicantCount t) (e : houseOf t a i = h) (hm : h ≠ t.houseCount) : a.idxOf h = i := by
  have hma : h ∈ a := by
    rw [← e]; exact getD_mem (by rw [A.len]; exact hi)
  have q := List.idxOf_lt_length_iff.mpr hma
  rw [A.len] at q
  by_cases c : a.idxOf h = i
  · exact c
  · exact absurd (e.trans (houseOf_idx hma).symm) (A.inj i _ hi q (fun z => c z.symm) (by rw [e]; exact hm))
theorem IsA.rank_inj {t : Market} {a b : Assignment} (A : IsA t a) {i : Nat} (hi : i < applicantCount t) (h : houseOf t a i ≠ t.houseCount) (e : Sr92.rank t i (houseOf t a i) = Sr92.rank t i (houseOf t b i)) : houseOf t a i = houseOf t b i := by
  rcases A.acc i hi with q | q
  · exact absurd q h
  · exact rankL_inj q e
theorem length_le_map {l k : List Nat} (f : Nat → Nat) (hl : l.Nodup) (hf : ∀ x ∈ l, f x ∈ k) (hi : ∀ x ∈ l, ∀ y ∈ l, f x = f y → x = y) : l.length ≤ k.length := by
  have nd : (l.map f).Nodup := by
    unfold List.Nodup
    rw [List.pairwise_map]
    exact List.Pairwise.imp_of_mem (fun hx hy hne e => hne (hi _ hx _ hy e)) hl
  have := List.Nodup.length_le_of_subset nd (l₂ := k) fun y hy => by
    obtain ⟨x, hx, rfl⟩ := List.mem_map.mp hy
    exact hf x hx
  rwa [List.length_map] at this
theorem charz_pop {t : Market} (W : WF t) {a : Assignment} (A : IsA t a) (C : isCharacterized t a = true) : Sr92.isPopular t a = true := by
  obtain ⟨c1, c2⟩ := charz_iff.mp C
  refine (pop_iff' W).mpr fun b B => ?_
  rw [votes_eq, votes_eq]
  have key : ∀ i ∈ vset t b a, houseOf t b i ∈ firstChoices t ∧ houseOf t b i ∈ a ∧ houseOf t b i ≠ t.houseCount ∧ firstChoice t i ≠ houseOf t a i := by
    intro i hi
    obtain ⟨hi, hl⟩ := mem_vset.mp hi
    have bm : houseOf t b i ∈ preferencesOf t i := rankL_lt_mem hl
    have hne : preferencesOf t i ≠ [] := fun z => by rw [z] at bm; cases bm
    have hf : firstChoice t i ≠ houseOf t a i := by
      intro e
      rw [← e] at hl
      have : Sr92.rank t i (firstChoice t i) = 0 := rankL_head hne
      omega
    rcases c1 i hi with q | q
    · exact absurd q.symm hf
    · rw [q] at hl
      have := second_before bm hl
      exact ⟨this, c2 _ this, Nat.ne_of_lt (W.lt' i bm), hf⟩
  refine length_le_map (fun i => a.idxOf (houseOf t b i)) (vset_nodup ..) (fun i hi => ?_) (fun i hi k hk e => ?_)
  · obtain ⟨h1, h2, h3, h4⟩ := key i hi
    obtain ⟨hi, hl⟩ := mem_vset.mp hi
    have q := List.idxOf_lt_length_iff.mpr h2
    rw [A.len] at q
    have ea : houseOf t a (a.idxOf (houseOf t b i)) = houseOf t b i := houseOf_idx h2
    generalize hk : a.idxOf (houseOf t b i) = k at q ea
    refine mem_vset.mpr ⟨q, ?_⟩
    have kn : k ≠ i := by
      intro z
      rw [z] at ea
      rw [ea] at hl
      omega
    -- k has this house; it is a first choice, so it is k's own
    have am : houseOf t a k ∈ preferencesOf t k := by
      rcases A.acc k q with z | z
      · rw [ea] at z; exact absurd z h3
      · exact z
    have hne : preferencesOf t k ≠ [] := fun z => by rw [z] at am; cases am
    have ef : houseOf t a k = firstChoice t k := by
      rcases c1 k q with z | z
      · exact z
      · rcases second_or t k with y | y
        · rw [z, y] at ea; exact absurd ea.symm h3
        · rw [← z, ea] at y; exact absurd h1 y.2
    have r0 : Sr92.rank t k (houseOf t a k) = 0 := by rw [ef]; exact rankL_head hne
    rw [r0]
    refine Nat.pos_of_ne_zero fun z => ?_
    have : houseOf t a k = houseOf t b k := rankL_inj am (by
      have z' : rankL (preferencesOf t k) (houseOf t b k) = 0 := z
      have r0' : rankL (preferencesOf t k) (houseOf t a k) = 0 := r0
      rw [z', r0'])
    exact B.inj i k hi q (fun y => kn y.symm) h3 (ea.symm.trans this)
  · obtain ⟨_, h2, h3, _⟩ := key i hi
    obtain ⟨_, k2, k3, _⟩ := key k hk
    have e' : houseOf t b i = houseOf t b k := by
      have := congrArg (houseOf t a) e
      rw [houseOf_idx h2, houseOf_idx k2] at this
      exact this
    by_cases c : i = k
    · exact c
    · exact absurd e' (B.inj i k (mem_vset.mp hi).1 (mem_vset.mp hk).1 c h3)
theorem houseOf_map {t : Market} {f : Nat → Nat} {i : Nat} (hi : i < applicantCount t) : houseOf t ((List.range (applicantCount t)).map f) i = f i := by
  unfold houseOf
  rw [List.getD_eq_getElem?_getD, List.getElem?_map, List.getElem?_range hi]
  rfl
/-- whoever prefers p to what they have: in a popular assignment p is with one of its first choices -/
theorem must {t : Market} (W : WF t) {a : Assignment} (A : IsA t a) (P : ∀ b, IsA t b → Sr92.votes t b a ≤ Sr92.votes t a b) {i p : Nat} (hi : i < applicantCount t)
    (hl : Sr92.rank t i p < Sr92.rank t i (houseOf t a i)) : ∃ k, k < applicantCount t ∧ houseOf t a k = p ∧ firstChoice t k = p := by
  have pm : p ∈ preferencesOf t i := rankL_lt_mem hl
  have pn : p ≠ t.houseCount := Nat.ne_of_lt (W.lt' i pm)
  by_cases ex : ∃ k, k < applicantCount t ∧ houseOf t a k = p
  · obtain ⟨k, hk, ek⟩ := ex
    have kn : i ≠ k := by
      intro z
      rw [z, ek] at hl
      omega
    by_cases ef : firstChoice t k = p
    · exact ⟨k, hk, ek, ef⟩
    exfalso
    have kp : p ∈ preferencesOf t k := by
      rcases A.acc k hk with z | z
      · rw [ek] at z; exact absurd z pn
      · rw [ek] at z; exact z
    have hne : preferencesOf t k ≠ [] := fun z => by rw [z] at kp; cases kp
    generalize hq : firstChoice t k = q at ef
    have qm : q ∈ preferencesOf t k := by rw [← hq]; exact first_mem hne
    have qn : q ≠ t.houseCount := Nat.ne_of_lt (W.lt' k qm)
    have q0 : Sr92.rank t k q = 0 := by rw [← hq]; exact rankL_head hne
    let f : Nat → Nat := fun j => if j = i then p else if j = k then q else if houseOf t a j = q then t.houseCount else houseOf t a j
    have fi : f i = p := if_pos rfl
    have fk : f k = q := by show (if k = i then p else _) = q; rw [if_neg (fun z => kn z.symm), if_pos rfl]
    have fo : ∀ j, j ≠ i → j ≠ k → f j = if houseOf t a j = q then t.houseCount else houseOf t a j := fun j h1 h2 => by
      show (if j = i then p else if j = k then q else _) = _
      rw [if_neg h1, if_neg h2]
    have B : IsA t ((List.range (applicantCount t)).map f) := by
      refine ⟨by rw [List.length_map, List.length_range], fun j hj => ?_, fun j l hj hl' hne' hm => ?_⟩
      · rw [houseOf_map hj]
        by_cases h1 : j = i
        · rw [h1, fi]; exact .inr pm
        · by_cases h2 : j = k
          · rw [h2, fk]; exact .inr qm
          · rw [fo j h1 h2]
            split
            · exact .inl rfl
            · exact A.acc j hj
      · rw [houseOf_map hj] at hm
        rw [houseOf_map hj, houseOf_map hl']
        have cases3 : ∀ j, j < applicantCount t → f j ≠ t.houseCount → (j = i ∧ f j = p) ∨ (j = k ∧ f j = q) ∨ (j ≠ i ∧ j ≠ k ∧ f j = houseOf t a j ∧ houseOf t a j ≠ q ∧ houseOf t a j ≠ p) := by
          intro j hj hm
          by_cases h1 : j = i
          · exact .inl ⟨h1, by rw [h1]; exact fi⟩
          · by_cases h2 : j = k
            · exact .inr (.inl ⟨h2, by rw [h2]; exact fk⟩)
            · refine .inr (.inr ⟨h1, h2, ?_⟩)
              rw [fo j h1 h2] at hm ⊢
              by_cases h3 : houseOf t a j = q
              · rw [if_pos h3] at hm; exact absurd rfl hm
              · rw [if_neg h3] at hm ⊢
                refine ⟨rfl, h3, fun z => ?_⟩
                exact A.inj j k hj hk h2 hm (z.trans ek.symm)
        intro e
        have hm2 : f l ≠ t.houseCount := by rw [← e]; exact hm
        rcases cases3 j hj hm with ⟨a1, a2⟩ | ⟨a1, a2⟩ | ⟨a1, a2, a3, a4, a5⟩ <;> rcases cases3 l hl' hm2 with ⟨b1, b2⟩ | ⟨b1, b2⟩ | ⟨b1, b2, b3, b4, b5⟩
        · exact hne' (a1.trans b1.symm)
        · rw [a2, b2] at e; exact ef e.symm
        · rw [a2, b3] at e; exact b5 e.symm
        · rw [a2, b2] at e; exact ef e
        · exact hne' (a1.trans b1.symm)
        · rw [a2, b3] at e; exact b4 e.symm
        · rw [a3, b2] at e; exact a5 e
        · rw [a3, b2] at e; exact a4 e
        · rw [a3, b3] at e
          exact A.inj j l hj hl' hne' (by rw [← a3]; exact hm) e
    have v := P _ B
    rw [votes_eq, votes_eq] at v
    have two : [i, k].length ≤ (vset t ((List.range (applicantCount t)).map f) a).length := List.Nodup.length_le_of_subset (by simp [kn]) (by
      intro x hx
      have hx' : x = i ∨ x = k := by simpa using hx
      rcases hx' with z | z
      · rw [z]; exact mem_vset.mpr ⟨hi, by rw [houseOf_map hi, fi]; exact hl⟩
      · rw [z]
        refine mem_vset.mpr ⟨hk, ?_⟩
        rw [houseOf_map hk, fk, ek, q0]
        refine Nat.pos_of_ne_zero fun y => ?_
        have : q = p := rankL_inj qm (show rankL (preferencesOf t k) q = rankL (preferencesOf t k) p from q0.trans y.symm)
        exact ef this)
    have one : (vset t a ((List.range (applicantCount t)).map f)).length ≤ [a.idxOf q].length := List.Nodup.length_le_of_subset (vset_nodup ..) (by
      intro x hx
      obtain ⟨hx, hlx⟩ := mem_vset.mp hx
      rw [houseOf_map hx] at hlx
      have x1 : x ≠ i := by
        intro z
        rw [z, fi] at hlx
        omega
      have x2 : x ≠ k := by
        intro z
        rw [z, fk, q0] at hlx
        omega
      rw [fo x x1 x2] at hlx
      by_cases h3 : houseOf t a x = q
      · exact List.mem_singleton.mpr (A.idx hx h3 qn).symm
      · rw [if_neg h3] at hlx
        omega)
    simp only [List.length_cons, List.length_nil] at two one
    omega
  · exfalso
    have ex' : ∀ k, k < applicantCount t → houseOf t a k ≠ p := fun k hk e => ex ⟨k, hk, e⟩
    let f : Nat → Nat := fun j => if j = i then p else houseOf t a j
    have fi : f i = p := if_pos rfl
    have fo : ∀ j, j ≠ i → f j = houseOf t a j := fun j h => if_neg h
    have B : IsA t ((List.range (applicantCount t)).map f) := by
      refine ⟨by rw [List.length_map, List.length_range], fun j hj => ?_, fun j l hj hl' hne' hm => ?_⟩
      · rw [houseOf_map hj]
        by_cases h1 : j = i
        · rw [h1, fi]; exact .inr pm
        · rw [fo j h1]; exact A.acc j hj
      · rw [houseOf_map hj] at hm
        rw [houseOf_map hj, houseOf_map hl']
        by_cases h1 : j = i
        · have h2 : l ≠ i := fun z => hne' (h1.trans z.symm)
          rw [h1, fi, fo l h2]
          exact fun e => ex' l hl' e.symm
        · rw [fo j h1] at hm ⊢
          by_cases h2 : l = i
          · rw [h2, fi]; exact ex' j hj
          · rw [fo l h2]; exact A.inj j l hj hl' hne' hm
    have v := P _ B
    rw [votes_eq, votes_eq] at v
    have one : [i].length ≤ (vset t ((List.range (applicantCount t)).map f) a).length := List.Nodup.length_le_of_subset (by simp) (by
      intro x hx
      rw [List.mem_singleton.mp hx]
      exact mem_vset.mpr ⟨hi, by rw [houseOf_map hi, fi]; exact hl⟩)
    have none : (vset t a ((List.range (applicantCount t)).map f)).length ≤ ([] : List Nat).length := List.Nodup.length_le_of_subset (vset_nodup ..) (by
      intro x hx
      obtain ⟨hx, hlx⟩ := mem_vset.mp hx
      rw [houseOf_map hx] at hlx
      by_cases x1 : x = i
      · rw [x1, fi] at hlx; omega
      · rw [fo x x1] at hlx; omega)
    simp only [List.length_cons, List.length_nil] at one none
    omega
theorem pop_charz {t : Market} (W : WF t) {a : Assignment} (A : IsA t a) (P : Sr92.isPopular t a = true) : isCharacterized t a = true := by
  have P' := (pop_iff' W).mp P
  refine charz_iff.mpr ⟨fun i hi => ?_, fun h hh => ?_⟩
  · by_cases h1 : houseOf t a i = firstChoice t i
    · exact .inl h1
    refine .inr ?_
    by_cases h2 : houseOf t a i = secondChoice t i
    · exact h2
    exfalso
    -- above its second choice, or below it
    rcases Nat.lt_trichotomy (Sr92.rank t i (houseOf t a i)) (Sr92.rank t i (secondChoice t i)) with q | q | q
    · have am : houseOf t a i ∈ preferencesOf t i := rankL_lt_mem q
      have an : houseOf t a i ≠ t.houseCount := Nat.ne_of_lt (W.lt' i am)
      obtain ⟨_, k, hk, ek⟩ := firsts_mem.mp (second_before am q)
      have kn : i ≠ k := fun z => h1 (by rw [z] at ek ⊢; exact ek.symm)
      have kne : preferencesOf t k ≠ [] := fun z => an (ek.symm.trans (first_none z))
      have k0 : Sr92.rank t k (houseOf t a i) = 0 := by rw [← ek]; exact rankL_head kne
      have ka : houseOf t a k ≠ houseOf t a i := fun z => A.inj i k hi hk kn an z.symm
      have kl : Sr92.rank t k (houseOf t a i) < Sr92.rank t k (houseOf t a k) := by
        rw [k0]
        refine Nat.pos_of_ne_zero fun z => ?_
        have := rankL_inj (w := preferencesOf t k) (h := houseOf t a i) (k := houseOf t a k) (by rw [← ek]; exact first_mem kne) (show rankL (preferencesOf t k) (houseOf t a i) = rankL (preferencesOf t k) (houseOf t a k) from k0.trans z.symm)
        exact ka this.symm
      obtain ⟨l, hl, el, fl⟩ := must W A P' hk kl
      have : l = i := by
        by_cases c : l = i
        · exact c
        · exact absurd el (A.inj l i hl hi c (by rw [el]; exact an))
      rw [this] at fl
      exact h1 fl.symm
    · rcases A.acc i hi with z | z
      · rcases second_or t i with y | y
        · exact h2 (z.trans y.symm)
        · exact h2 (rankL_inj y.1 (show rankL (preferencesOf t i) (secondChoice t i) = rankL (preferencesOf t i) (houseOf t a i) from q.symm)).symm
      · exact h2 (rankL_inj z q)
    · have sm : secondChoice t i ∈ preferencesOf t i := rankL_lt_mem q
      have sn : secondChoice t i ∉ firstChoices t := by
        rcases second_or t i with y | y
        · exact absurd y (Nat.ne_of_lt (W.lt' i sm))
        · exact y.2
      obtain ⟨l, hl, _, fl⟩ := must W A P' hi q
      exact sn (firsts_mem.mpr ⟨W.lt' i sm, l, hl, fl⟩)
  · obtain ⟨hlt, i, hi, e⟩ := firsts_mem.mp hh
    by_cases c : houseOf t a i = h
    · rw [← c]
      exact getD_mem (by rw [A.len]; exact hi)
    · have hne : preferencesOf t i ≠ [] := fun z => by
        have := first_none z
        omega
      have h0 : Sr92.rank t i h = 0 := by rw [← e]; exact rankL_head hne
      have hl : Sr92.rank t i h < Sr92.rank t i (houseOf t a i) := by
        rw [h0]
        refine Nat.pos_of_ne_zero fun z => ?_
        have := rankL_inj (w := preferencesOf t i) (h := h) (k := houseOf t a i) (by rw [← e]; exact first_mem hne) (show rankL (preferencesOf t i) h = rankL (preferencesOf t i) (houseOf t a i) from h0.trans z.symm)
        exact c this.symm
      obtain ⟨l, hl', el, _⟩ := must W A P' hi hl
      rw [← el]
      exact getD_mem (by rw [A.len]; exact hl')
/-- point 1 -/
theorem pop_eq {t : Market} (W : WF t) {a : Assignment} (A : IsA t a) : Sr92.isPopular t a = isCharacterized t a := by
  cases h : isCharacterized t a with
  | true => exact charz_pop W A h
  | false =>
    cases h2 : Sr92.isPopular t a with
    | false => rfl
    | true => rw [pop_charz W A h2] at h; cases h
theorem populars_eq {t : Market} (W : WF t) : Sr92.popularAssignments t = (assignments t).filter (isCharacterized t) := by
  unfold Sr92.popularAssignments
  exact List.filter_congr fun a ha => pop_eq W ((mem_asg W).mp ha)
end Hl
/-! # C. The mirror is the specification: assignments, votes, challengers -/
namespace Hl
open Sr92 (Market Assignment applicantCount preferencesOf houseOf assignmentsFrom assignments isAssignment firstChoice firstChoices secondChoice isCharacterized)

def cz (w : List Nat) : List Int := w.map fun (x : Nat) => (x : Int)
def enc (m h : Nat) : Int := if h = m then -1 else (h : Int)
def encL (m : Nat) (a : List Nat) : List Int := a.map (enc m)
theorem enc_m (m : Nat) : enc m m = -1 := if_pos rfl
theorem enc_lt {m h : Nat} (hl : h < m) : enc m h = (h : Int) := if_neg (by omega)
theorem enc_ne {m h : Nat} (hl : h ≠ m) : enc m h = (h : Int) := if_neg hl
theorem enc_inj {m h k : Nat} (e : enc m h = enc m k) : h = k := by
  unfold enc at e
  split at e <;> split at e <;> omega
theorem mem_cz {w : List Nat} {x : Int} : x ∈ cz w ↔ ∃ h ∈ w, (h : Int) = x := by unfold cz; rw [List.mem_map]
theorem nat_mem_cz {w : List Nat} {h : Nat} : (h : Int) ∈ cz w ↔ h ∈ w := by
  rw [mem_cz]
  constructor
  · rintro ⟨k, hk, e⟩
    rw [← Int.ofNat_inj.mp e]; exact hk
  · exact fun hh => ⟨h, hh, rfl⟩
theorem neg_not_cz {w : List Nat} : (-1 : Int) ∉ cz w := by
  rw [mem_cz]; rintro ⟨k, _, e⟩; omega
theorem nodup_map {α β : Type} {f : α → β} (hf : ∀ x y, f x = f y → x = y) {l : List α} (h : l.Nodup) : (l.map f).Nodup := by
  unfold List.Nodup
  rw [List.pairwise_map]
  exact List.Pairwise.imp (fun hne e => hne (hf _ _ e)) h
theorem cz_nodup {w : List Nat} (h : w.Nodup) : (cz w).Nodup := nodup_map (fun _ _ e => Int.ofNat_inj.mp e) h
theorem pw_range (n : Nat) : (List.range n).Pairwise (· < ·) := List.pairwise_lt_range
theorem srt_perm (xs : List Int) : (srt xs).Perm xs := List.mergeSort_perm xs _
theorem srt_sorted (xs : List Int) : (srt xs).Pairwise fun a b => a ≤ b := by
  have := List.pairwise_mergeSort (le := fun (a b : Int) => decide (a ≤ b)) (fun a b c h1 h2 => by simp at *; omega) (fun a b => by simp; omega) xs
  exact List.Pairwise.imp (fun h => by simpa using h) this
theorem sorted_unique {l k : List Int} (h1 : l.Pairwise fun a b => a ≤ b) (h2 : k.Pairwise fun a b => a ≤ b) (p : l.Perm k) : l = k :=
  List.Perm.eq_of_pairwise (le := fun (a b : Int) => a ≤ b) (fun a b _ _ h1 h2 => Int.le_antisymm h1 h2) h1 h2 p
theorem srt_cz {m : Nat} {w : List Nat} (nd : w.Nodup) (lt : ∀ h ∈ w, h < m) : srt (cz w) = cz ((List.range m).filter fun h => w.contains h) := by
  refine sorted_unique (srt_sorted _) ?_ ((srt_perm _).trans ?_)
  · unfold cz
    rw [List.pairwise_map]
    exact List.Pairwise.imp (fun h => by omega) (List.Pairwise.filter _ (pw_range m))
  · refine List.Perm.map _ ?_
    refine (List.perm_ext_iff_of_nodup nd (List.Pairwise.filter _ List.nodup_range)).mpr fun h => ?_
    rw [List.mem_filter, List.mem_range]
    simp
    exact fun z => lt h z
theorem contains_eq {w : List Int} {h : Int} : w.contains h = decide (h ∈ w) := by simp
theorem ext_enc {m : Nat} {w used : List Nat} {b : List Int} (nd : w.Nodup) (lt : ∀ h ∈ w, h < m) (hb : ∀ h : Nat, h < m → ((h : Int) ∈ b ↔ h ∈ used)) :
    ext b (offers (cz w)) = (((List.range m).filter fun h => w.contains h && !used.contains h) ++ [m]).map fun h => b ++ [enc m h] := by
  unfold ext offers
  rw [List.filter_append, List.map_append, List.map_append, srt_cz nd lt]
  congr 1
  · unfold cz
    rw [List.filter_map, List.filter_filter, List.map_map]
    have e1 : (List.range m).filter (fun h => (fits b ∘ fun (x : Nat) => (x : Int)) h && w.contains h) = (List.range m).filter fun h => w.contains h && !used.contains h := by
      refine List.filter_congr fun h hh => ?_
      have hm := List.mem_range.mp hh
      have : fits b (h : Int) = !used.contains h := by
        unfold fits
        have e : ((h : Int) == -1) = false := by simp
        rw [e, Bool.false_or]
        congr 1
        rw [Bool.eq_iff_iff]
        simp [hb h hm]
      show (fits b (h : Int) && w.contains h) = _
      rw [this, Bool.and_comm]
    rw [e1]
    refine List.map_congr_left fun h hh => ?_
    show b ++ [(h : Int)] = b ++ [enc m h]
    rw [enc_lt (List.mem_range.mp (List.mem_filter.mp hh).1)]
  · show ([-1].filter (fits b)).map _ = [b ++ [enc m m]]
    have : fits b (-1) = true := rfl
    rw [List.filter_cons, if_pos this, enc_m]
    rfl
/-- the mirror's list, grown from one beginning -/
def G : List (List Int) → List Int → List (List Int)
  | [], b => [b]
  | hs :: ps, b => (ext b (offers hs)).flatMap (G ps)
theorem fold_G : ∀ (ps : List (List Int)) (found : List (List Int)), ps.foldl level found = found.flatMap (G ps)
  | [], found => by
    show found = found.flatMap fun b => [b]
    simp
  | hs :: ps, found => by
    rw [List.foldl_cons, fold_G ps]
    unfold level
    rw [List.flatMap_assoc]
    rfl
theorem flatMap_congr' {α β : Type} {f g : α → List β} : ∀ {l : List α}, (∀ x ∈ l, f x = g x) → l.flatMap f = l.flatMap g
  | [], _ => rfl
  | x :: l, h => by
    rw [List.flatMap_cons, List.flatMap_cons, h x (List.mem_cons_self ..), flatMap_congr' (l := l) fun y hy => h y (List.mem_cons_of_mem _ hy)]
theorem G_enc (t : Market) : ∀ (ps : List (List Nat)) (used : List Nat) (b : List Int), (∀ w ∈ ps, w.Nodup) → (∀ w ∈ ps, ∀ h ∈ w, h < t.houseCount) →
    (∀ h : Nat, h < t.houseCount → ((h : Int) ∈ b ↔ h ∈ used)) → G (ps.map cz) b = (assignmentsFrom t ps used).map fun a => b ++ encL t.houseCount a
  | [], used, b, _, _, _ => by simp [G, assignmentsFrom, encL]
  | w :: ps, used, b, nd, lt, hb => by
    show (ext b (offers (cz w))).flatMap (G (ps.map cz)) = _
    rw [ext_enc (nd w (List.mem_cons_self ..)) (lt w (List.mem_cons_self ..)) hb]
    unfold assignmentsFrom
    rw [List.flatMap_map, List.map_flatMap]
    refine flatMap_congr' fun h hh => ?_
    have hle : h ≤ t.houseCount := by
      rcases List.mem_append.mp hh with q | q
      · exact Nat.le_of_lt (List.mem_range.mp (List.mem_filter.mp q).1)
      · rw [List.mem_singleton.mp q]; exact Nat.le_refl _
    rw [G_enc t ps (if h = t.houseCount then used else h :: used) _ (fun w hw => nd w (List.mem_cons_of_mem _ hw)) (fun w hw => lt w (List.mem_cons_of_mem _ hw)), List.map_map]
    · refine List.map_congr_left fun a _ => ?_
      show (b ++ [enc t.houseCount h]) ++ encL t.houseCount a = b ++ encL t.houseCount (h :: a)
      rw [List.append_assoc]; rfl
    · intro k hk
      rw [List.mem_append, hb k hk, List.mem_singleton]
      by_cases e : h = t.houseCount
      · rw [if_pos e, e, enc_m]
        constructor
        · rintro (z | z)
          · exact z
          · omega
        · exact .inl
      · rw [if_neg e, enc_ne e, List.mem_cons]
        constructor
        · rintro (z | z)
          · exact .inr z
          · exact .inl (Int.ofNat_inj.mp z)
        · rintro (z | z)
          · exact .inr (by rw [z])
          · exact .inl z
def czz (ps : List (List Nat)) : List (List Int) := ps.map cz
theorem allAsg_eq {t : Market} (W : WF t) : allAsg (czz t.preferences) = (assignments t).map (encL t.houseCount) := by
  unfold allAsg czz assignments
  rw [fold_G, List.flatMap_singleton, G_enc t t.preferences [] [] W.nd W.lt (fun h _ => by simp)]
  rfl

/-! ### which lists are assignments -/
theorem czz_len (ps : List (List Nat)) : (czz ps).length = ps.length := List.length_map ..
theorem czz_get (ps : List (List Nat)) (i : Nat) : (czz ps).getD i [] = cz (ps.getD i []) := by
  unfold czz
  rw [List.getD_eq_getElem?_getD, List.getD_eq_getElem?_getD, List.getElem?_map]
  cases ps[i]? <;> rfl
theorem encL_len (m : Nat) (a : List Nat) : (encL m a).length = a.length := List.length_map ..
theorem encL_get {m : Nat} {a : List Nat} {i : Nat} (hi : i < a.length) (d : Int) (d' : Nat) : (encL m a).getD i d = enc m (a.getD i d') := by
  unfold encL
  rw [List.getD_eq_getElem?_getD, List.getD_eq_getElem?_getD, List.getElem?_map, List.getElem?_eq_getElem hi]
  rfl
theorem encL_inj {m : Nat} {a b : List Nat} (e : encL m a = encL m b) : a = b := by
  unfold encL at e
  exact (List.map_inj_right fun _ _ => enc_inj).mp e
end Hl
/-! # D. Which lists are assignments; votes; the strongest challenger -/
namespace Hl
open Sr92 (Market Assignment applicantCount preferencesOf houseOf assignmentsFrom assignments isAssignment firstChoice firstChoices secondChoice isCharacterized)

theorem zip_all {α β : Type} (f : α × β → Bool) (d : α) (e : β) : ∀ (xs : List α) (ys : List β), ((xs.zip ys).all f = true ↔ ∀ i, i < xs.length → i < ys.length → f (xs.getD i d, ys.getD i e) = true)
  | [], ys => by simp
  | x :: xs, [] => by simp
  | x :: xs, y :: ys => by
    rw [List.zip_cons_cons, List.all_cons, Bool.and_eq_true, zip_all f d e xs ys]
    constructor
    · rintro ⟨h0, h1⟩ i hi hk
      cases i with
      | zero => exact h0
      | succ i => exact h1 i (by simpa using hi) (by simpa using hk)
    · intro h
      exact ⟨h 0 (by simp) (by simp), fun i hi hk => h (i + 1) (by simpa using hi) (by simpa using hk)⟩
theorem taken_nodup (ns : List Int) : (taken ns).Nodup ↔ ∀ i k, i < k → k < ns.length → ns.getD i 0 ≠ -1 → ns.getD i 0 ≠ ns.getD k 0 := by
  unfold taken List.Nodup
  rw [List.pairwise_filter, List.pairwise_iff_getElem]
  constructor
  · intro h i k hik hk hne e
    have hi : i < ns.length := Nat.lt_trans hik hk
    have g1 : ns.getD i 0 = ns[i] := by rw [List.getD_eq_getElem?_getD, List.getElem?_eq_getElem hi]; rfl
    have g2 : ns.getD k 0 = ns[k] := by rw [List.getD_eq_getElem?_getD, List.getElem?_eq_getElem hk]; rfl
    rw [g1] at hne e
    rw [g2] at e
    refine h i k hi hk hik (by simpa using hne) (by rw [← e]; simpa using hne) e
  · intro h i k hi hk hik h1 h2 e
    have g1 : ns.getD i 0 = ns[i] := by rw [List.getD_eq_getElem?_getD, List.getElem?_eq_getElem hi]; rfl
    have g2 : ns.getD k 0 = ns[k] := by rw [List.getD_eq_getElem?_getD, List.getElem?_eq_getElem hk]; rfl
    exact h i k hik hk (by rw [g1]; simpa using h1) (by rw [g1, g2]; exact e)
theorem isAsg_iff (ps : List (List Int)) (ns : List Int) : isAsg ps ns = true ↔ ns.length = ps.length ∧ (∀ i k, i < k → k < ns.length → ns.getD i 0 ≠ -1 → ns.getD i 0 ≠ ns.getD k 0) ∧
    ∀ i, i < ps.length → ns.getD i 0 = -1 ∨ ns.getD i 0 ∈ ps.getD i [] := by
  unfold isAsg
  rw [Bool.and_eq_true, Bool.and_eq_true, decide_eq_true_eq, decide_eq_true_eq, taken_nodup, zip_all _ 0 []]
  constructor
  · rintro ⟨h1, h2, h3⟩
    refine ⟨h1, h2, fun i hi => ?_⟩
    have := h3 i (by rw [h1]; exact hi) hi
    simpa using this
  · rintro ⟨h1, h2, h3⟩
    refine ⟨h1, h2, fun i _ hi => ?_⟩
    have := h3 i hi
    simpa using this
theorem enc_eq_neg {m h : Nat} : enc m h = -1 ↔ h = m := by
  unfold enc; split <;> omega
theorem enc_mem {m h : Nat} {w : List Nat} : (enc m h = -1 ∨ enc m h ∈ cz w) ↔ (h = m ∨ h ∈ w) := by
  by_cases e : h = m
  · simp [e, enc_m]
  · rw [enc_ne e, nat_mem_cz]
    constructor
    · rintro (z | z)
      · omega
      · exact .inr z
    · rintro (z | z)
      · exact absurd z e
      · exact .inr z
theorem isAsg_enc {t : Market} {b : Assignment} : isAsg (czz t.preferences) (encL t.houseCount b) = true ↔ IsA t b := by
  rw [isAsg_iff, czz_len, encL_len]
  constructor
  · rintro ⟨h1, h2, h3⟩
    refine ⟨h1, fun i hi => ?_, fun i k hi hk hne hm => ?_⟩
    · have := h3 i hi
      rw [encL_get (by rw [h1]; exact hi) 0 t.houseCount, czz_get] at this
      exact enc_mem.mp this
    · intro e
      have gi := encL_get (m := t.houseCount) (a := b) (by rw [h1]; exact hi) 0 t.houseCount
      have gk := encL_get (m := t.houseCount) (a := b) (by rw [h1]; exact hk) 0 t.houseCount
      have e' : b.getD i t.houseCount = b.getD k t.houseCount := e
      have hm' : b.getD i t.houseCount ≠ t.houseCount := hm
      rcases Nat.lt_or_gt_of_ne hne with q | q
      · refine h2 i k q (by rw [h1]; exact hk) (by rw [gi]; exact fun z => hm' (enc_eq_neg.mp z)) (by rw [gi, gk, e'])
      · refine h2 k i q (by rw [h1]; exact hi) (by rw [gk, ← e']; exact fun z => hm' (enc_eq_neg.mp z)) (by rw [gi, gk, e'])
  · intro A
    refine ⟨A.len, fun i k hik hk hne e => ?_, fun i hi => ?_⟩
    · have hi : i < b.length := Nat.lt_trans hik hk
      rw [encL_get hi 0 t.houseCount] at hne e
      rw [encL_get hk 0 t.houseCount] at e
      have e' := enc_inj e
      rw [A.len] at hi hk
      exact A.inj i k hi hk (by omega) (fun z => hne (enc_eq_neg.mpr z)) e'
    · rw [encL_get (by rw [A.len]; exact hi) 0 t.houseCount, czz_get]
      exact enc_mem.mpr (A.acc i hi)
def dec (m : Nat) (a : List Int) : List Nat := a.map fun h => if h = -1 then m else h.toNat
def InR (m : Nat) (a : List Int) : Prop := ∀ h ∈ a, h = -1 ∨ (0 ≤ h ∧ h < m)
theorem enc_dec {m : Nat} {a : List Int} (h : InR m a) : encL m (dec m a) = a := by
  unfold encL dec
  rw [List.map_map]
  refine (List.map_congr_left fun x hx => ?_).trans (List.map_id a)
  show enc m (if x = -1 then m else x.toNat) = x
  rcases h x hx with q | ⟨q1, q2⟩
  · rw [if_pos q, enc_m, q]
  · rw [if_neg (by omega), enc_lt (by omega)]
    omega
theorem dec_enc {m : Nat} (b : List Nat) : dec m (encL m b) = b := by
  unfold encL dec
  rw [List.map_map]
  refine (List.map_congr_left fun x hx => ?_).trans (List.map_id b)
  show (if enc m x = -1 then m else (enc m x).toNat) = x
  by_cases e : x = m
  · rw [if_pos (enc_eq_neg.mpr e)]; exact e.symm
  · rw [if_neg (fun z => e (enc_eq_neg.mp z)), enc_ne e]; rfl
theorem isAsg_inR {t : Market} (W : WF t) {a : List Int} (h : isAsg (czz t.preferences) a = true) : InR t.houseCount a := by
  obtain ⟨h1, _, h3⟩ := (isAsg_iff _ _).mp h
  rw [czz_len] at h1 h3
  intro x hx
  obtain ⟨i, hi, e⟩ := List.getElem_of_mem hx
  have := h3 i (by rw [← h1]; exact hi)
  rw [List.getD_eq_getElem?_getD, List.getElem?_eq_getElem hi, czz_get] at this
  rw [← e]
  rcases this with q | q
  · exact .inl q
  · obtain ⟨k, hk, e'⟩ := mem_cz.mp q
    have := W.lt' i hk
    refine .inr ?_
    have e2 : a[i] = (k : Int) := e'.symm
    rw [e2]; omega
theorem isAsg_eq {t : Market} (W : WF t) (a : List Int) : isAsg (czz t.preferences) a = ((a.all fun h => h == -1 || SrCommon.isIndex h t.houseCount) && isAssignment t (dec t.houseCount a)) := by
  have inr : ((a.all fun h => h == -1 || SrCommon.isIndex h t.houseCount) = true) ↔ InR t.houseCount a := by
    unfold InR SrCommon.isIndex
    simp
  rw [Bool.eq_iff_iff, Bool.and_eq_true, inr, isA_iff]
  constructor
  · intro h
    have R := isAsg_inR W h
    refine ⟨R, isAsg_enc.mp ?_⟩
    rw [enc_dec R]; exact h
  · rintro ⟨R, A⟩
    have := isAsg_enc.mpr A
    rwa [enc_dec R] at this

/-! ### votes -/
theorem idxOf_cz (w : List Nat) (k : Nat) : (cz w).idxOf (k : Int) = w.idxOf k := by
  induction w with
  | nil => rfl
  | cons x w ih =>
    show ((x : Int) :: cz w).idxOf (k : Int) = _
    rw [List.idxOf_cons, List.idxOf_cons, ih]
    by_cases e : x = k
    · simp [e]
    · have e1 : (x == k) = false := by simpa using e
      have e2 : ((x : Int) == (k : Int)) = false := by simp; omega
      rw [e1, e2]
theorem rankOf_cz {m : Nat} {w : List Nat} (lt : ∀ h ∈ w, h < m) {h : Nat} (hh : h = m ∨ h ∈ w) : rankOf (cz w) (enc m h) = (rankL w h : Nat) := by
  unfold rankOf
  rcases hh with e | hm
  · rw [if_pos (enc_eq_neg.mpr e), rankL_not (fun z => by have := lt h z; omega)]
    unfold cz; rw [List.length_map]
  · have hl := lt h hm
    rw [if_neg (fun z => by have := enc_eq_neg.mp z; omega), enc_lt hl, idxOf_cz, rankL_idx]
def vt (t : Market) (a b : Assignment) (i : Nat) : Int :=
  if Sr92.rank t i (houseOf t a i) < Sr92.rank t i (houseOf t b i) then 1 else if Sr92.rank t i (houseOf t b i) < Sr92.rank t i (houseOf t a i) then -1 else 0
theorem voteOf_eq {t : Market} (W : WF t) {a b : Assignment} (A : IsA t a) (B : IsA t b) {i : Nat} (hi : i < applicantCount t) :
    voteOf ((czz t.preferences).getD i []) ((encL t.houseCount a).getD i 0) ((encL t.houseCount b).getD i 0) = vt t a b i := by
  rw [czz_get, encL_get (by rw [A.len]; exact hi) 0 t.houseCount, encL_get (by rw [B.len]; exact hi) 0 t.houseCount]
  have lt : ∀ h ∈ t.preferences.getD i [], h < t.houseCount := fun h hh => W.lt' i hh
  unfold voteOf vt
  have e1 := rankOf_cz lt (A.acc i hi)
  have e2 := rankOf_cz lt (B.acc i hi)
  unfold houseOf at e1 e2
  rw [e1, e2]
  show (if (rankL (preferencesOf t i) (houseOf t a i) : Int) < (rankL (preferencesOf t i) (houseOf t b i) : Int) then (1 : Int) else if (rankL (preferencesOf t i) (houseOf t b i) : Int) < (rankL (preferencesOf t i) (houseOf t a i) : Int) then -1 else 0) = _
  rw [rank_eq, rank_eq]
  simp only [Int.ofNat_lt]
theorem vt_pos {t : Market} {a b : Assignment} {i : Nat} : 0 < vt t a b i ↔ Sr92.rank t i (houseOf t a i) < Sr92.rank t i (houseOf t b i) := by
  unfold vt
  split
  · simp [*]
  · split <;> simp [*]
theorem votesOf_eq {t : Market} (W : WF t) {a b : Assignment} (A : IsA t a) (B : IsA t b) : votesOf (czz t.preferences) (encL t.houseCount a) (encL t.houseCount b) = (Sr92.votes t a b : Nat) := by
  unfold votesOf votesN Sr92.votes
  rw [czz_len]
  refine congrArg (fun n : Nat => (n : Int)) (congrArg List.length (List.filter_congr fun i hi => ?_))
  have hi := List.mem_range.mp hi
  unfold won
  rw [voteOf_eq W A B hi]
  exact decide_eq_decide.mpr vt_pos
theorem sum_vt (t : Market) (a b : Assignment) : ∀ n, ((List.range n).map (vt t a b)).sum =
    (((List.range n).filter fun i => decide (Sr92.rank t i (houseOf t a i) < Sr92.rank t i (houseOf t b i))).length : Int) - (((List.range n).filter fun i => decide (Sr92.rank t i (houseOf t b i) < Sr92.rank t i (houseOf t a i))).length : Int)
  | 0 => rfl
  | n + 1 => by
    rw [List.range_succ, List.map_append, List.sum_append, sum_vt t a b n, List.filter_append, List.filter_append, List.length_append, List.length_append]
    unfold vt
    by_cases h1 : Sr92.rank t n (houseOf t a n) < Sr92.rank t n (houseOf t b n)
    · have h2 : ¬ Sr92.rank t n (houseOf t b n) < Sr92.rank t n (houseOf t a n) := by omega
      simp [h1, h2]
      omega
    · by_cases h2 : Sr92.rank t n (houseOf t b n) < Sr92.rank t n (houseOf t a n)
      · simp [h1, h2]
        omega
      · simp [h1, h2]
theorem margin_eq (t : Market) (b a : Assignment) : Sr92.margin t b a = ((List.range (applicantCount t)).map (vt t b a)).sum := (sum_vt t b a _).symm
/-- the lottery as the program keeps it -/
def lotZ (m : Nat) (x : Sr92.Lottery) : List (Int × List Int) := x.map fun y => ((y.2 : Int), encL m y.1)
theorem sum_map_add {α : Type} (f g : α → Int) : ∀ l : List α, (l.map fun i => f i + g i).sum = (l.map f).sum + (l.map g).sum
  | [] => rfl
  | x :: l => by
    rw [List.map_cons, List.sum_cons, List.map_cons, List.sum_cons, List.map_cons, List.sum_cons, sum_map_add f g l]
    omega
theorem sum_map_mul {α : Type} (c : Int) (f : α → Int) : ∀ l : List α, (l.map fun i => c * f i).sum = c * (l.map f).sum
  | [] => by simp
  | x :: l => by
    rw [List.map_cons, List.sum_cons, List.map_cons, List.sum_cons, sum_map_mul c f l, Int.mul_add]
theorem foldl_add : ∀ (l : List Int) (z : Int), l.foldl (· + ·) z = z + l.sum
  | [], z => by simp
  | x :: l, z => by
    rw [List.foldl_cons, foldl_add l, List.sum_cons, Int.add_assoc]
theorem wm_eq {t : Market} (W : WF t) {b : Assignment} (B : IsA t b) {x : Sr92.Lottery} (X : ∀ y ∈ x, IsA t y.1) : wm (czz t.preferences) (lotZ t.houseCount x) (encL t.houseCount b) = Sr92.weightedMargin t b x := by
  unfold wm wmN Sr92.weightedMargin
  rw [encL_len, B.len, foldl_add, Int.zero_add]
  induction x with
  | nil =>
    show ((List.range _).map fun i => (0 : Int)).sum = 0
    have : ∀ l : List Nat, (l.map fun _ => (0 : Int)).sum = 0 := fun l => by
      induction l with
      | nil => rfl
      | cons x l ih => rw [List.map_cons, List.sum_cons, ih]; rfl
    exact this _
  | cons y x ih =>
    have ih := ih fun z hz => X z (List.mem_cons_of_mem _ hz)
    rw [List.map_cons, List.sum_cons, ← ih, margin_eq, ← sum_map_mul, ← sum_map_add]
    refine congrArg List.sum (List.map_congr_left fun i hi => ?_)
    have hi := List.mem_range.mp hi
    unfold wv lotZ
    rw [List.map_cons, List.map_cons, List.sum_cons, voteOf_eq W B (X y (List.mem_cons_self ..)) hi]

/-! ### the first of the greatest -/
theorem bestFrom_cons {α : Type} (s : α → Int) (b : α) (r : List α) : bestFrom s none (b :: r) = bestFrom s (some b) r := rfl
theorem best_max {α : Type} (s : α → Int) : ∀ (r pre : List α) (c : α), IsMax s pre (s c) c → ∃ d, bestFrom s (some c) r = some d ∧ IsMax s (pre ++ r) (s d) d
  | [], pre, c, h => ⟨c, rfl, by rw [List.append_nil]; exact h⟩
  | b :: r, pre, c, ⟨j, hj, _, hf, hm⟩ => by
    have e : pre ++ b :: r = (pre ++ [b]) ++ r := by rw [List.append_assoc]; rfl
    rw [e]
    have jl : j < pre.length := (List.getElem?_eq_some_iff.mp hj).1
    show ∃ d, bestFrom s (if s c < s b then some b else some c) r = some d ∧ _
    by_cases q : s c < s b
    · rw [if_pos q]
      refine best_max s r (pre ++ [b]) b ⟨pre.length, by simp, rfl, fun k x hk hx => ?_, fun x hx => ?_⟩
      · have := hm x (List.mem_of_getElem? (by rwa [List.getElem?_append_left hk] at hx))
        omega
      · rcases List.mem_append.mp hx with z | z
        · have := hm x z; omega
        · rw [List.mem_singleton.mp z]; omega
    · rw [if_neg q]
      refine best_max s r (pre ++ [b]) c ⟨j, by rw [List.getElem?_append_left jl]; exact hj, rfl, fun k x hk hx => ?_, fun x hx => ?_⟩
      · exact hf k x hk (by rwa [List.getElem?_append_left (Nat.lt_trans hk jl)] at hx)
      · rcases List.mem_append.mp hx with z | z
        · exact hm x z
        · rw [List.mem_singleton.mp z]; omega
theorem best_isMax {α : Type} (s : α → Int) {L : List α} (hne : L ≠ []) : ∃ d, bestFrom s none L = some d ∧ IsMax s L (s d) d := by
  cases L with
  | nil => exact absurd rfl hne
  | cons b r =>
    rw [bestFrom_cons]
    exact best_max s r [b] b ⟨0, rfl, rfl, fun k x hk => absurd hk (Nat.not_lt_zero _), fun x hx => by rw [List.mem_singleton.mp hx]; exact Int.le_refl _⟩
theorem isMax_unique {α : Type} {s : α → Int} {L : List α} {g g' : Int} {c c' : α} (h : IsMax s L g c) (h' : IsMax s L g' c') : g = g' ∧ c = c' := by
  obtain ⟨j, hj, e, hf, hm⟩ := h
  obtain ⟨j', hj', e', hf', hm'⟩ := h'
  have m1 := hm c' (List.mem_of_getElem? hj')
  have m2 := hm' c (List.mem_of_getElem? hj)
  have eg : g = g' := by omega
  refine ⟨eg, ?_⟩
  rcases Nat.lt_trichotomy j j' with q | q | q
  · exact absurd (e.trans eg) (hf' j c q hj)
  · rw [q] at hj
    exact Option.some.inj (hj.symm.trans hj')
  · exact absurd (e'.trans eg.symm) (hf j' c' q hj')
theorem chal_of {ps : List (List Int)} {lot : List (Int × List Int)} {g : Int} {c : List Int} (h : IsMax (wm ps lot) (allAsg ps) g c) : chal ps lot = (g, c) := by
  have hne : allAsg ps ≠ [] := by
    obtain ⟨j, hj, _⟩ := h
    intro e; rw [e] at hj; cases hj
  obtain ⟨d, hd, hD⟩ := best_isMax (wm ps lot) hne
  obtain ⟨e1, e2⟩ := isMax_unique h hD
  unfold chal
  rw [hd]
  show (wm ps lot d, d) = (g, c)
  rw [← e1, e2]
theorem bestFrom_map {α β : Type} (f : α → β) (s : β → Int) (s' : α → Int) : ∀ (L : List α) (o : Option α), (∀ x ∈ L, s (f x) = s' x) → (∀ x, o = some x → s (f x) = s' x) → bestFrom s (o.map f) (L.map f) = (bestFrom s' o L).map f
  | [], o, _, _ => rfl
  | b :: r, none, h, _ => bestFrom_map f s s' r (some b) (fun x hx => h x (List.mem_cons_of_mem _ hx)) fun x e => by
      have : b = x := Option.some.inj e
      rw [← this]; exact h b (List.mem_cons_self ..)
  | b :: r, some c, h, h0 => by
    have hb := h b (List.mem_cons_self ..)
    have hc := h0 c rfl
    show bestFrom s (if s (f c) < s (f b) then some (f b) else some (f c)) (r.map f) = (bestFrom s' (if s' c < s' b then some b else some c) r).map f
    rw [hb, hc]
    split
    · exact bestFrom_map f s s' r (some b) (fun x hx => h x (List.mem_cons_of_mem _ hx)) fun x e => by
        have : b = x := Option.some.inj e
        rw [← this]; exact hb
    · exact bestFrom_map f s s' r (some c) (fun x hx => h x (List.mem_cons_of_mem _ hx)) fun x e => by
        have : c = x := Option.some.inj e
        rw [← this]; exact hc
theorem asg_ne {t : Market} (W : WF t) : assignments t ≠ [] := by
  have : List.replicate (applicantCount t) t.houseCount ∈ assignments t := (mem_asg W).mpr (by
    have hh : ∀ i, houseOf t (List.replicate (applicantCount t) t.houseCount) i = t.houseCount := fun i => by
      unfold houseOf
      rw [List.getD_eq_getElem?_getD, List.getElem?_replicate]
      split <;> rfl
    exact ⟨List.length_replicate .., fun i _ => .inl (hh i), fun i k _ _ _ hm => absurd (hh i) hm⟩)
  intro e
  rw [e] at this
  cases this
/-- the mirror's challenger against a lottery, in the specification's words -/
theorem chal_eq {t : Market} (W : WF t) {x : Sr92.Lottery} (X : ∀ y ∈ x, IsA t y.1) : ∃ b, IsA t b ∧ bestFrom (fun b => Sr92.weightedMargin t b x) none (assignments t) = some b ∧
    (∀ c, IsA t c → Sr92.weightedMargin t c x ≤ Sr92.weightedMargin t b x) ∧ chal (czz t.preferences) (lotZ t.houseCount x) = (Sr92.weightedMargin t b x, encL t.houseCount b) := by
  obtain ⟨b, hb, hB⟩ := best_isMax (fun b => Sr92.weightedMargin t b x) (asg_ne W)
  have hmem : b ∈ assignments t := by
    obtain ⟨j, hj, _⟩ := hB
    exact List.mem_of_getElem? hj
  have Bb := (mem_asg W).mp hmem
  have e := bestFrom_map (encL t.houseCount) (wm (czz t.preferences) (lotZ t.houseCount x)) (fun b => Sr92.weightedMargin t b x) (assignments t) none (fun c hc => wm_eq W ((mem_asg W).mp hc) X) (fun _ z => by cases z)
  rw [hb, ← allAsg_eq W] at e
  refine ⟨b, Bb, hb, fun c C => ?_, ?_⟩
  · obtain ⟨j, _, _, _, hm⟩ := hB
    exact hm c ((mem_asg W).mpr C)
  · unfold chal
    have e' : bestFrom (wm (czz t.preferences) (lotZ t.houseCount x)) none (allAsg (czz t.preferences)) = some (encL t.houseCount b) := e
    rw [e']
    show (wm _ _ (encL t.houseCount b), encL t.houseCount b) = _
    rw [wm_eq W Bb X]
theorem wm_one (t : Market) (b a : Assignment) : Sr92.weightedMargin t b [(a, 1)] = Sr92.margin t b a := by
  unfold Sr92.weightedMargin
  simp
theorem foldl_ext {α β : Type} {f g : β → α → β} (h : ∀ x y, f x y = g x y) (L : List α) (o : β) : L.foldl f o = L.foldl g o := by
  have : f = g := funext fun x => funext fun y => h x y
  rw [this]
theorem strongest_eq {t : Market} {a : Assignment} {b : Assignment} (h : bestFrom (fun b => Sr92.weightedMargin t b [(a, 1)]) none (assignments t) = some b) : Sr92.strongestChallenger t a = b := by
  unfold Sr92.strongestChallenger
  have e : (fun b => Sr92.weightedMargin t b [(a, 1)]) = fun b => Sr92.margin t b a := funext fun b => wm_one t b a
  rw [e] at h
  unfold bestFrom at h
  exact (congrArg (fun o : Option Assignment => o.getD []) ((foldl_ext (fun best b => by cases best <;> rfl) _ _).trans h)).trans rfl
theorem lotChal_fold (t : Market) (x : Sr92.Lottery) (f : Option (Assignment × Int) → Assignment → Option (Assignment × Int)) (h0 : ∀ b, f none b = some (b, Sr92.weightedMargin t b x))
    (h1 : ∀ c b, f (some c) b = if c.2 < Sr92.weightedMargin t b x then some (b, Sr92.weightedMargin t b x) else some c) : ∀ (L : List Assignment) (o : Option Assignment),
    L.foldl f (o.map fun c => (c, Sr92.weightedMargin t c x)) = (bestFrom (fun b => Sr92.weightedMargin t b x) o L).map fun c => (c, Sr92.weightedMargin t c x)
  | [], o => rfl
  | b :: r, none => by
    rw [List.foldl_cons]
    show r.foldl f (f none b) = _
    rw [h0]
    exact lotChal_fold t x f h0 h1 r (some b)
  | b :: r, some c => by
    rw [List.foldl_cons]
    show r.foldl f (f (some (c, Sr92.weightedMargin t c x)) b) = (bestFrom _ (if Sr92.weightedMargin t c x < Sr92.weightedMargin t b x then some b else some c) r).map _
    rw [h1]
    by_cases q : Sr92.weightedMargin t c x < Sr92.weightedMargin t b x
    · rw [if_pos (show (c, Sr92.weightedMargin t c x).2 < _ from q), if_pos q]
      exact lotChal_fold t x f h0 h1 r (some b)
    · rw [if_neg (show ¬ (c, Sr92.weightedMargin t c x).2 < _ from q), if_neg q]
      exact lotChal_fold t x f h0 h1 r (some c)
theorem lotChal_eq {t : Market} {x : Sr92.Lottery} {b : Assignment} (h : bestFrom (fun b => Sr92.weightedMargin t b x) none (assignments t) = some b) : Sr92.lotteryChallenger t x = (b, Sr92.weightedMargin t b x) := by
  unfold Sr92.lotteryChallenger
  have := fun f h0 h1 => lotChal_fold t x f h0 h1 (assignments t) none
  rw [h] at this
  exact (congrArg (fun o : Option (Assignment × Int) => o.getD ([], 0)) (this _ (fun _ => rfl) (fun _ _ => rfl))).trans rfl
/-- popular: no assignment has a margin above 0 -/
theorem isPop_le {t : Market} {a : Assignment} (W : WF t) : Sr92.isPopular t a = true ↔ ∀ b, IsA t b → Sr92.margin t b a ≤ 0 := by
  rw [pop_iff' W]
  unfold Sr92.margin
  exact ⟨fun h b B => by have := h b B; omega, fun h b B => by have := h b B; omega⟩
theorem isPopLot_le {t : Market} {x : Sr92.Lottery} (W : WF t) : Sr92.isPopularLottery t x = true ↔ ∀ b, IsA t b → Sr92.weightedMargin t b x ≤ 0 := by
  unfold Sr92.isPopularLottery
  rw [List.all_eq_true]
  exact ⟨fun h b B => by have := h b ((mem_asg W).mpr B); simpa using this, fun h b hb => by have := h b ((mem_asg W).mp hb); simpa using this⟩
end Hl
/-! # E. The unpopularity factor; first and second choices -/
namespace Hl
open Sr92 (Market Assignment applicantCount preferencesOf houseOf assignmentsFrom assignments isAssignment firstChoice firstChoices secondChoice isCharacterized)

theorem mk_eq (n k : Nat) (hk : 0 < k) : SrFraction.mk (n : Int) k = ⟨(n / Nat.gcd n k : Nat), k / Nat.gcd n k⟩ := by
  have hg : 0 < Nat.gcd n k := Nat.gcd_pos_of_pos_right n hk
  have hd : 0 < k / Nat.gcd n k := Nat.div_pos (Nat.le_of_dvd hk (Nat.gcd_dvd_right n k)) hg
  unfold SrFraction.mk
  show (if Nat.gcd n k = 0 then (⟨0, 1⟩ : SrFraction.Fraction) else if k / Nat.gcd n k = 0 then ⟨0, 1⟩ else ⟨(n : Int) / (Nat.gcd n k : Int), k / Nat.gcd n k⟩) = _
  rw [if_neg (by omega), if_neg (by omega)]
  rfl
theorem low_eq (n k : Nat) : low (n : Int) (k : Int) = (((n / Nat.gcd n k : Nat) : Int), ((k / Nat.gcd n k : Nat) : Int)) := rfl
theorem lt_mk {n k w l : Nat} (hk : 0 < k) (hl : 0 < l) : SrFraction.lt (SrFraction.mk (n : Int) k) (SrFraction.mk (w : Int) l) = decide (n * l < w * k) := by
  rw [mk_eq n k hk, mk_eq w l hl]
  unfold SrFraction.lt
  rw [decide_eq_decide]
  show ((n / Nat.gcd n k : Nat) : Int) * ((l / Nat.gcd w l : Nat) : Int) < ((w / Nat.gcd w l : Nat) : Int) * ((k / Nat.gcd n k : Nat) : Int) ↔ _
  have g1 : 0 < Nat.gcd n k := Nat.gcd_pos_of_pos_right n hk
  have g2 : 0 < Nat.gcd w l := Nat.gcd_pos_of_pos_right w hl
  have e1 : n / Nat.gcd n k * Nat.gcd n k = n := Nat.div_mul_cancel (Nat.gcd_dvd_left n k)
  have e2 : k / Nat.gcd n k * Nat.gcd n k = k := Nat.div_mul_cancel (Nat.gcd_dvd_right n k)
  have e3 : w / Nat.gcd w l * Nat.gcd w l = w := Nat.div_mul_cancel (Nat.gcd_dvd_left w l)
  have e4 : l / Nat.gcd w l * Nat.gcd w l = l := Nat.div_mul_cancel (Nat.gcd_dvd_right w l)
  generalize n / Nat.gcd n k = a at *
  generalize k / Nat.gcd n k = b at *
  generalize w / Nat.gcd w l = c at *
  generalize l / Nat.gcd w l = d at *
  generalize Nat.gcd n k = g at *
  generalize Nat.gcd w l = g' at *
  have e5 : n * l = (a * d) * (g * g') := by rw [← e1, ← e4]; simp only [Nat.mul_assoc, Nat.mul_comm, Nat.mul_left_comm]
  have e6 : w * k = (c * b) * (g * g') := by rw [← e3, ← e2]; simp only [Nat.mul_assoc, Nat.mul_comm, Nat.mul_left_comm]
  rw [e5, e6, Nat.mul_lt_mul_right (Nat.mul_pos g1 g2)]
  rw [← Int.natCast_mul, ← Int.natCast_mul]
  exact Int.ofNat_lt
theorem facGo_map {α β : Type} (f : α → β) (w l : β → Int) (w' l' : α → Int) : ∀ (L : List α) (n d : Int), (∀ x ∈ L, w (f x) = w' x ∧ l (f x) = l' x) → facGo w l n d (L.map f) = facGo w' l' n d L
  | [], n, d, _ => rfl
  | b :: r, n, d, h => by
    obtain ⟨h1, h2⟩ := h b (List.mem_cons_self ..)
    have hr := fun x hx => h x (List.mem_cons_of_mem b hx)
    show (if 0 < w (f b) ∧ l (f b) = 0 then none else if n * l (f b) < w (f b) * d then facGo w l (w (f b)) (l (f b)) (r.map f) else facGo w l n d (r.map f)) = if 0 < w' b ∧ l' b = 0 then none else if n * l' b < w' b * d then facGo w' l' (w' b) (l' b) r else facGo w' l' n d r
    rw [h1, h2, facGo_map f w l w' l' r _ _ hr, facGo_map f w l w' l' r _ _ hr]
theorem fold_none {α : Type} (f : Option SrFraction.Fraction → α → Option SrFraction.Fraction) (h : ∀ b, f none b = none) : ∀ L : List α, L.foldl f none = none
  | [] => rfl
  | b :: r => by rw [List.foldl_cons, h, fold_none f h r]
theorem fac_fold {α : Type} (w l : α → Nat) (f : Option SrFraction.Fraction → α → Option SrFraction.Fraction) (h0 : ∀ b, f none b = none)
    (h1 : ∀ x b, f (some x) b = if w b = 0 then some x else if l b = 0 then none else some (if SrFraction.lt x (SrFraction.mk (w b : Nat) (l b)) then SrFraction.mk (w b : Nat) (l b) else x)) :
    ∀ (L : List α) (n k : Nat), 0 < k → (facGo (fun b => (w b : Int)) (fun b => (l b : Int)) n k L = none ∧ L.foldl f (some (SrFraction.mk n k)) = none) ∨
      ∃ n' k' : Nat, 0 < k' ∧ facGo (fun b => (w b : Int)) (fun b => (l b : Int)) n k L = some ((n' : Int), (k' : Int)) ∧ L.foldl f (some (SrFraction.mk n k)) = some (SrFraction.mk n' k')
  | [], n, k, hk => .inr ⟨n, k, hk, rfl, rfl⟩
  | b :: r, n, k, hk => by
    rw [List.foldl_cons, h1]
    show ((if 0 < (w b : Int) ∧ (l b : Int) = 0 then none else if (n : Int) * (l b : Int) < (w b : Int) * (k : Int) then facGo _ _ (w b : Int) (l b : Int) r else facGo _ _ n k r) = none ∧ _) ∨ ∃ n' k' : Nat, 0 < k' ∧ (if 0 < (w b : Int) ∧ (l b : Int) = 0 then none else if (n : Int) * (l b : Int) < (w b : Int) * (k : Int) then facGo _ _ (w b : Int) (l b : Int) r else facGo _ _ n k r) = some ((n' : Int), (k' : Int)) ∧ _
    by_cases hw : w b = 0
    · have c1 : ¬ (0 < (w b : Int) ∧ (l b : Int) = 0) := by omega
      have c2 : ¬ ((n : Int) * (l b : Int) < (w b : Int) * (k : Int)) := by
        rw [hw]
        have : (0 : Int) ≤ (n : Int) * (l b : Int) := by rw [← Int.natCast_mul]; omega
        simp
        exact this
      rw [if_neg c1, if_neg c2, if_pos hw]
      exact fac_fold w l f h0 h1 r n k hk
    · rw [if_neg hw]
      by_cases hl : l b = 0
      · have c1 : (0 < (w b : Int) ∧ (l b : Int) = 0) := by omega
        rw [if_pos c1, if_pos hl]
        exact .inl ⟨rfl, fold_none f h0 r⟩
      · have c1 : ¬ (0 < (w b : Int) ∧ (l b : Int) = 0) := by omega
        rw [if_neg c1, if_neg hl, lt_mk hk (Nat.pos_of_ne_zero hl)]
        have e : ((n : Int) * (l b : Int) < (w b : Int) * (k : Int)) ↔ n * l b < w b * k := by
          rw [← Int.natCast_mul, ← Int.natCast_mul]; exact Int.ofNat_lt
        by_cases q : n * l b < w b * k
        · rw [if_pos (e.mpr q), decide_eq_true q]
          exact fac_fold w l f h0 h1 r (w b) (l b) (Nat.pos_of_ne_zero hl)
        · rw [if_neg (fun z => q (e.mp z)), decide_eq_false q]
          exact fac_fold w l f h0 h1 r n k hk
theorem upf {Z : Option SrFraction.Fraction → Prop} (t : Market) (a : Assignment) (h : ∀ f : Option SrFraction.Fraction → Assignment → Option SrFraction.Fraction, (∀ b, f none b = none) →
    (∀ x b, f (some x) b = if Sr92.votes t b a = 0 then some x else if Sr92.votes t a b = 0 then none else some (if SrFraction.lt x (SrFraction.mk (Sr92.votes t b a : Nat) (Sr92.votes t a b)) then SrFraction.mk (Sr92.votes t b a : Nat) (Sr92.votes t a b) else x)) →
    ∃ o, o = (assignments t).foldl f (some (SrFraction.ofInt 0)) ∧ Z o) : Z (Sr92.unpopularityFactor t a) := by
  obtain ⟨o, e, z⟩ := h (fun best b => best.elim none fun x => if Sr92.votes t b a = 0 then some x else if Sr92.votes t a b = 0 then none else some (if SrFraction.lt x (SrFraction.mk (Sr92.votes t b a : Nat) (Sr92.votes t a b)) then SrFraction.mk (Sr92.votes t b a : Nat) (Sr92.votes t a b) else x)) (fun _ => rfl) (fun _ _ => rfl)
  have : o = Sr92.unpopularityFactor t a := e.trans (foldl_ext (fun best b => by cases best <;> rfl) _ _)
  rw [← this]; exact z
theorem factor_eq {t : Market} (W : WF t) {a : Assignment} (A : IsA t a) : (factor (czz t.preferences) (encL t.houseCount a) = none ∧ Sr92.unpopularityFactor t a = none) ∨
    ∃ x, factor (czz t.preferences) (encL t.houseCount a) = some (x.num, (x.den : Int)) ∧ Sr92.unpopularityFactor t a = some x := by
  have e : facGo (fun b => votesOf (czz t.preferences) b (encL t.houseCount a)) (fun b => votesOf (czz t.preferences) (encL t.houseCount a) b) 0 1 (allAsg (czz t.preferences)) =
      facGo (fun b => (Sr92.votes t b a : Int)) (fun b => (Sr92.votes t a b : Int)) 0 1 (assignments t) := by
    rw [allAsg_eq W]
    exact facGo_map _ _ _ _ _ _ _ _ fun b hb => ⟨votesOf_eq W ((mem_asg W).mp hb) A, votesOf_eq W A ((mem_asg W).mp hb)⟩
  unfold factor
  rw [e]
  generalize hu : Sr92.unpopularityFactor t a = u
  have key : (facGo (fun b => (Sr92.votes t b a : Int)) (fun b => (Sr92.votes t a b : Int)) 0 1 (assignments t) = none ∧ u = none) ∨
      ∃ n' k' : Nat, 0 < k' ∧ facGo (fun b => (Sr92.votes t b a : Int)) (fun b => (Sr92.votes t a b : Int)) 0 1 (assignments t) = some ((n' : Int), (k' : Int)) ∧ u = some (SrFraction.mk n' k') := by
    rw [← hu]
    refine upf (Z := fun o => (facGo (fun b => (Sr92.votes t b a : Int)) (fun b => (Sr92.votes t a b : Int)) 0 1 (assignments t) = none ∧ o = none) ∨
      ∃ n' k' : Nat, 0 < k' ∧ facGo (fun b => (Sr92.votes t b a : Int)) (fun b => (Sr92.votes t a b : Int)) 0 1 (assignments t) = some ((n' : Int), (k' : Int)) ∧ o = some (SrFraction.mk n' k')) t a fun f h0 h1 => ⟨_, rfl, ?_⟩
    exact fac_fold (fun b => Sr92.votes t b a) (fun b => Sr92.votes t a b) f h0 h1 (assignments t) 0 1 (by decide)
  rcases key with ⟨q1, q2⟩ | ⟨n, k, hk, q1, q2⟩
  · refine .inl ⟨?_, q2⟩
    have q1' : facGo (fun b => (Sr92.votes t b a : Int)) (fun b => (Sr92.votes t a b : Int)) 0 1 (assignments t) = none := q1
    rw [q1']
  · refine .inr ⟨_, ?_, q2⟩
    have q1' : facGo (fun b => (Sr92.votes t b a : Int)) (fun b => (Sr92.votes t a b : Int)) 0 1 (assignments t) = some ((n : Int), (k : Int)) := q1
    rw [q1', mk_eq n k hk]
    rfl

/-! ### first and second choices -/
theorem headD_cz {m : Nat} {w : List Nat} (lt : ∀ h ∈ w, h < m) : (cz w).headD (-1) = enc m (w.headD m) := by
  cases w with
  | nil => exact (enc_m m).symm
  | cons x w => exact (enc_lt (lt x (List.mem_cons_self ..))).symm
theorem firsts_len (ps : List (List Int)) : (firstsOf ps).length = ps.length := List.length_map ..
theorem seconds_len (ps : List (List Int)) : (secondsOf ps).length = ps.length := List.length_map ..
theorem map_get {α β : Type} (f : α → β) (l : List α) {i : Nat} (hi : i < l.length) (d : β) (e : α) : (l.map f).getD i d = f (l.getD i e) := by
  rw [List.getD_eq_getElem?_getD, List.getD_eq_getElem?_getD, List.getElem?_map, List.getElem?_eq_getElem hi]
  rfl
theorem firsts_get {t : Market} (W : WF t) {i : Nat} (hi : i < applicantCount t) : (firstsOf (czz t.preferences)).getD i 0 = enc t.houseCount (firstChoice t i) := by
  unfold firstsOf
  rw [map_get _ _ (by rw [czz_len]; exact hi) 0 [], czz_get]
  exact headD_cz fun h hh => W.lt' i hh
theorem mem_firsts {t : Market} (W : WF t) {x : Int} : x ∈ firstsOf (czz t.preferences) ↔ ∃ i, i < applicantCount t ∧ x = enc t.houseCount (firstChoice t i) := by
  constructor
  · intro hx
    obtain ⟨i, hi, e⟩ := List.getElem_of_mem hx
    have hi' : i < applicantCount t := by rwa [firsts_len, czz_len] at hi
    refine ⟨i, hi', ?_⟩
    rw [← firsts_get W hi', List.getD_eq_getElem?_getD, List.getElem?_eq_getElem hi, ← e]
    rfl
  · rintro ⟨i, hi, e⟩
    rw [e, ← firsts_get W hi]
    exact getD_mem (by rw [firsts_len, czz_len]; exact hi)
theorem nat_mem_firsts {t : Market} (W : WF t) {h : Nat} (hl : h < t.houseCount) : (h : Int) ∈ firstsOf (czz t.preferences) ↔ h ∈ firstChoices t := by
  rw [mem_firsts W, firsts_mem]
  constructor
  · rintro ⟨i, hi, e⟩
    refine ⟨hl, i, hi, ?_⟩
    rw [← enc_lt hl] at e
    exact (enc_inj e).symm
  · rintro ⟨_, i, hi, e⟩
    exact ⟨i, hi, by rw [e, enc_lt hl]⟩
theorem headD_head? {α : Type} (l : List α) (d : α) : l.headD d = l.head?.getD d := by cases l <;> rfl
theorem seconds_get {t : Market} (W : WF t) {i : Nat} (hi : i < applicantCount t) : (secondsOf (czz t.preferences)).getD i 0 = enc t.houseCount (secondChoice t i) := by
  unfold secondsOf
  rw [map_get _ _ (by rw [czz_len]; exact hi) 0 [], czz_get]
  have e : othersOf (firstsOf (czz t.preferences)) (cz (t.preferences.getD i [])) = cz ((t.preferences.getD i []).filter fun h => !(firstChoices t).contains h) := by
    unfold othersOf cz
    rw [List.filter_map]
    refine congrArg _ (List.filter_congr fun h hh => ?_)
    show (!(firstsOf (czz t.preferences)).contains (h : Int)) = _
    congr 1
    rw [Bool.eq_iff_iff, List.contains_iff_mem, List.contains_iff_mem]
    exact nat_mem_firsts W (W.lt' i hh)
  rw [e]
  refine (headD_cz (m := t.houseCount) fun h hh => W.lt' i (List.mem_filter.mp hh).1).trans ?_
  rw [headD_head?, List.head?_filter]
  rfl
theorem agree_eq {t : Market} (W : WF t) {a : Assignment} (A : IsA t a) : agree (firstsOf (czz t.preferences)) (secondsOf (czz t.preferences)) (encL t.houseCount a) = isCharacterized t a := by
  rw [Bool.eq_iff_iff, charz_iff]
  unfold agree
  rw [Bool.and_eq_true, zip_all _ 0 (0, 0), List.all_eq_true]
  have hz : ∀ i, i < applicantCount t → ((firstsOf (czz t.preferences)).zip (secondsOf (czz t.preferences))).getD i (0, 0) = (enc t.houseCount (firstChoice t i), enc t.houseCount (secondChoice t i)) := fun i hi => by
    have h1 : i < (firstsOf (czz t.preferences)).length := by rw [firsts_len, czz_len]; exact hi
    have h2 : i < (secondsOf (czz t.preferences)).length := by rw [seconds_len, czz_len]; exact hi
    have g1 := firsts_get W hi
    have g2 := seconds_get W hi
    rw [List.getD_eq_getElem?_getD, List.getElem?_eq_getElem h1] at g1
    rw [List.getD_eq_getElem?_getD, List.getElem?_eq_getElem h2] at g2
    rw [List.getD_eq_getElem?_getD, List.getElem?_eq_getElem (by rw [List.length_zip]; omega), List.getElem_zip, ← g1, ← g2]
    rfl
  refine and_congr ?_ ?_
  · constructor
    · intro h i hi
      have := h i (by rw [encL_len, A.len]; exact hi) (by rw [List.length_zip, firsts_len, seconds_len, czz_len]; exact Nat.lt_min.mpr ⟨hi, hi⟩)
      rw [hz i hi, encL_get (by rw [A.len]; exact hi) 0 t.houseCount] at this
      simp at this
      rcases this with z | z
      · exact .inl (enc_inj z)
      · exact .inr (enc_inj z)
    · intro h i hi _
      have hi : i < applicantCount t := by rwa [encL_len, A.len] at hi
      rw [hz i hi, encL_get (by rw [A.len]; exact hi) 0 t.houseCount]
      have := h i hi
      unfold houseOf at this
      rcases this with z | z
      · rw [z]; simp
      · rw [z]; simp
  · constructor
    · intro h x hx
      obtain ⟨hl, i, hi, e⟩ := firsts_mem.mp hx
      have := h (x : Int) ((nat_mem_firsts W hl).mpr hx)
      simp at this
      unfold encL at this
      obtain ⟨y, hy, ey⟩ := List.mem_map.mp this
      rw [← enc_lt hl] at ey
      rw [← enc_inj ey]; exact hy
    · intro h x hx
      obtain ⟨i, hi, e⟩ := (mem_firsts W).mp hx
      by_cases c : firstChoice t i = t.houseCount
      · rw [e, c, enc_m]; rfl
      · have hne : preferencesOf t i ≠ [] := fun z => c (first_none z)
        have hl : firstChoice t i < t.houseCount := W.lt' i (first_mem hne)
        have := h (firstChoice t i) (firsts_mem.mpr ⟨hl, i, hi, rfl⟩)
        rw [e]
        have hm : enc t.houseCount (firstChoice t i) ∈ encL t.houseCount a := List.mem_map.mpr ⟨_, this, rfl⟩
        simp [hm]
theorem popular_eq {t : Market} (W : WF t) : popular (czz t.preferences) = (Sr92.popularAssignments t).map (encL t.houseCount) := by
  unfold popular
  rw [populars_eq W, allAsg_eq W, List.filter_map]
  refine congrArg _ (List.filter_congr fun a ha => ?_)
  exact agree_eq W ((mem_asg W).mp ha)
theorem housed_eq {t : Market} {a : Assignment} (h : a.length = applicantCount t) : housed (encL t.houseCount a) = (Sr92.assignedCount t a : Nat) := by
  have e1 : Sr92.assignedCount t a = (a.filter fun h => h != t.houseCount).length := by
    unfold Sr92.assignedCount
    have : a = (List.range (applicantCount t)).map (houseOf t a) := by
      refine List.ext_getElem (by rw [List.length_map, List.length_range, h]) fun i h1 h2 => ?_
      rw [List.getElem_map, List.getElem_range]
      unfold houseOf
      rw [List.getD_eq_getElem?_getD, List.getElem?_eq_getElem h1]; rfl
    conv => rhs; rw [this, List.filter_map, List.length_map]
    rfl
  rw [e1]
  clear e1 h
  unfold housed
  rw [encL_len]
  induction a with
  | nil => rfl
  | cons x a ih =>
    show ((x :: a).length : Int) - ((enc t.houseCount x :: encL t.houseCount a).count (-1) : Nat) = _
    rw [List.count_cons, List.filter_cons]
    by_cases e : x = t.houseCount
    · have e1 : (enc t.houseCount x == -1) = true := by rw [e, enc_m]; rfl
      have e2 : ¬ ((x != t.houseCount) = true) := by simp [e]
      rw [if_pos e1, if_neg e2, ← ih, List.length_cons]
      omega
    · have e1 : ¬ ((enc t.houseCount x == -1) = true) := by
        rw [beq_iff_eq]; exact fun z => e (enc_eq_neg.mp z)
      have e2 : (x != t.houseCount) = true := by simpa using e
      rw [if_neg e1, if_pos e2, List.length_cons, List.length_cons]
      omega
end Hl
/-! # F. One call: the mirror's step is the specification's -/
namespace Hl
open Sr92 (Market Assignment applicantCount preferencesOf houseOf assignmentsFrom assignments isAssignment firstChoice firstChoices secondChoice isCharacterized Instance)

structure Rel (s : M) (d : Instance) : Prop where
  tot : s.tot = (d.market.houseCount : Int)
  ps : s.ps = czz d.market.preferences
  cur : s.cur = encL d.market.houseCount d.assignment
  lot : s.lot = lotZ d.market.houseCount d.lottery
  wf : WF d.market
  ia : IsA d.market d.assignment
  il : ∀ y ∈ d.lottery, IsA d.market y.1
  n1 : 1 ≤ applicantCount d.market
  n5 : applicantCount d.market ≤ 5
  m5 : d.market.houseCount ≤ 5
  ll : d.lottery.length ≤ 12
  wt : ∀ y ∈ d.lottery, 1 ≤ y.2 ∧ y.2 ≤ 99
def RelO : Option M → Option Instance → Prop
  | none, none => True
  | some s, some d => Rel s d
  | _, _ => False
theorem isA_empty (t : Market) : IsA t (Sr92.emptyAssignment t) := by
  have hh : ∀ i, houseOf t (Sr92.emptyAssignment t) i = t.houseCount := fun i => by
    unfold houseOf Sr92.emptyAssignment
    rw [List.getD_eq_getElem?_getD, List.getElem?_replicate]
    split <;> rfl
  exact ⟨List.length_replicate .., fun i _ => .inl (hh i), fun i k _ _ _ hm => absurd (hh i) hm⟩
theorem enc_empty (t : Market) : encL t.houseCount (Sr92.emptyAssignment t) = List.replicate (applicantCount t) (-1) := by
  unfold encL Sr92.emptyAssignment
  rw [List.map_replicate, enc_m]
theorem encA (t : Market) (a : Assignment) : Sr92.encodeAssignment t a = encL t.houseCount a := rfl
/-- what the specification answers -/
def outR (r : SrCommon.Result) : List Int := r.code :: r.values
variable {s : M} {d : Instance}
theorem Rel.len (R : Rel s d) : s.ps.length = applicantCount d.market := by rw [R.ps, czz_len]; rfl
theorem Rel.has (R : Rel s d) (i : Int) : s.has i = Sr92.isApplicant d i := by
  unfold M.has Sr92.isApplicant SrCommon.isIndex
  rw [R.len]
theorem has_iff {i : Int} : Sr92.isApplicant d i = true ↔ 0 ≤ i ∧ i < (applicantCount d.market : Int) := by
  unfold Sr92.isApplicant SrCommon.isIndex
  simp
theorem getD_set {α : Type} (l : List α) (i : Nat) (x d : α) (k : Nat) (hi : i < l.length) : (l.set i x).getD k d = if k = i then x else l.getD k d := by
  rw [List.getD_eq_getElem?_getD, List.getD_eq_getElem?_getD]
  by_cases e : k = i
  · rw [if_pos e, e, List.getElem?_set_self hi]; rfl
  · rw [if_neg e, List.getElem?_set_ne (fun z => e z.symm)]
theorem IsA.set {t : Market} {a : Assignment} (A : IsA t a) {i h : Nat} (hi : i < applicantCount t) (hh : h = t.houseCount ∨ h ∈ preferencesOf t i) (hn : h = t.houseCount ∨ ∀ k, k < applicantCount t → k ≠ i → houseOf t a k ≠ h) : IsA t (a.set i h) := by
  have hl : i < a.length := by rw [A.len]; exact hi
  have g : ∀ k, houseOf t (a.set i h) k = if k = i then h else houseOf t a k := fun k => getD_set a i h _ k hl
  refine ⟨by rw [List.length_set]; exact A.len, fun k hk => ?_, fun k l hk hl' hne hm => ?_⟩
  · rw [g]
    split
    · rename_i e; rw [e]; exact hh
    · exact A.acc k hk
  · rw [g] at hm ⊢
    rw [g l]
    by_cases e1 : k = i
    · rw [if_pos e1] at hm ⊢
      rw [if_neg (fun z => hne (e1.trans z.symm))]
      rcases hn with q | q
      · exact absurd q hm
      · exact fun z => q l hl' (fun z' => hne (e1.trans z'.symm)) z.symm
    · rw [if_neg e1] at hm ⊢
      by_cases e2 : l = i
      · rw [if_pos e2]
        rcases hn with q | q
        · rw [q]; exact hm
        · exact q k hk e1
      · rw [if_neg e2]
        exact A.inj k l hk hl' hne hm
theorem encL_set (m : Nat) (a : List Nat) (i h : Nat) : encL m (a.set i h) = (encL m a).set i (enc m h) := by
  unfold encL; rw [List.map_set]
theorem Rel.withA (R : Rel s d) {a : Assignment} (A : IsA d.market a) {c : List Int} (e : c = encL d.market.houseCount a) : Rel { s with cur := c } { d with assignment := a } :=
  ⟨R.tot, R.ps, e, R.lot, R.wf, A, R.il, R.n1, R.n5, R.m5, R.ll, R.wt⟩
theorem Rel.curD (R : Rel s d) {i : Nat} (hi : i < applicantCount d.market) : s.cur.getD i 0 = enc d.market.houseCount (houseOf d.market d.assignment i) := by
  rw [R.cur]; exact encL_get (by rw [R.ia.len]; exact hi) 0 _

/-! ### call by call -/
/-- what a changing call does -/
def Does (s : M) (d : Instance) (call : Sr92.Call) (x : List Int × M) : Prop :=
  outR (Sr92.perform d call).2 = x.1 ∧ Rel x.2 ((Sr92.perform d call).1.getD d)
theorem cz_toNats {m : Nat} {hs : List Int} (h : hs.all (fun h => SrCommon.isIndex h m) = true) : cz (SrCommon.intsToNats hs) = hs := by
  unfold cz SrCommon.intsToNats
  rw [List.map_map]
  refine (List.map_congr_left fun x hx => ?_).trans (List.map_id hs)
  have := List.all_eq_true.mp h x hx
  unfold SrCommon.isIndex at this
  simp at this
  show ((x.toNat : Nat) : Int) = x
  omega
theorem czz_set (ps : List (List Nat)) (i : Nat) (w : List Nat) : czz (ps.set i w) = (czz ps).set i (cz w) := by
  unfold czz; rw [List.map_set]
theorem do_setPref (R : Rel s d) (i : Int) (hs : List Int) : Does s d (.setPreferences i hs) (s.setPref i hs) := by
  unfold Does Sr92.perform M.setPref
  rw [R.has]
  dsimp only
  by_cases h1 : Sr92.isApplicant d i = false
  · rw [if_pos h1, if_pos h1]; exact ⟨rfl, R⟩
  rw [if_neg h1, if_neg h1]
  have hp : isPref s.tot hs = (hs.all (Sr92.isHouse d) && decide hs.Nodup) := by
    unfold isPref; rw [R.tot]; rfl
  rw [hp]
  by_cases h2 : (hs.all (Sr92.isHouse d) && decide hs.Nodup) = false
  · rw [if_pos h2, if_pos h2]; exact ⟨rfl, R⟩
  rw [if_neg h2, if_neg h2]
  have h2' : (hs.all (Sr92.isHouse d) && decide hs.Nodup) = true := by simpa using h2
  rw [Bool.and_eq_true, decide_eq_true_eq] at h2'
  obtain ⟨ha, hnd⟩ := h2'
  have hcz : cz (SrCommon.intsToNats hs) = hs := cz_toNats ha
  have hi := has_iff.mp (by simpa using h1)
  have hl : i.toNat < d.market.preferences.length := by have : applicantCount d.market = d.market.preferences.length := rfl; omega
  have hnd' : (SrCommon.intsToNats hs).Nodup := by
    have : (cz (SrCommon.intsToNats hs)).Nodup := by rw [hcz]; exact hnd
    exact List.Pairwise.of_map _ (fun a b h e => h (by rw [e])) this
  have mem : ∀ w ∈ d.market.preferences.set i.toNat (SrCommon.intsToNats hs), w ∈ d.market.preferences ∨ w = SrCommon.intsToNats hs := fun w hw => List.mem_or_eq_of_mem_set hw
  have ac : applicantCount { d.market with preferences := d.market.preferences.set i.toNat (SrCommon.intsToNats hs) } = applicantCount d.market := List.length_set ..
  refine ⟨rfl, R.tot, ?_, ?_, rfl, ⟨fun w hw => ?_, fun w hw h hh => ?_⟩, isA_empty _, fun y hy => absurd hy List.not_mem_nil, ?_, ?_, R.m5, Nat.zero_le _, fun y hy => absurd hy List.not_mem_nil⟩
  · show s.ps.set i.toNat hs = czz (d.market.preferences.set i.toNat (SrCommon.intsToNats hs))
    rw [czz_set, hcz, R.ps]
  · show List.replicate s.ps.length (-1) = encL d.market.houseCount _
    rw [R.len]
    exact ((congrArg (fun n => List.replicate n (-1 : Int)) ac.symm)).trans (enc_empty _).symm
  · rcases mem w hw with q | q
    · exact R.wf.nd w q
    · rw [q]; exact hnd'
  · rcases mem w hw with q | q
    · exact R.wf.lt w q h hh
    · rw [q] at hh
      have : (h : Int) ∈ hs := by rw [← hcz]; exact nat_mem_cz.mpr hh
      have := List.all_eq_true.mp ha _ this
      unfold Sr92.isHouse SrCommon.isIndex at this
      simp at this
      exact this
  · exact Nat.le_trans R.n1 (Nat.le_of_eq ac.symm)
  · exact Nat.le_trans (Nat.le_of_eq ac) R.n5
theorem do_assign (R : Rel s d) (i h : Int) : Does s d (.assign i h) (s.assign i h) := by
  unfold Does Sr92.perform M.assign
  rw [R.has]
  dsimp only
  by_cases h1 : Sr92.isApplicant d i = false
  · rw [if_pos h1, if_pos h1]; exact ⟨rfl, R⟩
  rw [if_neg h1, if_neg h1]
  have hi := has_iff.mp (by simpa using h1)
  have hi' : i.toNat < applicantCount d.market := by omega
  have hrow : (s.ps.getD i.toNat []).contains h = false ↔ (Sr92.isHouse d h = false ∨ (preferencesOf d.market i.toNat).contains h.toNat = false) := by
    rw [R.ps, czz_get]
    have : (cz (d.market.preferences.getD i.toNat [])).contains h = (Sr92.isHouse d h && (preferencesOf d.market i.toNat).contains h.toNat) := by
      rw [Bool.eq_iff_iff, Bool.and_eq_true, List.contains_iff_mem, List.contains_iff_mem]
      unfold Sr92.isHouse SrCommon.isIndex
      rw [Bool.and_eq_true, decide_eq_true_eq, decide_eq_true_eq]
      constructor
      · intro z
        obtain ⟨k, hk, e⟩ := mem_cz.mp z
        have := R.wf.lt' i.toNat hk
        subst e
        exact ⟨⟨by omega, by omega⟩, hk⟩
      · rintro ⟨⟨z1, z2⟩, z3⟩
        rw [mem_cz]
        exact ⟨h.toNat, z3, by omega⟩
    rw [this]
    cases Sr92.isHouse d h <;> simp
  by_cases h2 : (Sr92.isHouse d h = false ∨ (preferencesOf d.market i.toNat).contains h.toNat = false)
  · rw [if_pos h2, if_pos (hrow.mpr h2)]; exact ⟨rfl, R⟩
  rw [if_neg h2, if_neg (fun z => h2 (hrow.mp z))]
  have hh : (0 ≤ h ∧ h < d.market.houseCount) ∧ h.toNat ∈ preferencesOf d.market i.toNat := by
    have z1 : Sr92.isHouse d h = true := by
      cases e : Sr92.isHouse d h with
      | true => rfl
      | false => exact absurd (.inl e) h2
    have z2 : (preferencesOf d.market i.toNat).contains h.toNat = true := by
      cases e : (preferencesOf d.market i.toNat).contains h.toNat with
      | true => rfl
      | false => exact absurd (.inr e) h2
    unfold Sr92.isHouse SrCommon.isIndex at z1
    simp at z1 z2
    exact ⟨z1, z2⟩
  obtain ⟨⟨hz, hlt⟩, hm⟩ := hh
  obtain ⟨k, rfl⟩ : ∃ k : Nat, h = (k : Int) := ⟨h.toNat, by omega⟩
  have hk : k < d.market.houseCount := by omega
  have e0 : (k : Int).toNat = k := rfl
  rw [e0] at hm ⊢
  have hany : (s.cur.contains (k : Int) && s.cur.getD i.toNat 0 != (k : Int)) = true ↔ (List.range (applicantCount d.market)).any (fun j => j != i.toNat && houseOf d.market d.assignment j == k) = true := by
    rw [Bool.and_eq_true, List.contains_iff_mem, List.any_eq_true, R.curD hi', bne_iff_ne]
    have ek : enc d.market.houseCount k = (k : Int) := enc_lt hk
    rw [← ek]
    constructor
    · rintro ⟨z1, z2⟩
      rw [R.cur] at z1
      unfold encL at z1
      obtain ⟨y, hy, ey⟩ := List.mem_map.mp z1
      have ey := enc_inj ey
      subst ey
      obtain ⟨j, hj, ej⟩ := List.getElem_of_mem hy
      have hj' : j < applicantCount d.market := by rw [← R.ia.len]; exact hj
      have eh : houseOf d.market d.assignment j = y := by
        unfold houseOf
        rw [List.getD_eq_getElem?_getD, List.getElem?_eq_getElem hj, ← ej]; rfl
      refine ⟨j, List.mem_range.mpr hj', ?_⟩
      have : j ≠ i.toNat := fun z => by
        rw [← z, eh] at z2
        exact z2 rfl
      simp [this, eh]
    · rintro ⟨j, hj, z⟩
      have hj := List.mem_range.mp hj
      simp at z
      obtain ⟨z1, z2⟩ := z
      refine ⟨?_, fun e => ?_⟩
      · rw [R.cur]
        unfold encL
        refine List.mem_map.mpr ⟨k, ?_, rfl⟩
        rw [← z2]
        exact getD_mem (by rw [R.ia.len]; exact hj)
      · have := enc_inj e
        exact R.ia.inj j i.toNat hj hi' z1 (by rw [z2]; omega) (z2.trans this.symm)
  by_cases h3 : (List.range (applicantCount d.market)).any (fun j => j != i.toNat && houseOf d.market d.assignment j == k) = true
  · rw [if_pos h3, if_pos (hany.mpr h3)]; exact ⟨rfl, R⟩
  rw [if_neg h3, if_neg (fun z => h3 (hany.mp z))]
  have A : IsA d.market (d.assignment.set i.toNat k) := R.ia.set hi' (.inr hm) (.inr fun j hj hne e => h3 (by
    rw [List.any_eq_true]
    exact ⟨j, List.mem_range.mpr hj, by simp [hne, e]⟩))
  have ec : s.cur.set i.toNat (k : Int) = encL d.market.houseCount (d.assignment.set i.toNat k) := by
    rw [encL_set, enc_lt hk, R.cur]
  refine ⟨?_, R.withA A ec⟩
  show [((Sr92.assignedCount d.market (d.assignment.set i.toNat k) : Nat) : Int)] = [housed (s.cur.set i.toNat (k : Int))]
  rw [ec, housed_eq A.len]
theorem do_unassign (R : Rel s d) (i : Int) : Does s d (.unassign i) (s.unassign i) := by
  unfold Does Sr92.perform M.unassign
  rw [R.has]
  dsimp only
  by_cases h1 : Sr92.isApplicant d i = false
  · rw [if_pos h1, if_pos h1]; exact ⟨rfl, R⟩
  rw [if_neg h1, if_neg h1]
  have hi := has_iff.mp (by simpa using h1)
  have hi' : i.toNat < applicantCount d.market := by omega
  rw [R.curD hi']
  by_cases h2 : houseOf d.market d.assignment i.toNat = d.market.houseCount
  · rw [if_pos h2, if_pos (enc_eq_neg.mpr h2)]; exact ⟨rfl, R⟩
  rw [if_neg h2, if_neg (fun z => h2 (enc_eq_neg.mp z)), enc_ne h2]
  have A : IsA d.market (d.assignment.set i.toNat d.market.houseCount) := R.ia.set hi' (.inl rfl) (.inl rfl)
  refine ⟨rfl, R.withA A ?_⟩
  rw [encL_set, enc_m, R.cur]
theorem enc_isA (R : Rel s d) (a : List Int) : isAsg s.ps a = Sr92.isEncodedAssignment d a := by
  rw [R.ps, isAsg_eq R.wf]
  rfl
theorem isEnc_dec (R : Rel s d) {a : List Int} (h : Sr92.isEncodedAssignment d a = true) : IsA d.market (Sr92.decodeAssignment d.market a) ∧ a = encL d.market.houseCount (Sr92.decodeAssignment d.market a) := by
  have h' := h
  rw [← enc_isA R, R.ps] at h'
  have I := isAsg_inR R.wf h'
  have e : encL d.market.houseCount (Sr92.decodeAssignment d.market a) = a := enc_dec I
  refine ⟨isAsg_enc.mp ?_, e.symm⟩
  rw [e]; exact h'
theorem do_setAsg (R : Rel s d) (a : List Int) : Does s d (.setAssignment a) (s.setAsg a) := by
  unfold Does Sr92.perform M.setAsg
  rw [enc_isA R]
  dsimp only
  by_cases h1 : Sr92.isEncodedAssignment d a = false
  · rw [if_pos h1, if_pos h1]; exact ⟨rfl, R⟩
  rw [if_neg h1, if_neg h1]
  obtain ⟨A, e⟩ := isEnc_dec R (by simpa using h1)
  refine ⟨?_, R.withA A e⟩
  show [((Sr92.assignedCount d.market (Sr92.decodeAssignment d.market a) : Nat) : Int)] = [housed a]
  rw [← housed_eq A.len, ← e]
theorem popular_nil (R : Rel s d) : popular s.ps = (Sr92.popularAssignments d.market).map (encL d.market.houseCount) := by
  rw [R.ps]; exact popular_eq R.wf
theorem pop_isA (R : Rel s d) {a : Assignment} (h : a ∈ Sr92.popularAssignments d.market) : IsA d.market a := by
  unfold Sr92.popularAssignments at h
  exact (mem_asg R.wf).mp (List.mem_filter.mp h).1
theorem do_useFirst (R : Rel s d) : Does s d .useFirstPopular s.useFirst := by
  unfold Does Sr92.perform M.useFirst
  dsimp only
  rw [popular_nil R]
  cases e : Sr92.popularAssignments d.market with
  | nil => exact ⟨rfl, R⟩
  | cons a r =>
    have A := pop_isA R (a := a) (by rw [e]; exact List.mem_cons_self ..)
    refine ⟨?_, R.withA A rfl⟩
    show [((Sr92.assignedCount d.market a : Nat) : Int)] = [housed (encL d.market.houseCount a)]
    rw [housed_eq A.len]
theorem lot_sum (m : Nat) (x : Sr92.Lottery) : ((lotZ m x).map (·.1)).sum = (Sr92.totalWeight x : Nat) := by
  unfold Sr92.totalWeight SrCommon.sum
  have : ∀ (l : List Nat) (z : Nat), ((l.foldl (· + ·) z : Nat) : Int) = (z : Int) + (l.map fun (x : Nat) => (x : Int)).sum := by
    intro l
    induction l with
    | nil => intro z; simp
    | cons x l ih => intro z; rw [List.foldl_cons, ih, List.map_cons, List.sum_cons]; omega
  rw [this]
  unfold lotZ
  rw [List.map_map, List.map_map]
  simp
  rfl
theorem do_addLot (R : Rel s d) (w : Int) : Does s d (.addToLottery w) (s.addLot w) := by
  unfold Does Sr92.perform M.addLot
  dsimp only
  have hr : SrCommon.inRange w 1 99 = (decide (1 ≤ w) && decide (w ≤ 99)) := rfl
  rw [hr]
  by_cases h1 : (decide (1 ≤ w) && decide (w ≤ 99)) = false
  · rw [if_pos h1, if_pos h1]; exact ⟨rfl, R⟩
  rw [if_neg h1, if_neg h1]
  have hl : s.lot.length = d.lottery.length := by rw [R.lot]; exact List.length_map ..
  have hm : Sr92.maxLotteryEntries = 12 := rfl
  rw [hl, hm]
  by_cases h2 : 12 ≤ d.lottery.length
  · rw [if_pos h2, if_pos h2]; exact ⟨rfl, R⟩
  rw [if_neg h2, if_neg h2]
  have h1' : 1 ≤ w ∧ w ≤ 99 := by simpa using h1
  have el : s.lot ++ [(w, s.cur)] = lotZ d.market.houseCount (d.lottery ++ [(d.assignment, w.toNat)]) := by
    unfold lotZ
    rw [List.map_append, R.lot, R.cur]
    have : ((w.toNat : Nat) : Int) = w := by omega
    show _ = lotZ _ _ ++ [(((w.toNat : Nat) : Int), _)]
    rw [this]
  refine ⟨?_, R.tot, R.ps, R.cur, el, R.wf, R.ia, fun y hy => ?_, R.n1, R.n5, R.m5, ?_, fun y hy => ?_⟩
  · show [((Sr92.totalWeight d.lottery + w.toNat : Nat) : Int)] = [((s.lot ++ [(w, s.cur)]).map (·.1)).sum]
    rw [List.map_append, List.sum_append, R.lot, lot_sum]
    have : ((w.toNat : Nat) : Int) = w := by omega
    simp
    omega
  · rcases List.mem_append.mp hy with q | q
    · exact R.il y q
    · rw [List.mem_singleton.mp q]; exact R.ia
  · show (d.lottery ++ [_]).length ≤ 12
    rw [List.length_append]; simp; omega
  · rcases List.mem_append.mp hy with q | q
    · exact R.wt y q
    · rw [List.mem_singleton.mp q]
      show 1 ≤ w.toNat ∧ w.toNat ≤ 99
      omega
theorem do_clear (R : Rel s d) : Does s d .clearLottery s.clear := by
  unfold Does Sr92.perform M.clear
  refine ⟨?_, R.tot, R.ps, R.cur, rfl, R.wf, R.ia, fun y hy => absurd hy List.not_mem_nil, R.n1, R.n5, R.m5, Nat.zero_le _, fun y hy => absurd hy List.not_mem_nil⟩
  show [((d.lottery.length : Nat) : Int)] = [(s.lot.length : Int)]
  rw [R.lot]
  unfold lotZ
  rw [List.length_map]
/-- what an asking call answers -/
def Says (d : Instance) (call : Sr92.Call) (x : List Int) : Prop := outR (Sr92.perform d call).2 = x ∧ (Sr92.perform d call).1 = none
theorem say_assignment (R : Rel s d) : Says d .assignment s.assignment := by
  refine ⟨?_, rfl⟩
  show ((Sr92.assignedCount d.market d.assignment : Nat) : Int) :: encL d.market.houseCount d.assignment = housed s.cur :: s.cur
  rw [R.cur, housed_eq R.ia.len]
theorem say_compare (R : Rel s d) (a : List Int) : Says d (.compare a) (s.compare a) := by
  refine ⟨?_, rfl⟩
  unfold Sr92.perform M.compare
  rw [enc_isA R]
  dsimp only
  by_cases h1 : Sr92.isEncodedAssignment d a = false
  · rw [if_pos h1, if_pos h1]; rfl
  rw [if_neg h1, if_neg h1]
  obtain ⟨A, e⟩ := isEnc_dec R (by simpa using h1)
  show [((Sr92.votes d.market d.assignment (Sr92.decodeAssignment d.market a) : Nat) : Int), ((Sr92.votes d.market (Sr92.decodeAssignment d.market a) d.assignment : Nat) : Int)] = [votesOf s.ps s.cur a, votesOf s.ps a s.cur]
  rw [← votesOf_eq R.wf R.ia A, ← votesOf_eq R.wf A R.ia, ← e, R.cur, R.ps]
/-- the market's own challenger -/
theorem Rel.chal1 (R : Rel s d) : ∃ b, IsA d.market b ∧ Sr92.strongestChallenger d.market d.assignment = b ∧ (∀ c, IsA d.market c → Sr92.margin d.market c d.assignment ≤ Sr92.margin d.market b d.assignment) ∧
    chal s.ps [(1, s.cur)] = (Sr92.margin d.market b d.assignment, encL d.market.houseCount b) := by
  obtain ⟨b, B, hb, hm, hc⟩ := chal_eq (x := [(d.assignment, 1)]) R.wf (fun y hy => by rw [List.mem_singleton.mp hy]; exact R.ia)
  refine ⟨b, B, strongest_eq hb, fun c C => ?_, ?_⟩
  · have := hm c C
    rwa [wm_one, wm_one] at this
  · rw [wm_one] at hc
    rw [R.ps, R.cur]
    exact hc
theorem say_isPop (R : Rel s d) : Says d .isPopular s.isPop := by
  refine ⟨?_, rfl⟩
  obtain ⟨b, B, _, hm, hc⟩ := R.chal1
  show [SrCommon.boolToInt (Sr92.isPopular d.market d.assignment)] = [if 0 < (chal s.ps [(1, s.cur)]).1 then 0 else 1]
  rw [hc]
  unfold SrCommon.boolToInt
  by_cases q : 0 < Sr92.margin d.market b d.assignment
  · have : ¬ Sr92.isPopular d.market d.assignment = true := fun z => by
      have := (isPop_le R.wf).mp z b B
      omega
    rw [if_neg this, if_pos q]
  · have : Sr92.isPopular d.market d.assignment = true := (isPop_le R.wf).mpr fun c C => by
      have := hm c C
      omega
    rw [if_pos this, if_neg q]
theorem say_strongest (R : Rel s d) : Says d .strongestChallenger s.strongest := by
  refine ⟨?_, rfl⟩
  obtain ⟨b, B, e, _, hc⟩ := R.chal1
  show (applicantCount d.market : Int) :: Sr92.margin d.market (Sr92.strongestChallenger d.market d.assignment) d.assignment :: Sr92.encodeAssignment d.market (Sr92.strongestChallenger d.market d.assignment) = s.strongest
  unfold M.strongest
  rw [hc, e, R.len]
  rfl
theorem say_unpop (R : Rel s d) : Says d .unpopularityFactor s.unpop := by
  refine ⟨?_, rfl⟩
  unfold M.unpop
  rw [R.ps, R.cur]
  unfold Sr92.perform
  dsimp only
  rcases factor_eq R.wf R.ia with ⟨h1, h2⟩ | ⟨x, h1, h2⟩
  · rw [h1, h2]; rfl
  · rw [h1, h2]; rfl
theorem say_count (R : Rel s d) : Says d .countAssignments s.countAsg := by
  refine ⟨?_, rfl⟩
  unfold M.countAsg
  rw [R.ps, allAsg_eq R.wf, popular_eq R.wf, List.length_map, List.length_map]
  rfl
theorem say_popAsg (R : Rel s d) (k : Int) : Says d (.popularAssignment k) (s.popAsg k) := by
  refine ⟨?_, rfl⟩
  unfold M.popAsg Sr92.perform
  dsimp only
  rw [popular_nil R, List.length_map]
  by_cases h1 : k < 0
  · rw [if_pos h1, if_pos (by simp; omega)]; rfl
  rw [if_neg h1]
  by_cases h2 : k < ((Sr92.popularAssignments d.market).length : Int)
  · have hk : k.toNat < (Sr92.popularAssignments d.market).length := by omega
    rw [if_neg (by simp; omega), map_get _ _ hk [] [], List.getD_eq_getElem?_getD, List.getElem?_eq_getElem hk]
    dsimp only
    have A := pop_isA R (List.getElem_mem hk)
    show ((Sr92.assignedCount d.market _ : Nat) : Int) :: encL d.market.houseCount _ = housed (encL d.market.houseCount _) :: encL d.market.houseCount _
    rw [← housed_eq A.len]
    rfl
  · rw [if_pos (by simp; omega), List.getElem?_eq_none (by omega)]; rfl
theorem say_choices (R : Rel s d) (i : Int) : Says d (.choices i) (s.choices i) := by
  refine ⟨?_, rfl⟩
  unfold M.choices Sr92.perform
  rw [R.has]
  dsimp only
  by_cases h1 : Sr92.isApplicant d i = false
  · rw [if_pos h1, if_pos h1]; rfl
  rw [if_neg h1, if_neg h1]
  have hi := has_iff.mp (by simpa using h1)
  have hi' : i.toNat < applicantCount d.market := by omega
  rw [R.ps, firsts_get R.wf hi', seconds_get R.wf hi']
  rfl
theorem say_check (R : Rel s d) : Says d .checkCharacterization s.check := by
  refine ⟨?_, rfl⟩
  unfold M.check
  rw [R.ps, R.cur, agree_eq R.wf R.ia]
  show [SrCommon.boolToInt (isCharacterized d.market d.assignment)] = _
  rfl
theorem total_pos (R : Rel s d) (h : d.lottery ≠ []) : 0 < Sr92.totalWeight d.lottery := by
  have e := lot_sum d.market.houseCount d.lottery
  cases hl : d.lottery with
  | nil => exact absurd hl h
  | cons y r =>
    have hy := R.wt y (by rw [hl]; exact List.mem_cons_self ..)
    rw [hl] at e
    unfold lotZ at e
    rw [List.map_cons, List.map_cons, List.sum_cons] at e
    have : ∀ r : Sr92.Lottery, 0 ≤ ((r.map fun y => ((y.2 : Int), encL d.market.houseCount y.1)).map (·.1)).sum := fun r => by
      induction r with
      | nil => exact Int.le_refl _
      | cons z r ih =>
        rw [List.map_cons, List.map_cons, List.sum_cons]
        show 0 ≤ (z.2 : Int) + _
        omega
    have := this r
    have e' : (y.2 : Int) + ((r.map fun y => ((y.2 : Int), encL d.market.houseCount y.1)).map (·.1)).sum = (Sr92.totalWeight (y :: r) : Nat) := e
    omega
theorem wm_empty (R : Rel s d) : ∃ b, IsA d.market b := ⟨_, isA_empty d.market⟩
theorem say_evalLot (R : Rel s d) : Says d .evaluateLottery s.evalLot := by
  refine ⟨?_, rfl⟩
  unfold M.evalLot Sr92.perform
  dsimp only
  by_cases h1 : d.lottery = []
  · have : s.lot = [] := by rw [R.lot, h1]; rfl
    rw [if_pos h1, if_pos this]; rfl
  have h1' : s.lot ≠ [] := by
    rw [R.lot]; unfold lotZ
    intro z; exact h1 (List.map_eq_nil_iff.mp z)
  rw [if_neg h1, if_neg h1']
  obtain ⟨b, B, hb, hm, hc⟩ := chal_eq (x := d.lottery) R.wf R.il
  have hc' : chal s.ps s.lot = (Sr92.weightedMargin d.market b d.lottery, encL d.market.houseCount b) := by rw [R.ps, R.lot]; exact hc
  rw [hc', lotChal_eq hb]
  have ht : s.total = (Sr92.totalWeight d.lottery : Nat) := by unfold M.total; rw [R.lot]; exact lot_sum _ _
  rw [ht]
  show SrCommon.boolToInt (Sr92.isPopularLottery d.market d.lottery) :: (SrFraction.encode (SrFraction.mk (Sr92.weightedMargin d.market b d.lottery) (Sr92.totalWeight d.lottery)) ++ encL d.market.houseCount b) = _
  have e1 : SrCommon.boolToInt (Sr92.isPopularLottery d.market d.lottery) = if 0 < Sr92.weightedMargin d.market b d.lottery then 0 else 1 := by
    unfold SrCommon.boolToInt
    by_cases q : 0 < Sr92.weightedMargin d.market b d.lottery
    · have : ¬ Sr92.isPopularLottery d.market d.lottery = true := fun z => by
        have := (isPopLot_le R.wf).mp z b B
        omega
      rw [if_neg this, if_pos q]
    · have : Sr92.isPopularLottery d.market d.lottery = true := (isPopLot_le R.wf).mpr fun c C => by
        have := hm c C
        omega
      rw [if_pos this, if_neg q]
  rw [e1]
  have hg := total_pos R h1
  have hgg : 0 < Nat.gcd (Sr92.weightedMargin d.market b d.lottery).natAbs (Sr92.totalWeight d.lottery) := Nat.gcd_pos_of_pos_right _ hg
  have hd : 0 < Sr92.totalWeight d.lottery / Nat.gcd (Sr92.weightedMargin d.market b d.lottery).natAbs (Sr92.totalWeight d.lottery) := Nat.div_pos (Nat.le_of_dvd hg (Nat.gcd_dvd_right _ _)) hgg
  have e2 : SrFraction.mk (Sr92.weightedMargin d.market b d.lottery) (Sr92.totalWeight d.lottery) = ⟨(low (Sr92.weightedMargin d.market b d.lottery) (Sr92.totalWeight d.lottery)).1, Sr92.totalWeight d.lottery / Nat.gcd (Sr92.weightedMargin d.market b d.lottery).natAbs (Sr92.totalWeight d.lottery)⟩ := by
    unfold SrFraction.mk
    dsimp only
    rw [if_neg (by omega), if_neg (by omega)]
    rfl
  rw [e2]
  rfl
theorem say_describe (R : Rel s d) : Says d .describe s.describe := by
  refine ⟨?_, rfl⟩
  unfold M.describe
  show (applicantCount d.market : Int) :: (d.market.houseCount : Int) :: (d.market.preferences.flatMap fun w => (w.length : Int) :: SrCommon.natsToInts w) = _
  rw [R.len, R.tot, R.ps]
  unfold czz
  rw [List.flatMap_map]
  refine congrArg _ (congrArg _ (flatMap_congr' fun w _ => ?_))
  show (w.length : Int) :: SrCommon.natsToInts w = ((cz w).length : Int) :: cz w
  unfold cz
  rw [List.length_map]
  rfl
theorem do_create (o : Option M) (D : Option Instance) (h : RelO o D) (n m : Int) : outR (Sr92.step D (.create n m)).2 = (create o n m).1 ∧ RelO (create o n m).2 (Sr92.step D (.create n m)).1 := by
  unfold create Sr92.step
  dsimp only
  have e1 : SrCommon.inRange n 1 Sr92.maxApplicants = (decide (1 ≤ n) && decide (n ≤ 5)) := rfl
  have e2 : SrCommon.inRange m 1 Sr92.maxHouses = (decide (1 ≤ m) && decide (m ≤ 5)) := rfl
  rw [e1, e2]
  by_cases q : (decide (1 ≤ n) && decide (n ≤ 5)) = false ∨ (decide (1 ≤ m) && decide (m ≤ 5)) = false
  · rw [if_pos q, if_pos q]; exact ⟨rfl, h⟩
  rw [if_neg q, if_neg q]
  have hq : (1 ≤ n ∧ n ≤ 5) ∧ (1 ≤ m ∧ m ≤ 5) := by
    constructor
    · have : ¬ (decide (1 ≤ n) && decide (n ≤ 5)) = false := fun z => q (.inl z)
      simpa using this
    · have : ¬ (decide (1 ≤ m) && decide (m ≤ 5)) = false := fun z => q (.inr z)
      simpa using this
  refine ⟨rfl, ?_⟩
  have ac : applicantCount ⟨m.toNat, List.replicate n.toNat []⟩ = n.toNat := List.length_replicate ..
  have mem : ∀ w ∈ List.replicate n.toNat ([] : List Nat), w = [] := fun w hw => List.eq_of_mem_replicate hw
  refine ⟨?_, ?_, ?_, rfl, ⟨fun w hw => ?_, fun w hw h hh => ?_⟩, isA_empty _, fun y hy => absurd hy List.not_mem_nil, ?_, ?_, ?_, Nat.zero_le _, fun y hy => absurd hy List.not_mem_nil⟩
  · show m = ((m.toNat : Nat) : Int)
    omega
  · show List.replicate n.toNat [] = czz (List.replicate n.toNat [])
    unfold czz; rw [List.map_replicate]; rfl
  · show List.replicate n.toNat (-1) = encL m.toNat _
    exact ((congrArg (fun n => List.replicate n (-1 : Int)) ac.symm)).trans (enc_empty ⟨m.toNat, List.replicate n.toNat []⟩).symm
  · rw [mem w hw]; exact List.nodup_nil
  · rw [mem w hw] at hh; cases hh
  · show 1 ≤ applicantCount ⟨m.toNat, List.replicate n.toNat []⟩
    rw [ac]; omega
  · show applicantCount ⟨m.toNat, List.replicate n.toNat []⟩ ≤ 5
    rw [ac]; omega
  · show m.toNat ≤ 5
    omega
end Hl
/-! # G. All calls; how the list is read -/
namespace Hl
open Sr92 (Market Assignment applicantCount Instance)

def tri (c : List (List Int)) : Tri := match c with
  | (p :: xs) :: rows => (p, xs, rows.headD [])
  | _ => (0, [], [])
theorem stepSome (d : Instance) (call : Sr92.Call) (hn : ∀ a b, call ≠ .create a b) : (Sr92.step (some d) call).1 = some ((Sr92.perform d call).1.getD d) ∧ (Sr92.step (some d) call).2 = (Sr92.perform d call).2 := by
  have e : Sr92.step (some d) call = match Sr92.perform d call with
      | (some changed, result) => (some changed, result)
      | (none, result) => (some d, result) := by
    cases call <;> first | rfl | exact absurd rfl (hn _ _)
  rw [e]
  rcases Sr92.perform d call with ⟨o, r⟩
  cases o <;> exact ⟨rfl, rfl⟩
theorem stepNone (call : Sr92.Call) (hn : ∀ a b, call ≠ .create a b) : Sr92.step none call = (none, .ofCode (-11)) := by
  cases call <;> first | rfl | exact absurd rfl (hn _ _)
theorem fin_does {o : Option M} {D : Option Instance} (h : RelO o D) {c : List (List Int)} {call : Sr92.Call} (hp : Sr92Neutral.parseCall c = some call) (hn : ∀ a b, call ≠ .create a b)
    (h0 : step none (tri c) = ([-11], none)) (f : M → List Int × M) (h1 : ∀ s, step (some s) (tri c) = ((f s).1, some (f s).2)) (hd : ∀ s d, Rel s d → Does s d call (f s)) :
    (Sr92Neutral.step D c).2 = (step o (tri c)).1 ∧ RelO (step o (tri c)).2 (Sr92Neutral.step D c).1 := by
  have e : Sr92Neutral.step D c = ((Sr92.step D call).1, outR (Sr92.step D call).2) := by
    unfold Sr92Neutral.step
    rw [hp]; rfl
  rw [e]
  cases o with
  | none =>
    cases D with
    | none =>
      rw [h0, stepNone call hn]
      exact ⟨rfl, trivial⟩
    | some d => exact h.elim
  | some s =>
    cases D with
    | none => exact h.elim
    | some d =>
      obtain ⟨e1, e2⟩ := stepSome d call hn
      obtain ⟨q1, q2⟩ := hd s d h
      rw [h1, e1, e2]
      exact ⟨q1, q2⟩
theorem fin_says {o : Option M} {D : Option Instance} (h : RelO o D) {c : List (List Int)} {call : Sr92.Call} (hp : Sr92Neutral.parseCall c = some call) (hn : ∀ a b, call ≠ .create a b)
    (h0 : step none (tri c) = ([-11], none)) (f : M → List Int) (h1 : ∀ s, step (some s) (tri c) = (f s, some s)) (hd : ∀ s d, Rel s d → Says d call (f s)) :
    (Sr92Neutral.step D c).2 = (step o (tri c)).1 ∧ RelO (step o (tri c)).2 (Sr92Neutral.step D c).1 :=
  fin_does h hp hn h0 (fun s => (f s, s)) h1 fun s d R => by
    obtain ⟨q1, q2⟩ := hd s d R
    refine ⟨q1, ?_⟩
    rw [q2]; exact R
theorem step_eq {o : Option M} {D : Option Instance} (h : RelO o D) {c : List (List Int)} (hc : Sr92Neutral.asked1 c = true) :
    (Sr92Neutral.step D c).2 = (step o (tri c)).1 ∧ RelO (step o (tri c)).2 (Sr92Neutral.step D c).1 := by
  unfold Sr92Neutral.asked1 at hc
  split at hc
  · exact do_create o D h _ _
  · exact fin_does h rfl (fun _ _ z => by cases z) rfl (fun s => s.setPref _ _) (fun _ => rfl) fun s d R => do_setPref R _ _
  · exact fin_does h rfl (fun _ _ z => by cases z) rfl (fun s => s.assign _ _) (fun _ => rfl) fun s d R => do_assign R _ _
  · exact fin_does h rfl (fun _ _ z => by cases z) rfl (fun s => s.unassign _) (fun _ => rfl) fun s d R => do_unassign R _
  · exact fin_does h rfl (fun _ _ z => by cases z) rfl (fun s => s.setAsg _) (fun _ => rfl) fun s d R => do_setAsg R _
  · exact fin_says h rfl (fun _ _ z => by cases z) rfl M.assignment (fun _ => rfl) fun s d R => say_assignment R
  · exact fin_says h rfl (fun _ _ z => by cases z) rfl (fun s => s.compare _) (fun _ => rfl) fun s d R => say_compare R _
  · exact fin_says h rfl (fun _ _ z => by cases z) rfl M.isPop (fun _ => rfl) fun s d R => say_isPop R
  · exact fin_says h rfl (fun _ _ z => by cases z) rfl M.strongest (fun _ => rfl) fun s d R => say_strongest R
  · exact fin_says h rfl (fun _ _ z => by cases z) rfl M.unpop (fun _ => rfl) fun s d R => say_unpop R
  · exact fin_says h rfl (fun _ _ z => by cases z) rfl M.countAsg (fun _ => rfl) fun s d R => say_count R
  · exact fin_says h rfl (fun _ _ z => by cases z) rfl (fun s => s.popAsg _) (fun _ => rfl) fun s d R => say_popAsg R _
  · exact fin_does h rfl (fun _ _ z => by cases z) rfl M.useFirst (fun _ => rfl) fun s d R => do_useFirst R
  · exact fin_says h rfl (fun _ _ z => by cases z) rfl (fun s => s.choices _) (fun _ => rfl) fun s d R => say_choices R _
  · exact fin_says h rfl (fun _ _ z => by cases z) rfl M.check (fun _ => rfl) fun s d R => say_check R
  · exact fin_does h rfl (fun _ _ z => by cases z) rfl (fun s => s.addLot _) (fun _ => rfl) fun s d R => do_addLot R _
  · exact fin_says h rfl (fun _ _ z => by cases z) rfl M.evalLot (fun _ => rfl) fun s d R => say_evalLot R
  · exact fin_does h rfl (fun _ _ z => by cases z) rfl M.clear (fun _ => rfl) fun s d R => do_clear R
  · exact fin_says h rfl (fun _ _ z => by cases z) rfl M.describe (fun _ => rfl) fun s d R => say_describe R
  · cases hc
theorem played_eq : ∀ (cs : List (List (List Int))) (o : Option M) (D : Option Instance), RelO o D → (∀ c ∈ cs, Sr92Neutral.asked1 c = true) → PyFlat.played Sr92Neutral.step D cs = played o (cs.map tri)
  | [], _, _, _, _ => rfl
  | c :: cs, o, D, h, hc => by
    obtain ⟨e1, e2⟩ := step_eq h (hc c (List.mem_cons_self ..))
    show (Sr92Neutral.step D c).2 :: PyFlat.played Sr92Neutral.step (Sr92Neutral.step D c).1 cs = (step o (tri c)).1 :: played (step o (tri c)).2 (cs.map tri)
    rw [e1, played_eq cs _ _ e2 fun x hx => hc x (List.mem_cons_of_mem _ hx)]
theorem whole_id (c : List (List Int)) : PySr92.whole c = c := by
  unfold PySr92.whole
  split <;> rfl
theorem map_whole (cs : List (List (List Int))) : cs.map PySr92.whole = cs :=
  (List.map_congr_left fun c _ => whole_id c).trans (List.map_id cs)
/-- what is asked, and what is due -/
theorem due {l : List Int} (h : PySr92.answers_asked l = true) : ∃ cs, PyFlat.calls PySr92.shape l.length l = some cs ∧ (∀ c ∈ cs, Sr92Neutral.asked1 c = true) ∧ cs.length ≤ 60 ∧
    (PyFlat.told (played none (cs.map tri))).length ≤ 10000000 ∧ PySr92.answers l = PyFlat.told (played none (cs.map tri)) := by
  unfold PySr92.answers_asked at h
  cases e : PyFlat.calls PySr92.shape l.length l with
  | none => rw [e] at h; cases h
  | some cs =>
    rw [e] at h
    dsimp only at h
    rw [map_whole] at h
    simp only [Bool.and_eq_true] at h
    obtain ⟨⟨⟨⟨_, h2⟩, _⟩, h4⟩, h5⟩ := h
    unfold Sr92Neutral.asked at h4
    simp only [Bool.and_eq_true] at h4
    have hall : ∀ c ∈ cs, Sr92Neutral.asked1 c = true := fun c hc => List.all_eq_true.mp h4.2.2 c hc
    have ea : PySr92.answers l = PyFlat.told (played none (cs.map tri)) := by
      unfold PySr92.answers PySr92.calls
      rw [e]
      show PyFlat.told (PyFlat.played Sr92Neutral.step Sr92Neutral.start (cs.map PySr92.whole)) = _
      rw [map_whole]
      exact congrArg _ (played_eq cs none none trivial hall)
    refine ⟨cs, rfl, hall, of_decide_eq_true h2, ?_, ea⟩
    rw [← ea]
    exact of_decide_eq_true h5

/-! ### the reading, a turn at a time -/
def NUM : List Nat := [2, 1, 2, 1, 0, 0, 0, 0, 0, 0, 0, 1, 0, 1, 0, 1, 0, 0, 0]
theorem shape_num {c : Int} {n k : Nat} (h : PySr92.shape c = some (n, k)) : ∃ j : Nat, c = (j : Int) ∧ NUM[j]? = some n ∧ ((k = 0 ∧ ([1, 4, 6] : List Int).contains c = false) ∨ (k = 1 ∧ ([1, 4, 6] : List Int).contains c = true)) := by
  unfold PySr92.shape at h
  by_cases c0 : c = 0
  · subst c0; cases h; exact ⟨0, rfl, rfl, .inl ⟨rfl, rfl⟩⟩
  rw [if_neg c0] at h
  by_cases c0 : c = 1
  · subst c0; cases h; exact ⟨1, rfl, rfl, .inr ⟨rfl, rfl⟩⟩
  rw [if_neg c0] at h
  by_cases c0 : c = 2
  · subst c0; cases h; exact ⟨2, rfl, rfl, .inl ⟨rfl, rfl⟩⟩
  rw [if_neg c0] at h
  by_cases c0 : c = 3
  · subst c0; cases h; exact ⟨3, rfl, rfl, .inl ⟨rfl, rfl⟩⟩
  rw [if_neg c0] at h
  by_cases c0 : c = 4
  · subst c0; cases h; exact ⟨4, rfl, rfl, .inr ⟨rfl, rfl⟩⟩
  rw [if_neg c0] at h
  by_cases c0 : c = 5
  · subst c0; cases h; exact ⟨5, rfl, rfl, .inl ⟨rfl, rfl⟩⟩
  rw [if_neg c0] at h
  by_cases c0 : c = 6
  · subst c0; cases h; exact ⟨6, rfl, rfl, .inr ⟨rfl, rfl⟩⟩
  rw [if_neg c0] at h
  by_cases c0 : c = 7
  · subst c0; cases h; exact ⟨7, rfl, rfl, .inl ⟨rfl, rfl⟩⟩
  rw [if_neg c0] at h
  by_cases c0 : c = 8
  · subst c0; cases h; exact ⟨8, rfl, rfl, .inl ⟨rfl, rfl⟩⟩
  rw [if_neg c0] at h
  by_cases c0 : c = 9
  · subst c0; cases h; exact ⟨9, rfl, rfl, .inl ⟨rfl, rfl⟩⟩
  rw [if_neg c0] at h
  by_cases c0 : c = 10
  · subst c0; cases h; exact ⟨10, rfl, rfl, .inl ⟨rfl, rfl⟩⟩
  rw [if_neg c0] at h
  by_cases c0 : c = 11
  · subst c0; cases h; exact ⟨11, rfl, rfl, .inl ⟨rfl, rfl⟩⟩
  rw [if_neg c0] at h
  by_cases c0 : c = 12
  · subst c0; cases h; exact ⟨12, rfl, rfl, .inl ⟨rfl, rfl⟩⟩
  rw [if_neg c0] at h
  by_cases c0 : c = 13
  · subst c0; cases h; exact ⟨13, rfl, rfl, .inl ⟨rfl, rfl⟩⟩
  rw [if_neg c0] at h
  by_cases c0 : c = 14
  · subst c0; cases h; exact ⟨14, rfl, rfl, .inl ⟨rfl, rfl⟩⟩
  rw [if_neg c0] at h
  by_cases c0 : c = 15
  · subst c0; cases h; exact ⟨15, rfl, rfl, .inl ⟨rfl, rfl⟩⟩
  rw [if_neg c0] at h
  by_cases c0 : c = 16
  · subst c0; cases h; exact ⟨16, rfl, rfl, .inl ⟨rfl, rfl⟩⟩
  rw [if_neg c0] at h
  by_cases c0 : c = 17
  · subst c0; cases h; exact ⟨17, rfl, rfl, .inl ⟨rfl, rfl⟩⟩
  rw [if_neg c0] at h
  by_cases c0 : c = 18
  · subst c0; cases h; exact ⟨18, rfl, rfl, .inl ⟨rfl, rfl⟩⟩
  rw [if_neg c0] at h
  cases h
/-- what stands at the place p: a call, its numbers, its row if it has one, then the rest -/
theorem turn_calls {l : List Int} {p f : Nat} {cs : List (List (List Int))} (h : PyFlat.calls PySr92.shape f (l.drop p) = some cs) (hp : p < l.length) :
    ∃ (j n : Nat) (rest : List (List (List Int))) (f' : Nat), l[p]? = some (j : Int) ∧ NUM[j]? = some n ∧ p + 1 + n ≤ l.length ∧
      ((([1, 4, 6] : List Int).contains (j : Int) = false ∧ cs = [(j : Int) :: (l.drop (p + 1)).take n] :: rest ∧ PyFlat.calls PySr92.shape f' (l.drop (p + 1 + n)) = some rest) ∨
       (([1, 4, 6] : List Int).contains (j : Int) = true ∧ ∃ z : Nat, l[p + 1 + n]? = some (z : Int) ∧ p + 1 + n + 1 + z ≤ l.length ∧
          cs = [(j : Int) :: (l.drop (p + 1)).take n, (l.drop (p + 1 + n + 1)).take z] :: rest ∧ PyFlat.calls PySr92.shape f' (l.drop (p + 1 + n + 1 + z)) = some rest)) := by
  rw [List.drop_eq_getElem_cons hp] at h
  cases f with
  | zero => cases h
  | succ f =>
    unfold PyFlat.calls at h
    cases e : PyFlat.call PySr92.shape (l[p] :: l.drop (p + 1)) with
    | none => rw [e] at h; cases h
    | some q =>
      obtain ⟨raw, t⟩ := q
      rw [e] at h
      dsimp only at h
      cases e2 : PyFlat.calls PySr92.shape f t with
      | none => rw [e2] at h; cases h
      | some rest =>
        rw [e2] at h
        cases h
        unfold PyFlat.call at e
        dsimp only at e
        cases e3 : PySr92.shape l[p] with
        | none => rw [e3] at e; cases e
        | some nk =>
          obtain ⟨n, k⟩ := nk
          rw [e3] at e
          dsimp only at e
          by_cases c1 : (l.drop (p + 1)).length < n
          · rw [if_pos c1] at e; cases e
          rw [if_neg c1] at e
          obtain ⟨j, ej, hn, hk⟩ := shape_num e3
          have hlp : l[p]? = some (j : Int) := by rw [List.getElem?_eq_getElem hp, ej]
          have hle : p + 1 + n ≤ l.length := by rw [List.length_drop] at c1; omega
          rcases hk with ⟨hk, hw⟩ | ⟨hk, hw⟩
          · subst hk
            have e' : some ((l[p] :: (l.drop (p + 1)).take n) :: [], (l.drop (p + 1)).drop n) = some (raw, t) := e
            have e'' := Option.some.inj e'
            rw [Prod.mk.injEq] at e''
            obtain ⟨e4, e5⟩ := e''
            rw [List.drop_drop] at e5
            rw [ej] at e4
            refine ⟨j, n, rest, f, hlp, hn, hle, .inl ⟨by rw [← ej]; exact hw, by rw [e4], ?_⟩⟩
            rw [e5]; exact e2
          · subst hk
            rw [List.drop_drop] at e
            unfold PyFlat.rows at e
            cases e6 : PyFlat.row (l.drop (p + 1 + n)) with
            | none => rw [e6] at e; cases e
            | some q =>
              obtain ⟨x, s⟩ := q
              rw [e6] at e
              have e' : some ((l[p] :: (l.drop (p + 1)).take n) :: [x], s) = some (raw, t) := e
              have e'' := Option.some.inj e'
              rw [Prod.mk.injEq] at e''
              obtain ⟨e4, e5⟩ := e''
              by_cases c2 : p + 1 + n < l.length
              · rw [List.drop_eq_getElem_cons c2] at e6
                unfold PyFlat.row at e6
                dsimp only at e6
                by_cases c3 : 0 ≤ l[p + 1 + n] ∧ (l[p + 1 + n]).toNat ≤ (l.drop (p + 1 + n + 1)).length
                · rw [if_pos c3] at e6
                  have e7 := Option.some.inj e6
                  rw [Prod.mk.injEq] at e7
                  obtain ⟨e8, e9⟩ := e7
                  obtain ⟨c4, c5⟩ := c3
                  rw [List.length_drop] at c5
                  rw [List.drop_drop] at e9
                  rw [ej] at e4
                  refine ⟨j, n, rest, f, hlp, hn, hle, .inr ⟨by rw [← ej]; exact hw, (l[p + 1 + n]).toNat, ?_, by omega, ?_, ?_⟩⟩
                  · rw [List.getElem?_eq_getElem c2]
                    exact congrArg some (by omega)
                  · rw [← e4, ← e8]
                  · rw [e9, e5]; exact e2
                · rw [if_neg c3] at e6; cases e6
              · rw [List.drop_eq_nil_of_le (by omega)] at e6
                cases e6
/-! ### the state behind so many calls -/
def after (o : Option M) : List Tri → Option M
  | [] => o
  | t :: r => after (step o t).2 r
theorem after_snoc : ∀ (ts : List Tri) (o : Option M) (t : Tri), after o (ts ++ [t]) = (step (after o ts) t).2
  | [], o, t => rfl
  | x :: ts, o, t => after_snoc ts (step o x).2 t
theorem played_snoc : ∀ (ts : List Tri) (o : Option M) (t : Tri), played o (ts ++ [t]) = played o ts ++ [(step (after o ts) t).1]
  | [], o, t => rfl
  | x :: ts, o, t => by
    show (step o x).1 :: played (step o x).2 (ts ++ [t]) = (step o x).1 :: (played (step o x).2 ts ++ [(step (after (step o x).2 ts) t).1])
    rw [played_snoc ts (step o x).2 t]
def Good (o : Option M) : Prop := ∃ D, RelO o D
theorem good_step {o : Option M} (h : Good o) {c : List (List Int)} (hc : Sr92Neutral.asked1 c = true) : Good (step o (tri c)).2 := by
  obtain ⟨D, h⟩ := h
  exact ⟨_, (step_eq h hc).2⟩
theorem good_after : ∀ (cs : List (List (List Int))) (o : Option M), Good o → (∀ c ∈ cs, Sr92Neutral.asked1 c = true) → Good (after o (cs.map tri))
  | [], _, h, _ => h
  | c :: cs, o, h, hc => good_after cs _ (good_step h (hc c (List.mem_cons_self ..))) fun x hx => hc x (List.mem_cons_of_mem _ hx)
theorem told_snoc (l : List (List Int)) (a : List Int) : PyFlat.told (l ++ [a]) = PyFlat.told l ++ ((a.length : Int) :: a) := by
  unfold PyFlat.told
  rw [List.flatMap_append]
  simp
theorem played_append : ∀ (ts rs : List Tri) (o : Option M), played o (ts ++ rs) = played o ts ++ played (after o ts) rs
  | [], _, _ => rfl
  | x :: ts, rs, o => by
    show (step o x).1 :: played (step o x).2 (ts ++ rs) = (step o x).1 :: (played (step o x).2 ts ++ _)
    rw [played_append ts rs]
    rfl
end Hl
/-! # Z. Two rules that the layer lacks: zip of three lists; len(set(..)) of any list of whole numbers -/
namespace HlZ
open PySem PySem.Spec PyProof.Rows L2

/-- the lists at a, b and c as they stand at each turn, the items in new triples; it stops where the first of them ends -/
def Itz3 (K : PySem.W.Frag) (a b c : Addr) : It :=
  ⟨fun i H => ∃ (xs ys zs : List V) (x y z : V), SqL K H a xs ∧ SqL K H b ys ∧ SqL K H c zs ∧ xs[i]? = some x ∧ ys[i]? = some y ∧ zs[i]? = some z,
    fun i H v H' => ∃ T x y z, v = .ref T ∧ H T = none ∧ H' = upd H T (.tup [x, y, z]) ∧ (∀ xs, SqL K H a xs → xs[i]? = some x) ∧ (∀ ys, SqL K H b ys → ys[i]? = some y) ∧ ∀ zs, SqL K H c zs → zs[i]? = some z,
    fun i H => ∃ xs ys zs : List V, SqL K H a xs ∧ SqL K H b ys ∧ SqL K H c zs ∧ i = min (min xs.length ys.length) zs.length⟩
def Cells3 (z TI TO i1 i2 i3 a b c : Addr) (i : Nat) (h : Heap) : Prop :=
  IsZip h z TI TO .none ∧ IsTupOf3 h TI (.ref i1) (.ref i2) (.ref i3) ∧ (∃ x y u, IsTupOf3 h TO x y u) ∧ h.IsListIter i1 a i ∧ h.IsListIter i2 b i ∧ h.IsListIter i3 c i
theorem turn_zip3 {P : Program} {w : World} {K : PySem.W.Frag} {elts : List Expr} {kk : Nat} {tpos : Pos} {a b c z TI TO i1 i2 i3 : Addr} (S : ZipSep3 z TI TO i1 i2 i3 [i1, a] [i2, b] [i3, c])
    (n1 : a ≠ i1) (n2 : b ≠ i2) (n3 : c ≠ i3) :
    Turn P w K (.Tuple elts kk tpos) (Itz3 K a b c) [z, TI, TO, i1, i2, i3] z (Cells3 z TI TO i1 i2 i3 a b c) where
  mem := by simp
  obj := fun i h st d hd => by
    obtain ⟨hz, hTI, ⟨x, y, u, hTO⟩, ⟨o1, e1, _, d1⟩, ⟨o2, e2, _, d2⟩, ⟨o3, e3, _, d3⟩⟩ := st
    have e' : d = z ∨ d = TI ∨ d = TO ∨ d = i1 ∨ d = i2 ∨ d = i3 := by simpa using hd
    rcases e' with q | q | q | q | q | q
    · rw [q]; exact ⟨_, hz, fun v q => nomatch q⟩
    · rw [q]; exact ⟨_, hTI, fun v q => nomatch q⟩
    · rw [q]; exact ⟨_, hTO, fun v q => nomatch q⟩
    · rw [q]; exact ⟨o1, e1, fun v q => by rw [d1] at q; cases q⟩
    · rw [q]; exact ⟨o2, e2, fun v q => by rw [d2] at q; cases q⟩
    · rw [q]; exact ⟨o3, e3, fun v q => by rw [d3] at q; cases q⟩
  keep := fun i h h' st k => by
    obtain ⟨hz, hTI, ⟨x, y, u, hTO⟩, h1, h2, h3⟩ := st
    exact ⟨k z (by simp) _ hz, k TI (by simp) _ hTI, ⟨x, y, u, k TO (by simp) _ hTO⟩, h1.at fun o q => k i1 (by simp) o q, h2.at fun o q => k i2 (by simp) o q, h3.at fun o q => k i3 (by simp) o q⟩
  item := by
    intro X hP hw hK hc i pins s σ H E I hf st hg
    subst hP hw hK
    obtain ⟨xs, ys, zs, x, y, u, hqx, hqy, hqz, hx, hy, hu⟩ := hg
    obtain ⟨its, rv, p, _⟩ := I.list hqx
    obtain ⟨its2, rv2, p2, _⟩ := I.list hqy
    obtain ⟨its3, rv3, p3, _⟩ := I.list hqz
    obtain ⟨v1, hv1, r1⟩ := rv.get hx
    obtain ⟨v2, hv2, r2⟩ := rv2.get hy
    obtain ⟨v3, hv3, r3⟩ := rv3.get hu
    have hh := I.ok.hd hc
    have W := GoesN.zip3 (prog := X.prog) (w := X.w) (A := X.A) (elts := elts) (x1 := kk) (pos := tpos) S (Draws.list (A := X.A.in1) hh i1 a n1 its.toArray) (Draws.list (A := X.A.in1) hh i2 b n2 its2.toArray) (Draws.list (A := X.A.in1) hh i3 c n3 its3.toArray)
    have l1 := (List.getElem?_eq_some_iff.mp hv1).1
    have l2 := (List.getElem?_eq_some_iff.mp hv2).1
    have l3 := (List.getElem?_eq_some_iff.mp hv3).1
    obtain ⟨hz, hTI, hTO, h1, h2, h3⟩ := st
    have hlt : ∀ d ∈ [z, TI, TO, i1, i2, i3], d < s.heap.objs.size := by
      intro d hd
      have e' : d = z ∨ d = TI ∨ d = TO ∨ d = i1 ∨ d = i2 ∨ d = i3 := by simpa using hd
      obtain ⟨_, _, _, hTO⟩ := hTO
      obtain ⟨_, e1, _⟩ := h1
      obtain ⟨_, e2, _⟩ := h2
      obtain ⟨_, e3, _⟩ := h3
      rcases e' with q | q | q | q | q | q
      · rw [q]; exact Heap.lt_size hz
      · rw [q]; exact Heap.lt_size hTI
      · rw [q]; exact Heap.lt_size hTO
      · rw [q]; exact Heap.lt_size e1
      · rw [q]; exact Heap.lt_size e2
      · rw [q]; exact Heap.lt_size e3
    have hTOlt := hlt TO (by simp)
    refine W.goes i s (fun v s2 => ∃ x H', Inv X pins σ H' s2 ∧ RelV x v ∧ (Itz3 X.K a b c).yld i H x H' ∧ Cells3 z TI TO i1 i2 i3 a b c (i + 1) s2.heap ∧ ∀ b ∈ [z, TI, TO, i1, i2, i3], H' b = none) E
      (by simp only [List.size_toArray]; omega) ⟨hz, hTI, hTO, ⟨h1, p.isList⟩, ⟨h2, p2.isList⟩, ⟨h3, p3.isList⟩⟩ fun v h' tk hY st' hk htk => ?_
    obtain ⟨T, x', y', u', ev, hT, hx', hy', hu', hTup⟩ := hY
    obtain ⟨hz', hTI', hTO', ⟨h1', _⟩, ⟨h2', _⟩, ⟨h3', _⟩⟩ := st'
    subst ev
    have ex : x' = v1 := by rw [show its.toArray[i]? = some v1 by simpa using hv1] at hx'; exact (Option.some.inj hx').symm
    have ey : y' = v2 := by rw [show its2.toArray[i]? = some v2 by simpa using hv2] at hy'; exact (Option.some.inj hy').symm
    have eu : u' = v3 := by rw [show its3.toArray[i]? = some v3 by simpa using hv3] at hu'; exact (Option.some.inj hu').symm
    subst ex ey eu
    have hfT : H T = none := I.hok.fresh hT
    have new : ObjOk X.prog X.w (upd H T (.tup [x, y, u])) h' T (.tup [x, y, u]) :=
      ⟨by show 3 ≤ sizeLine; decide, [x', y', u'], .cons r1 (.cons r2 (.cons r3 .nil)), hTup⟩
    have I1 : Inv X pins σ (upd H T (.tup [x, y, u])) { s with heap := h', toks := tk } :=
      I.turnedNew (t' := tk) (ch := [z, TI, TO, i1, i2, i3]) (fun d o hb q => hk d o (fun q' => hb (by
        have : d = z ∨ d = TO ∨ d = i1 ∨ d = i2 ∨ d = i3 := by simpa using q'
        rcases this with e | e | e | e | e <;> simp [e])) q) hf hT new
    refine ⟨.ref T, _, I1, rfl, ⟨T, x, y, u, rfl, hfT, rfl, fun l hl => by rw [I.list_inj hl hqx]; exact hx, fun l hl => by rw [I.list_inj hl hqy]; exact hy, fun l hl => by rw [I.list_inj hl hqz]; exact hu⟩,
      ⟨hz', hTI', hTO', h1', h2', h3'⟩, fun d hd => ?_⟩
    rw [upd_ne (Nat.ne_of_lt (Nat.lt_of_lt_of_le (hlt d hd) hT))]
    exact (hf d hd).1
  done := by
    intro X hP hw hK hc i pins s σ H E I hf st hg
    subst hP hw hK
    obtain ⟨hz, hTI, hTO, h1, h2, h3⟩ := st
    obtain ⟨xs, ys, zs, hqx, hqy, hqz, hend⟩ := hg
    obtain ⟨its, rv, p, _⟩ := I.list hqx
    obtain ⟨its2, rv2, p2, _⟩ := I.list hqy
    obtain ⟨its3, rv3, p3, _⟩ := I.list hqz
    have l1 := rv.length
    have l2 := rv2.length
    have l3 := rv3.length
    have hh := I.ok.hd hc
    have W := GoesN.zip3 (prog := X.prog) (w := X.w) (A := X.A) (elts := elts) (x1 := kk) (pos := tpos) S (Draws.list (A := X.A.in1) hh i1 a n1 its.toArray) (Draws.list (A := X.A.in1) hh i2 b n2 its2.toArray) (Draws.list (A := X.A.in1) hh i3 c n3 its3.toArray)
    have ei : min (min its.toArray.size its2.toArray.size) its3.toArray.size = i := by
      simp only [List.size_toArray]
      omega
    refine W.stops s (fun s1 => Inv X pins σ H s1) E (by rw [ei]; exact ⟨hz, hTI, hTO, ⟨h1, p.isList⟩, ⟨h2, p2.isList⟩, ⟨h3, p3.isList⟩⟩) fun h' tk hk htk => ?_
    exact I.turnedL (t' := tk) (ch := [z, TI, TO, i1, i2, i3]) (fun d o hb q => hk d o (fun q' => hb (by
        have : d = z ∨ d = TO ∨ d = i1 ∨ d = i2 ∨ d = i3 := by simpa using q'
        rcases this with e | e | e | e | e <;> simp [e])) q) hf
  self := fun A i s Q E st h => wpAny_pyIter_zip st.1 h
def iZip3 (K : PySem.W.Frag) (ta : TA) : TI := fun σ H R => ta σ H fun vs H1 => ∃ a b c xs ys zs, vs = [.ref a, .ref b, .ref c] ∧ SqL K H1 a xs ∧ SqL K H1 b ys ∧ SqL K H1 c zs ∧ R (Itz3 K a b c) H1
theorem pi_zip3 {X : Cx} {e e2 e3 : Expr} {ta : TA} {p pos tpos : Pos} {elts : List Expr} {kk : Nat} (hg : Gl X "zip") (hm : X.mg "zip" = none) (ha : PA X [e, e2, e3] ta)
    (hs : starEach [e, e2, e3] X.env = (false, eval e X.env) :: starEach [e2, e3] X.env := by rfl) (hpl : (backTo pos (starEach [e2, e3] X.env)).any (·.1) = false := by rfl) :
    PI X (.Tuple elts kk tpos) (.Call (.Name "zip" p) [e, e2, e3] [] pos) (iZip3 X.K ta) := by
  refine ⟨fun pins s σ H R I h => ?_⟩
  refine Call_ (ld_blt I hg hm PyProof.Rows.boot_zip (PyProof.Rows.callWith_type1 (thn (ha.run pos pins s σ H _ I h) fun us s1 ⟨vs, H1, I1, r1, q1⟩ => ?_) hs hpl))
  obtain ⟨a, b, c, xs, ys, zs, ex, hqx, hqy, hqz, q⟩ := q1
  subst ex
  cases r1 with
  | cons r rr =>
    cases rr with
    | cons r' rr =>
      cases rr with
      | cons r'' rr =>
        cases rr
        cases r
        cases r'
        cases r''
        obtain ⟨its, rv, p1, _⟩ := I1.list hqx
        obtain ⟨its2, rv2, p2, _⟩ := I1.list hqy
        obtain ⟨its3, rv3, p3, _⟩ := I1.list hqz
        have la : a < s1.heap.objs.size := p1.lt
        have lb : b < s1.heap.objs.size := p2.lt
        have lc : c < s1.heap.objs.size := p3.lt
        refine zip_begins3 (begins_list a its.toArray) (begins_list b its2.toArray) (begins_list c its3.toArray) p1.isList p2.isList p3.isList fun h' hz hTI hTO h1 h2 h3 hsz hk => wpAny_pyIter_zip hz ?_
        have I2 : Inv X pins σ H1 { s1 with heap := h' } := I1.kept (t' := s1.toks) hk
        refine ⟨s1.heap.objs.size + 5, [s1.heap.objs.size + 5, s1.heap.objs.size + 3, s1.heap.objs.size + 4, s1.heap.objs.size, s1.heap.objs.size + 1, s1.heap.objs.size + 2], _, _, H1, rfl, I2,
          turn_zip3 (zip_sep3 (N := s1.heap.objs.size) (fp1 := [a]) (fp2 := [b]) (fp3 := [c]) (by simpa using la) (by simpa using lb) (by simpa using lc)) (Nat.ne_of_lt la) (Nat.ne_of_lt (Nat.lt_succ_of_lt lb)) (Nat.ne_of_lt (Nat.lt_add_right 2 lc)),
          ⟨hz, hTI, ⟨_, _, _, hTO⟩, ⟨_, h1, rfl, rfl⟩, ⟨_, h2, rfl, rfl⟩, ⟨_, h3, rfl, rfl⟩⟩, fun d hd => ?_, q⟩
        have e' : d = s1.heap.objs.size + 5 ∨ d = s1.heap.objs.size + 3 ∨ d = s1.heap.objs.size + 4 ∨ d = s1.heap.objs.size ∨ d = s1.heap.objs.size + 1 ∨ d = s1.heap.objs.size + 2 := by simpa using hd
        have hle : s1.heap.objs.size ≤ d := by
          rcases e' with z | z | z | z | z | z
          · rw [z]; exact Nat.le_add_right _ _
          · rw [z]; exact Nat.le_add_right _ _
          · rw [z]; exact Nat.le_add_right _ _
          · rw [z]; exact Nat.le_refl _
          · rw [z]; exact Nat.le_add_right _ _
          · rw [z]; exact Nat.le_add_right _ _
        exact I1.fpOk hle (I1.hok.fresh hle)
/-- what a turn of the walk over three lists hands over -/
def YTri (xs ys zs : Nat → Option V) : Nat → Hp → V → Hp → Prop := fun i H v H' => ∃ T x y z, v = .ref T ∧ H T = none ∧ H' = upd H T (.tup [x, y, z]) ∧ xs i = some x ∧ ys i = some y ∧ zs i = some z
theorem walk_zip3 {K : PySem.W.Frag} {a b c : Addr} {xs ys zs : List V} {n : Nat} (hn : n = min (min xs.length ys.length) zs.length) :
    Walk (Itz3 K a b c) n (fun H => SqL K H a xs ∧ SqL K H b ys ∧ SqL K H c zs) (YTri (fun i => xs[i]?) (fun i => ys[i]?) (fun i => zs[i]?)) := by
  subst hn
  refine ⟨fun i _ hi q => ?_, fun _ q => ⟨xs, ys, zs, q.1, q.2.1, q.2.2, rfl⟩, fun i H v H' _ q y => ?_⟩
  · have h1 : i < xs.length := by omega
    have h2 : i < ys.length := by omega
    have h3 : i < zs.length := by omega
    exact ⟨xs, ys, zs, xs[i], ys[i], zs[i], q.1, q.2.1, q.2.2, by simp [h1], by simp [h2], by simp [h3]⟩
  · obtain ⟨T, x, z, u, h1, h2, h3, h4, h5, h6⟩ := y
    exact ⟨T, x, z, u, h1, h2, h3, h4 xs q.1, h5 ys q.2.1, h6 zs q.2.2⟩

/-! ### len(set(xs)), xs any list of whole numbers -/
def met (ns : List Int) : List Int := PyProof.Rows.firstMet (fun i => ns.getD i 0) ns.length
def tLenSetG (K : PySem.W.Frag) (ta : TE) : TE := fun σ H Q => ta σ H fun x H1 => ∃ (l : Addr) (ns : List Int), x = .ref l ∧ SqL K H1 l (ns.map V.int) ∧ ns.length ≤ 4000 ∧ Q (.int ((met ns).length : Nat)) H1
theorem firstMet_le (f : Nat → Int) : ∀ n, (PyProof.Rows.firstMet f n).length ≤ n
  | 0 => Nat.le_refl _
  | n + 1 => by
    have ih := firstMet_le f n
    rw [PyProof.Rows.firstMet_succ]
    show (if (PyProof.Rows.firstMet f n).any (· == f n) then PyProof.Rows.firstMet f n else PyProof.Rows.firstMet f n ++ [f n]).length ≤ n + 1
    split
    · omega
    · rw [List.length_append]; simp; omega
theorem pe_lenSetG {X : Cx} {a : Expr} {ta : TE} {p p2 q pos : Pos} (hg : Gl X "len") (hm : X.mg "len" = none) (hg2 : Gl X "set") (hm2 : X.mg "set" = none) (ha : PE X a ta) (hc : X.calm = true := by rfl)
    (na : starEach [a] X.env = (false, eval a X.env) :: starEach [] X.env := by rfl) : PE X (.Call (.Name "len" p) [.Call (.Name "set" p2) [a] [] q] [] pos) (tLenSetG X.K ta) := by
  refine ⟨fun pins s σ H Q I h => ?_⟩
  refine Call_ (ld_blt I hg hm boot_len ?_)
  refine PyProof.Rows.callWith_builtin1 (PyProof.Rows.args_cons ?_ rfl) rfl rfl
  refine Call_ (ld_blt I hg2 hm2 boot_set ?_)
  refine PyProof.Rows.callWith_type1 (PyProof.Rows.args_cons (thn (ha.run pins s σ H _ I h) fun v s1 ⟨x, H1, I1, r1, q1⟩ => PyProof.Rows.args_nil ?_) na) na rfl
  obtain ⟨l, ns, rfl, hq, hl, q1⟩ := q1
  cases r1
  obtain ⟨its, r, pl, hz⟩ := I1.list hq
  have hlen : its.toArray.size = ns.length := by rw [List.size_toArray, ← r.length, List.length_map]
  refine call_set_list (I1.ok.hd hc) pl.isList (by simpa using RZ.intsAre_vals r) (by rw [hlen]; unfold scanBound; omega) fun h' tk hS hk => ?_
  refine PyProof.Rows.args_nil ?_
  rw [hlen] at hS
  obtain ⟨o, es, ep, t, ho, hex, hd, _, _, _, hf, hn⟩ := hS
  have hle := firstMet_le (fun i => ns.getD i 0) ns.length
  have I2 : Inv X pins σ H1 { s1 with heap := h', toks := tk } := I1.kept fun b o e => hk b o (Heap.lt_size e) e
  exact call_len_set ho hex hd hf (by rw [hn] <;> omega) ⟨.int (met ns).length, H1, I2.tok _, ⟨_, by rw [hn]; rfl⟩, q1⟩
/-- so many as there are, if and only if none comes twice -/
theorem met_take (l : List Int) : ∀ n, n ≤ l.length → ((PyProof.Rows.firstMet (fun i => l.getD i 0) n).length = n ↔ (l.take n).Nodup) ∧ ∀ x, x ∈ PyProof.Rows.firstMet (fun i => l.getD i 0) n ↔ x ∈ l.take n
  | 0, _ => ⟨⟨fun _ => List.nodup_nil, fun _ => rfl⟩, fun x => Iff.rfl⟩
  | n + 1, hn => by
    obtain ⟨i1, i2⟩ := met_take l n (Nat.le_of_succ_le hn)
    have hlt : n < l.length := hn
    have ha : l.getD n 0 = l[n] := by rw [List.getD_eq_getElem?_getD, List.getElem?_eq_getElem hlt]; rfl
    have ht : l.take (n + 1) = l.take n ++ [l[n]] := by rw [List.take_add_one, List.getElem?_eq_getElem hlt]; rfl
    generalize l[n] = a at ha ht
    have e : PyProof.Rows.firstMet (fun i => l.getD i 0) (n + 1) = if (PyProof.Rows.firstMet (fun i => l.getD i 0) n).any (· == a) then PyProof.Rows.firstMet (fun i => l.getD i 0) n else PyProof.Rows.firstMet (fun i => l.getD i 0) n ++ [a] := by
      rw [PyProof.Rows.firstMet_succ, ha] <;> rfl
    have hle := firstMet_le (fun i => l.getD i 0) n
    rw [e, ht]
    by_cases c : a ∈ l.take n
    · have c' : (PyProof.Rows.firstMet (fun i => l.getD i 0) n).any (· == a) = true := List.any_eq_true.mpr ⟨a, (i2 a).mpr c, by simp⟩
      rw [if_pos c']
      refine ⟨⟨fun z => by omega, fun z => ?_⟩, fun x => ?_⟩
      · rw [List.nodup_append] at z
        exact absurd rfl (z.2.2 a c a (List.mem_singleton.mpr rfl))
      · rw [i2 x, List.mem_append, List.mem_singleton]
        exact ⟨.inl, fun z => z.elim id fun y => by rw [y]; exact c⟩
    · have c' : (PyProof.Rows.firstMet (fun i => l.getD i 0) n).any (· == a) ≠ true := fun z => by
        obtain ⟨y, hy, ey⟩ := List.any_eq_true.mp z
        have : y = a := by simpa using ey
        rw [this] at hy
        exact c ((i2 a).mp hy)
      rw [if_neg c']
      refine ⟨?_, fun x => by rw [List.mem_append, List.mem_append, i2 x]⟩
      rw [List.length_append, List.nodup_append]
      constructor
      · intro z
        refine ⟨i1.mp (by simpa using z), by simp, fun x hx y hy e => ?_⟩
        rw [List.mem_singleton.mp hy] at e
        exact c (by rw [← e]; exact hx)
      · rintro ⟨z, _, _⟩
        have := i1.mpr z
        rw [this]; rfl
theorem met_nodup (ns : List Int) : ((met ns).length = ns.length ↔ ns.Nodup) := by
  have h := (met_take ns ns.length (Nat.le_refl _)).1
  rwa [List.take_length] at h
end HlZ
/-! # P. The text by places; what the top has left; the calls in short -/
namespace Hl
open PySem PySem.Spec PyProof.Rows L2
open PySem.W (Codec)
def top (i : Nat) : Stmt := PySem.Challenge.pw_houselot_s01_answers.main.body.getD i (.Pass ⟨0, 0, 0, 0⟩)
abbrev s_count_housed : Stmt := top 9
theorem sc_count_housed : FnScope ["assignment"] ["assignment"] (defScope s_count_housed) := ⟨rfl, rfl, rfl, by decide +kernel, rfl, by decide +kernel, by decide +kernel⟩
abbrev s_is_assignment : Stmt := top 10
theorem sc_is_assignment : FnScope ["preferences", "numbers", "taken", "house", "houses"] ["preferences", "numbers"] (defScope s_is_assignment) := ⟨rfl, rfl, rfl, by decide +kernel, rfl, by decide +kernel, by decide +kernel⟩
abbrev s_all_assignments : Stmt := top 11
theorem sc_all_assignments : FnScope ["preferences", "found", "houses", "offers", "longer", "begun", "house"] ["preferences"] (defScope s_all_assignments) := ⟨rfl, rfl, rfl, by decide +kernel, rfl, by decide +kernel, by decide +kernel⟩
abbrev s_first_choices : Stmt := top 13
theorem sc_first_choices : FnScope ["preferences", "houses"] ["preferences"] (defScope s_first_choices) := ⟨rfl, rfl, rfl, by decide +kernel, rfl, by decide +kernel, by decide +kernel⟩
abbrev s_second_choices : Stmt := top 14
theorem sc_second_choices : FnScope ["preferences", "firsts", "found", "houses", "others", "house"] ["preferences"] (defScope s_second_choices) := ⟨rfl, rfl, rfl, by decide +kernel, rfl, by decide +kernel, by decide +kernel⟩
abbrev s_agrees : Stmt := top 15
theorem sc_agrees : FnScope ["firsts", "seconds", "assignment", "house", "first", "second"] ["firsts", "seconds", "assignment"] (defScope s_agrees) := ⟨rfl, rfl, rfl, by decide +kernel, rfl, by decide +kernel, by decide +kernel⟩
abbrev s_is_characterized : Stmt := top 16
theorem sc_is_characterized : FnScope ["preferences", "assignment"] ["preferences", "assignment"] (defScope s_is_characterized) := ⟨rfl, rfl, rfl, by decide +kernel, rfl, by decide +kernel, by decide +kernel⟩
abbrev s_popular_assignments : Stmt := top 17
theorem sc_popular_assignments : FnScope ["preferences", "firsts", "seconds", "assignment"] ["preferences"] (defScope s_popular_assignments) := ⟨rfl, rfl, rfl, by decide +kernel, rfl, by decide +kernel, by decide +kernel⟩
abbrev s_lowest_terms : Stmt := top 19
theorem sc_lowest_terms : FnScope ["numerator", "denominator", "common", "rest", "remainder"] ["numerator", "denominator"] (defScope s_lowest_terms) := ⟨rfl, rfl, rfl, by decide +kernel, rfl, by decide +kernel, by decide +kernel⟩
abbrev s_rank : Stmt := top 21
theorem sc_rank : FnScope ["houses", "house"] ["houses", "house"] (defScope s_rank) := ⟨rfl, rfl, rfl, by decide +kernel, rfl, by decide +kernel, by decide +kernel⟩
abbrev s_vote : Stmt := top 22
theorem sc_vote : FnScope ["houses", "house", "other"] ["houses", "house", "other"] (defScope s_vote) := ⟨rfl, rfl, rfl, by decide +kernel, rfl, by decide +kernel, by decide +kernel⟩
abbrev s_votes : Stmt := top 23
theorem sc_votes : FnScope ["preferences", "assignment", "other", "total", "i", "houses"] ["preferences", "assignment", "other"] (defScope s_votes) := ⟨rfl, rfl, rfl, by decide +kernel, rfl, by decide +kernel, by decide +kernel⟩
abbrev s_weighted_votes : Stmt := top 24
theorem sc_weighted_votes : FnScope ["houses", "i", "lottery", "sums", "house", "weight", "entry"] ["houses", "i", "lottery"] (defScope s_weighted_votes) := ⟨rfl, rfl, rfl, by decide +kernel, rfl, by decide +kernel, by decide +kernel⟩
abbrev s_weighted_margin : Stmt := top 25
theorem sc_weighted_margin : FnScope ["sums", "assignment", "i", "house"] ["sums", "assignment"] (defScope s_weighted_margin) := ⟨rfl, rfl, rfl, by decide +kernel, rfl, by decide +kernel, by decide +kernel⟩
abbrev s_find_challenger : Stmt := top 26
theorem sc_find_challenger : FnScope ["preferences", "lottery", "sums", "i", "houses", "challengers", "margins", "challenger", "greatest"] ["preferences", "lottery"] (defScope s_find_challenger) := ⟨rfl, rfl, rfl, by decide +kernel, rfl, by decide +kernel, by decide +kernel⟩
abbrev s_find_factor : Stmt := top 27
theorem sc_find_factor : FnScope ["preferences", "assignment", "numerator", "denominator", "challenger", "won", "lost"] ["preferences", "assignment"] (defScope s_find_factor) := ⟨rfl, rfl, rfl, by decide +kernel, rfl, by decide +kernel, by decide +kernel⟩
abbrev s_M_init : Stmt := inClass (top 31) 0
theorem sc_M_init : FnScope ["self", "n", "m", "applicant"] ["self", "n", "m"] (defScope s_M_init) := ⟨rfl, rfl, rfl, by decide +kernel, rfl, by decide +kernel, by decide +kernel⟩
abbrev s_M_has_applicant : Stmt := inClass (top 31) 1
theorem sc_M_has_applicant : FnScope ["self", "i"] ["self", "i"] (defScope s_M_has_applicant) := ⟨rfl, rfl, rfl, by decide +kernel, rfl, by decide +kernel, by decide +kernel⟩
abbrev s_M_is_preference_list : Stmt := inClass (top 31) 2
theorem sc_M_is_preference_list : FnScope ["self", "houses", "house"] ["self", "houses"] (defScope s_M_is_preference_list) := ⟨rfl, rfl, rfl, by decide +kernel, rfl, by decide +kernel, by decide +kernel⟩
abbrev s_M_set_preferences : Stmt := inClass (top 31) 3
theorem sc_M_set_preferences : FnScope ["self", "i", "houses"] ["self", "i", "houses"] (defScope s_M_set_preferences) := ⟨rfl, rfl, rfl, by decide +kernel, rfl, by decide +kernel, by decide +kernel⟩
abbrev s_M_assign : Stmt := inClass (top 31) 4
theorem sc_M_assign : FnScope ["self", "i", "h"] ["self", "i", "h"] (defScope s_M_assign) := ⟨rfl, rfl, rfl, by decide +kernel, rfl, by decide +kernel, by decide +kernel⟩
abbrev s_M_unassign : Stmt := inClass (top 31) 5
theorem sc_M_unassign : FnScope ["self", "i", "house"] ["self", "i"] (defScope s_M_unassign) := ⟨rfl, rfl, rfl, by decide +kernel, rfl, by decide +kernel, by decide +kernel⟩
abbrev s_M_set_assignment : Stmt := inClass (top 31) 6
theorem sc_M_set_assignment : FnScope ["self", "a"] ["self", "a"] (defScope s_M_set_assignment) := ⟨rfl, rfl, rfl, by decide +kernel, rfl, by decide +kernel, by decide +kernel⟩
abbrev s_M_assignment : Stmt := inClass (top 31) 7
theorem sc_M_assignment : FnScope ["self"] ["self"] (defScope s_M_assignment) := ⟨rfl, rfl, rfl, by decide +kernel, rfl, by decide +kernel, by decide +kernel⟩
abbrev s_M_compare : Stmt := inClass (top 31) 8
theorem sc_M_compare : FnScope ["self", "a"] ["self", "a"] (defScope s_M_compare) := ⟨rfl, rfl, rfl, by decide +kernel, rfl, by decide +kernel, by decide +kernel⟩
abbrev s_M_is_popular : Stmt := inClass (top 31) 9
theorem sc_M_is_popular : FnScope ["self", "lead"] ["self"] (defScope s_M_is_popular) := ⟨rfl, rfl, rfl, by decide +kernel, rfl, by decide +kernel, by decide +kernel⟩
abbrev s_M_strongest_challenger : Stmt := inClass (top 31) 10
theorem sc_M_strongest_challenger : FnScope ["self", "lead", "challenger"] ["self"] (defScope s_M_strongest_challenger) := ⟨rfl, rfl, rfl, by decide +kernel, rfl, by decide +kernel, by decide +kernel⟩
abbrev s_M_unpopularity_factor : Stmt := inClass (top 31) 11
theorem sc_M_unpopularity_factor : FnScope ["self", "factor"] ["self"] (defScope s_M_unpopularity_factor) := ⟨rfl, rfl, rfl, by decide +kernel, rfl, by decide +kernel, by decide +kernel⟩
abbrev s_M_count_assignments : Stmt := inClass (top 31) 12
theorem sc_M_count_assignments : FnScope ["self"] ["self"] (defScope s_M_count_assignments) := ⟨rfl, rfl, rfl, by decide +kernel, rfl, by decide +kernel, by decide +kernel⟩
abbrev s_M_popular_assignment : Stmt := inClass (top 31) 13
theorem sc_M_popular_assignment : FnScope ["self", "k", "popular"] ["self", "k"] (defScope s_M_popular_assignment) := ⟨rfl, rfl, rfl, by decide +kernel, rfl, by decide +kernel, by decide +kernel⟩
abbrev s_M_use_first_popular : Stmt := inClass (top 31) 14
theorem sc_M_use_first_popular : FnScope ["self", "popular"] ["self"] (defScope s_M_use_first_popular) := ⟨rfl, rfl, rfl, by decide +kernel, rfl, by decide +kernel, by decide +kernel⟩
abbrev s_M_choices : Stmt := inClass (top 31) 15
theorem sc_M_choices : FnScope ["self", "i"] ["self", "i"] (defScope s_M_choices) := ⟨rfl, rfl, rfl, by decide +kernel, rfl, by decide +kernel, by decide +kernel⟩
abbrev s_M_check_characterization : Stmt := inClass (top 31) 16
theorem sc_M_check_characterization : FnScope ["self"] ["self"] (defScope s_M_check_characterization) := ⟨rfl, rfl, rfl, by decide +kernel, rfl, by decide +kernel, by decide +kernel⟩
abbrev s_M_total_weight : Stmt := inClass (top 31) 17
theorem sc_M_total_weight : FnScope ["self", "weight", "entry"] ["self"] (defScope s_M_total_weight) := ⟨rfl, rfl, rfl, by decide +kernel, rfl, by decide +kernel, by decide +kernel⟩
abbrev s_M_add_to_lottery : Stmt := inClass (top 31) 18
theorem sc_M_add_to_lottery : FnScope ["self", "weight"] ["self", "weight"] (defScope s_M_add_to_lottery) := ⟨rfl, rfl, rfl, by decide +kernel, rfl, by decide +kernel, by decide +kernel⟩
abbrev s_M_evaluate_lottery : Stmt := inClass (top 31) 19
theorem sc_M_evaluate_lottery : FnScope ["self", "lead", "challenger", "greatest"] ["self"] (defScope s_M_evaluate_lottery) := ⟨rfl, rfl, rfl, by decide +kernel, rfl, by decide +kernel, by decide +kernel⟩
abbrev s_M_clear_lottery : Stmt := inClass (top 31) 20
theorem sc_M_clear_lottery : FnScope ["self", "removed"] ["self"] (defScope s_M_clear_lottery) := ⟨rfl, rfl, rfl, by decide +kernel, rfl, by decide +kernel, by decide +kernel⟩
abbrev s_M_describe : Stmt := inClass (top 31) 21
theorem sc_M_describe : FnScope ["self", "answer", "houses"] ["self"] (defScope s_M_describe) := ⟨rfl, rfl, rfl, by decide +kernel, rfl, by decide +kernel, by decide +kernel⟩
abbrev s_D_init : Stmt := inClass (top 37) 0
theorem sc_D_init : FnScope ["self"] ["self"] (defScope s_D_init) := ⟨rfl, rfl, rfl, by decide +kernel, rfl, by decide +kernel, by decide +kernel⟩
abbrev s_D_create : Stmt := inClass (top 37) 1
theorem sc_D_create : FnScope ["self", "n", "m"] ["self", "n", "m"] (defScope s_D_create) := ⟨rfl, rfl, rfl, by decide +kernel, rfl, by decide +kernel, by decide +kernel⟩
abbrev s_D_carry_out : Stmt := inClass (top 37) 2
theorem sc_D_carry_out : FnScope ["self", "call", "numbers", "row"] ["self", "call", "numbers", "row"] (defScope s_D_carry_out) := ⟨rfl, rfl, rfl, by decide +kernel, rfl, by decide +kernel, by decide +kernel⟩
abbrev s_change : Stmt := top 38
theorem sc_change : FnScope ["market", "call", "numbers", "row"] ["market", "call", "numbers", "row"] (defScope s_change) := ⟨rfl, rfl, rfl, by decide +kernel, rfl, by decide +kernel, by decide +kernel⟩
abbrev s_ask : Stmt := top 39
theorem sc_ask : FnScope ["market", "call", "numbers", "row"] ["market", "call", "numbers", "row"] (defScope s_ask) := ⟨rfl, rfl, rfl, by decide +kernel, rfl, by decide +kernel, by decide +kernel⟩
abbrev s_read_calls : Stmt := top 40
theorem sc_read_calls : FnScope ["calls", "found", "place", "call", "stop", "numbers", "row", "start"] ["calls"] (defScope s_read_calls) := ⟨rfl, rfl, rfl, by decide +kernel, rfl, by decide +kernel, by decide +kernel⟩
abbrev s_answers : Stmt := top 41
theorem sc_answers : FnScope ["calls", "desk", "listed", "call", "numbers", "row", "answer"] ["calls"] (defScope s_answers) := ⟨rfl, rfl, rfl, by decide +kernel, rfl, by decide +kernel, by decide +kernel⟩
/-- a def of the top, as the top has left it -/
structure FnAt (K : PySem.W.Frag) (x qual : Str) (st : Stmt) : Prop where
  ex : ∃ (f : Addr) (fd : FuncData), PySem.W.nsIn K mainGlobals x = some (some (.ref f)) ∧ Fun K x qual st f fd ∧ PySem.W.keepIn K (.ref f) = true
theorem fnAt_mk {K : PySem.W.Frag} {x qual : Str} {st : Stmt} {f : Addr} {oc : Value} {od an : Option Addr} {osl : Array (Option Value)} {kV doc pm cdv ct : Value}
    (a : PySem.W.nsIn K mainGlobals x = some (some (.ref f))) (l : K.lookup f = some ⟨oc, od, .func (PySem.W.fnOf x qual (defArgs st) (defBody st) (defScope st) .none kV doc pm an cdv ct), osl⟩)
    (c : PySem.W.codeIn K cdv qual = true) (k : PySem.W.keepIn K (.ref f) = true) : FnAt K x qual st := ⟨⟨f, _, a, fun_mk l c k, k⟩⟩
/-- a method -/
structure MtAt (K : PySem.W.Frag) (C : Addr) (x qual : Str) (st : Stmt) : Prop where
  ex : ∃ (f : Addr) (fd : FuncData), PySem.W.findIn K (.ref C) x = some (some (.ref f)) ∧ PySem.W.isFn K (.ref f) = true ∧ Fun K x qual st f fd ∧ PySem.W.keepIn K (.ref f) = true
theorem mtAt_mk {K : PySem.W.Frag} {C : Addr} {x qual : Str} {st : Stmt} {f : Addr} {oc : Value} {od an : Option Addr} {osl : Array (Option Value)} {kV doc pm cdv ct : Value}
    (a : PySem.W.findIn K (.ref C) x = some (some (.ref f))) (i : PySem.W.isFn K (.ref f) = true) (l : K.lookup f = some ⟨oc, od, .func (PySem.W.fnOf x qual (defArgs st) (defBody st) (defScope st) .none kV doc pm an cdv ct), osl⟩)
    (c : PySem.W.codeIn K cdv qual = true) (k : PySem.W.keepIn K (.ref f) = true) : MtAt K C x qual st := ⟨⟨f, _, a, i, fun_mk l c k, k⟩⟩
structure ClAt (K : PySem.W.Frag) (x : Str) (C : Addr) : Prop where
  ns : PySem.W.nsIn K mainGlobals x = some (some (.ref C))
  cl : Cls K C
  mks : PySem.W.makesIn K C = true
  kc : PySem.W.keepIn K (.ref C) = true
theorem clAt_mk {K : PySem.W.Frag} {x : Str} {C : Addr} (a : PySem.W.nsIn K mainGlobals x = some (some (.ref C))) (pg : PySem.W.plainGet K C Str.empty = true) (hd : PySem.W.hasDictIn K C = true) (po : PySem.W.plainOver K C = true)
    (sa : PySem.W.findIn K (.ref C) "__setattr__" = some (some (.builtin "object.__setattr__"))) (mk : PySem.W.makesIn K C = true) (kc : PySem.W.keepIn K (.ref C) = true) : ClAt K x C := ⟨a, ⟨pg, hd, po, sa⟩, mk, kc⟩
/-- a number of the top -/
structure NmAt (K : PySem.W.Frag) (x : Str) (z : Int) : Prop where
  ex : ∃ t, PySem.W.nsIn K mainGlobals x = some (some (.int z t))
theorem nmAt_mk {K : PySem.W.Frag} {x : Str} {z : Int} {t : Nat} (a : PySem.W.nsIn K mainGlobals x = some (some (.int z t))) : NmAt K x z := ⟨⟨t, a⟩⟩
/-- a tuple of numbers of the top -/
structure TpAt (K : PySem.W.Frag) (x : Str) (zs : List Int) : Prop where
  ex : ∃ p, PySem.W.nsIn K mainGlobals x = some (some (.ref p)) ∧ ∀ H : Hp, SqT K H p (zs.map V.int)
theorem tpAt_mk {K : PySem.W.Frag} {x : Str} {zs : List Int} {p : Addr} {od : Option Addr} {its : Array Value} {n : Nat} {sl : Array (Option Value)} (a : PySem.W.nsIn K mainGlobals x = some (some (.ref p))) (l : K.lookup p = some ⟨.type "tuple", od, .seq its n, sl⟩)
    (hs : its.size ≤ sizeLine) (hv : Vals (zs.map V.int) its.toList) : TpAt K x zs := ⟨⟨p, a, fun H => .inr ⟨_, its, n, l, rfl, rfl, hs, hv⟩⟩⟩
/-- what the top has left -/
structure Top (K : PySem.W.Frag) (CM CD : Addr) : Prop where
  f_count_housed : FnAt K "count_housed" "count_housed" s_count_housed
  f_is_assignment : FnAt K "is_assignment" "is_assignment" s_is_assignment
  f_all_assignments : FnAt K "all_assignments" "all_assignments" s_all_assignments
  f_first_choices : FnAt K "first_choices" "first_choices" s_first_choices
  f_second_choices : FnAt K "second_choices" "second_choices" s_second_choices
  f_agrees : FnAt K "agrees" "agrees" s_agrees
  f_is_characterized : FnAt K "is_characterized" "is_characterized" s_is_characterized
  f_popular_assignments : FnAt K "popular_assignments" "popular_assignments" s_popular_assignments
  f_lowest_terms : FnAt K "lowest_terms" "lowest_terms" s_lowest_terms
  f_rank : FnAt K "rank" "rank" s_rank
  f_vote : FnAt K "vote" "vote" s_vote
  f_votes : FnAt K "votes" "votes" s_votes
  f_weighted_votes : FnAt K "weighted_votes" "weighted_votes" s_weighted_votes
  f_weighted_margin : FnAt K "weighted_margin" "weighted_margin" s_weighted_margin
  f_find_challenger : FnAt K "find_challenger" "find_challenger" s_find_challenger
  f_find_factor : FnAt K "find_factor" "find_factor" s_find_factor
  f_change : FnAt K "change" "change" s_change
  f_ask : FnAt K "ask" "ask" s_ask
  f_read_calls : FnAt K "read_calls" "read_calls" s_read_calls
  f_answers : FnAt K "answers" "answers" s_answers
  c_Market : ClAt K "Market" CM
  n_Market_house_total : PySem.W.findIn K (.ref CM) "house_total" = some none
  n_Market_preferences : PySem.W.findIn K (.ref CM) "preferences" = some none
  n_Market_current : PySem.W.findIn K (.ref CM) "current" = some none
  n_Market_lottery : PySem.W.findIn K (.ref CM) "lottery" = some none
  c_Desk : ClAt K "Desk" CD
  n_Desk_market : PySem.W.findIn K (.ref CD) "market" = some none
  m_M_init : MtAt K CM "__init__" "Market.__init__" s_M_init
  m_M_has_applicant : MtAt K CM "has_applicant" "Market.has_applicant" s_M_has_applicant
  m_M_is_preference_list : MtAt K CM "is_preference_list" "Market.is_preference_list" s_M_is_preference_list
  m_M_set_preferences : MtAt K CM "set_preferences" "Market.set_preferences" s_M_set_preferences
  m_M_assign : MtAt K CM "assign" "Market.assign" s_M_assign
  m_M_unassign : MtAt K CM "unassign" "Market.unassign" s_M_unassign
  m_M_set_assignment : MtAt K CM "set_assignment" "Market.set_assignment" s_M_set_assignment
  m_M_assignment : MtAt K CM "assignment" "Market.assignment" s_M_assignment
  m_M_compare : MtAt K CM "compare" "Market.compare" s_M_compare
  m_M_is_popular : MtAt K CM "is_popular" "Market.is_popular" s_M_is_popular
  m_M_strongest_challenger : MtAt K CM "strongest_challenger" "Market.strongest_challenger" s_M_strongest_challenger
  m_M_unpopularity_factor : MtAt K CM "unpopularity_factor" "Market.unpopularity_factor" s_M_unpopularity_factor
  m_M_count_assignments : MtAt K CM "count_assignments" "Market.count_assignments" s_M_count_assignments
  m_M_popular_assignment : MtAt K CM "popular_assignment" "Market.popular_assignment" s_M_popular_assignment
  m_M_use_first_popular : MtAt K CM "use_first_popular" "Market.use_first_popular" s_M_use_first_popular
  m_M_choices : MtAt K CM "choices" "Market.choices" s_M_choices
  m_M_check_characterization : MtAt K CM "check_characterization" "Market.check_characterization" s_M_check_characterization
  m_M_total_weight : MtAt K CM "total_weight" "Market.total_weight" s_M_total_weight
  m_M_add_to_lottery : MtAt K CM "add_to_lottery" "Market.add_to_lottery" s_M_add_to_lottery
  m_M_evaluate_lottery : MtAt K CM "evaluate_lottery" "Market.evaluate_lottery" s_M_evaluate_lottery
  m_M_clear_lottery : MtAt K CM "clear_lottery" "Market.clear_lottery" s_M_clear_lottery
  m_M_describe : MtAt K CM "describe" "Market.describe" s_M_describe
  m_D_init : MtAt K CD "__init__" "Desk.__init__" s_D_init
  m_D_create : MtAt K CD "create" "Desk.create" s_D_create
  m_D_carry_out : MtAt K CD "carry_out" "Desk.carry_out" s_D_carry_out
  g_NO_HOUSE : NmAt K "NO_HOUSE" (-1)
  g_NOT_THERE : NmAt K "NOT_THERE" (-2)
  g_NOTHING_HELD : NmAt K "NOTHING_HELD" (-6)
  g_NO_INSTANCE : NmAt K "NO_INSTANCE" (-11)
  g_TAKEN : NmAt K "TAKEN" (-17)
  g_NOT_ALLOWED : NmAt K "NOT_ALLOWED" (-22)
  g_LOTTERY_FULL : NmAt K "LOTTERY_FULL" (-28)
  g_NONE_EXISTS : NmAt K "NONE_EXISTS" (-33)
  g_GREATEST_WEIGHT : NmAt K "GREATEST_WEIGHT" (99)
  g_MOST_ENTRIES : NmAt K "MOST_ENTRIES" (12)
  g_GREATEST_SIZE : NmAt K "GREATEST_SIZE" (5)
  g_NUMBERS : TpAt K "NUMBERS" [2, 1, 2, 1, 0, 0, 0, 0, 0, 0, 0, 1, 0, 1, 0, 1, 0, 0, 0]
  g_WITH_ROW : TpAt K "WITH_ROW" [1, 4, 6]
  g_CHANGES : TpAt K "CHANGES" [1, 2, 3, 4, 12, 15, 17]
  b_len : PySem.W.nsIn K mainGlobals "len" = some none
  b_set : PySem.W.nsIn K mainGlobals "set" = some none
  b_zip : PySem.W.nsIn K mainGlobals "zip" = some none
  b_sorted : PySem.W.nsIn K mainGlobals "sorted" = some none
  b_range : PySem.W.nsIn K mainGlobals "range" = some none
  b_enumerate : PySem.W.nsIn K mainGlobals "enumerate" = some none
  b_sum : PySem.W.nsIn K mainGlobals "sum" = some none
  b_max : PySem.W.nsIn K mainGlobals "max" = some none
  b_list : PySem.W.nsIn K mainGlobals "list" = some none
/-! ### names of the module -/
/-- what each name stands for -/
structure Tx (mg : Str → Option Value) : Prop where
  g_NO_HOUSE : ∃ t, mg "NO_HOUSE" = some (.int (-1) t)
  g_NOT_THERE : ∃ t, mg "NOT_THERE" = some (.int (-2) t)
  g_NOTHING_HELD : ∃ t, mg "NOTHING_HELD" = some (.int (-6) t)
  g_NO_INSTANCE : ∃ t, mg "NO_INSTANCE" = some (.int (-11) t)
  g_TAKEN : ∃ t, mg "TAKEN" = some (.int (-17) t)
  g_NOT_ALLOWED : ∃ t, mg "NOT_ALLOWED" = some (.int (-22) t)
  g_LOTTERY_FULL : ∃ t, mg "LOTTERY_FULL" = some (.int (-28) t)
  g_NONE_EXISTS : ∃ t, mg "NONE_EXISTS" = some (.int (-33) t)
  g_GREATEST_WEIGHT : ∃ t, mg "GREATEST_WEIGHT" = some (.int (99) t)
  g_MOST_ENTRIES : ∃ t, mg "MOST_ENTRIES" = some (.int (12) t)
  g_GREATEST_SIZE : ∃ t, mg "GREATEST_SIZE" = some (.int (5) t)
  b_len : mg "len" = none
  b_set : mg "set" = none
  b_zip : mg "zip" = none
  b_sorted : mg "sorted" = none
  b_range : mg "range" = none
  b_enumerate : mg "enumerate" = none
  b_sum : mg "sum" = none
  b_max : mg "max" = none
  b_list : mg "list" = none
theorem pe_globI {X : Cx} {x : Str} {i : Int} {pos : Pos} (h : ∃ t, X.mg x = some (.int i t)) (hg : Gl X x := by rfl) (hd : (x == ("__debug__" : Str)) = false := by decide) : PE X (.Name x pos) (tC (.int i)) := by
  obtain ⟨t, h⟩ := h
  exact pe_glob hg h ⟨t, rfl⟩ hd
/-- a def that keeps its promise, by its name -/
structure Dn (P : Program) (w : World) (K : PySem.W.Frag) (mg : Str → Option Value) (base : Heap) (x : Str) (k : Nat) (ps : List Str) (sp : Sp) : Prop where
  ex : ∃ (f : Addr) (fd : FuncData), mg x = some (.ref f) ∧ PySem.W.keepIn K (.ref f) = true ∧ Binds K fd ps [] ∧ FnOk P w K mg base CX0 k f fd ps sp
/-- a method of the class at C that does -/
structure Mn (P : Program) (w : World) (K : PySem.W.Frag) (mg : Str → Option Value) (base : Heap) (C : Addr) (m : Str) (k : Nat) (ps : List Str) (sp : Sp) : Prop where
  ex : ∃ (f : Addr) (fd : FuncData), Meth K C m f ∧ Binds K fd ps [] ∧ FnOk P w K mg base CX0 k f fd ps sp
/-- a class that makes instances by an __init__ that does -/
structure Cn (P : Program) (w : World) (K : PySem.W.Frag) (mg : Str → Option Value) (base : Heap) (x : Str) (C : Addr) (k : Nat) (ps : List Str) (sp : Sp) : Prop where
  ex : ∃ (f : Addr) (fd : FuncData), Mk K C f ∧ mg x = some (.ref C) ∧ Binds K fd ps [] ∧ FnOk P w K mg base CX0 k f fd ps sp
section
variable {X : Cx} {k : Nat} {C : Addr} {ps : List Str} {sp : Sp} {x m : Str} {p pos apos : Pos} {e o : Expr} {es : List Expr} {ta : TE} {t : TA}
theorem pe_fn (D : Dn X.prog X.w X.K X.mg X.base x k ps sp) (hr : Room k X.A) (ha : PA X (e :: es) t) (hg : Gl X x := by rfl) (hdb : (x == ("__debug__" : Str)) = false := by decide)
    (he : starEach (e :: es) X.env = (false, eval e X.env) :: starEach es X.env := by rfl) (hpl : (backTo pos (starEach es X.env)).any (·.1) = false := by rfl) :
    PE X (.Call (.Name x p) (e :: es) [] pos) (tCall sp [] E0 t) := by
  obtain ⟨f, fd, hm, hk, hb, F⟩ := D.ex
  exact pe_call F hr hg hm hk hb .nil pass0 ha hdb he hpl
theorem pe_me {pl : Sem Bool} (he : PE X o ta) (c : Cls X.K C) (D : Mn X.prog X.w X.K X.mg X.base C m k ps sp) (hr : Room k X.A) (ha : PA X (e :: es) t)
    (hst : starEach (e :: es) X.env = (false, eval e X.env) :: starEach es X.env := by rfl) (hpl : (backTo pos (starEach es X.env)).any (·.1) = false := by rfl)
    (ht : eval (.Call (.Attribute o m apos) (e :: es) [] pos) X.env = (do
      let ov ← eval o X.env
      standAt apos.atName
      let (f, first) ← holding [ov] (getMethod ov m pl)
      callWith pos f first (backTo pos (starEach (e :: es) X.env)) (backToKw pos (keywordEach [] X.env))) := by rfl) :
    PE X (.Call (.Attribute o m apos) (e :: es) [] pos) (tMeth C m sp [] E0 ta t) := by
  obtain ⟨f, fd, hm, hb, F⟩ := D.ex
  exact pe_meth he c hm F hr hb .nil pass0 ha hst hpl ht
theorem pe_me0 {pl : Sem Bool} (he : PE X o ta) (c : Cls X.K C) (D : Mn X.prog X.w X.K X.mg X.base C m k ps sp) (hr : Room k X.A)
    (ht : eval (.Call (.Attribute o m apos) [] [] pos) X.env = (do
      let ov ← eval o X.env
      standAt apos.atName
      let (f, first) ← holding [ov] (getMethod ov m pl)
      callWith pos f first (backTo pos (starEach [] X.env)) (backToKw pos (keywordEach [] X.env))) := by rfl) :
    PE X (.Call (.Attribute o m apos) [] [] pos) (tMeth C m sp [] E0 ta tNil) := by
  obtain ⟨f, fd, hm, hb, F⟩ := D.ex
  exact pe_meth0 he c hm F hr hb .nil pass0 ht
theorem pe_mk (D : Cn X.prog X.w X.K X.mg X.base x C k ps sp) (hr : Room (k + 1) X.A) (ha : PA X (e :: es) t) (hg : Gl X x := by rfl) (hdb : (x == ("__debug__" : Str)) = false := by decide)
    (he : starEach (e :: es) X.env = (false, eval e X.env) :: starEach es X.env := by rfl) (hpl : (backTo pos (starEach es X.env)).any (·.1) = false := by rfl) :
    PE X (.Call (.Name x p) (e :: es) [] pos) (tMake C sp [] E0 t) := by
  obtain ⟨f, fd, hM, hm, hb, F⟩ := D.ex
  exact pe_make hM F hr hg hm hb .nil pass0 ha hdb he hpl
theorem pe_mk0 (D : Cn X.prog X.w X.K X.mg X.base x C k ps sp) (hr : Room (k + 1) X.A) (hg : Gl X x := by rfl) (hdb : (x == ("__debug__" : Str)) = false := by decide) :
    PE X (.Call (.Name x p) [] [] pos) (tMake C sp [] E0 tNil) := by
  obtain ⟨f, fd, hM, hm, hb, F⟩ := D.ex
  exact pe_make0 hM F hr hg hm hb .nil pass0 hdb
end
/-! ### readings of the comprehensions -/
def rMul : R2 := rI CMul fun i j => .int (i * j)
def tTru (K : PySem.W.Frag) (ta : TE) : TT := fun σ H Q => ta σ H fun x H' => ∃ k, TruV K x H' k ∧ Q k H'
/-! ### heaps -/
/-- what stands elsewhere is as it was -/
def Only (H H' : Hp) (own : Addr → Prop) : Prop := ∀ b o, H b = some o → ¬ own b → H' b = some o
theorem _root_.L2.Same.up {H H' : Hp} {p : Addr} {o : HO} (s : Same H H') (n : H' p = none) : Same H (upd H' p o) := fun b q e => by
  have e' := s b q e
  rw [upd_ne (ne_of_none e' n)]; exact e'
theorem _root_.L2.Same.up0 {H : Hp} {p : Addr} {o : HO} (n : H p = none) : Same H (upd H p o) := Same.up (Same.refl H) n
/-- a list of whole numbers at a -/
def IL (H : Hp) (a : Addr) (ns : List Int) : Prop := H a = some (.lst (ns.map V.int))
theorem IL.same {H H' : Hp} {a : Addr} {ns : List Int} (s : Same H H') (h : IL H a ns) : IL H' a ns := s _ _ h
theorem IL.sq {K : PySem.W.Frag} {H : Hp} {a : Addr} {ns : List Int} (h : IL H a ns) : SqL K H a (ns.map V.int) := SqL.of h
/-- rows of whole numbers, by their addresses -/
inductive Rows (H : Hp) : List Addr → List (List Int) → Prop
  | nil : Rows H [] []
  | cons {r : Addr} {w : List Int} {rs : List Addr} {ws : List (List Int)} : IL H r w → Rows H rs ws → Rows H (r :: rs) (w :: ws)
theorem Rows.same {H H' : Hp} (s : Same H H') : ∀ {rs : List Addr} {ws : List (List Int)}, Rows H rs ws → Rows H' rs ws
  | _, _, .nil => .nil
  | _, _, .cons h t => .cons (h.same s) (t.same s)
theorem Rows.length {H : Hp} : ∀ {rs : List Addr} {ws : List (List Int)}, Rows H rs ws → rs.length = ws.length
  | _, _, .nil => rfl
  | _, _, .cons _ t => by rw [List.length_cons, List.length_cons, t.length]
theorem Rows.get {H : Hp} : ∀ {rs : List Addr} {ws : List (List Int)} {i : Nat} {r : Addr}, Rows H rs ws → rs[i]? = some r → ∃ w, ws[i]? = some w ∧ IL H r w
  | _, _, _, _, .nil, h => by simp at h
  | _, _, 0, _, .cons h t, e => by
    have e' := Option.some.inj e
    subst e'
    exact ⟨_, rfl, h⟩
  | _, _, i + 1, _, .cons h t, e => t.get (i := i) e
theorem Rows.get' {H : Hp} {rs : List Addr} {ws : List (List Int)} {i : Nat} {w : List Int} (h : Rows H rs ws) (e : ws[i]? = some w) : ∃ r, rs[i]? = some r ∧ IL H r w := by
  have hi : i < rs.length := by
    rw [h.length]; exact (List.getElem?_eq_some_iff.mp e).1
  obtain ⟨w', e', q⟩ := h.get (List.getElem?_eq_getElem hi)
  rw [e] at e'
  cases e'
  exact ⟨_, List.getElem?_eq_getElem hi, q⟩
theorem Rows.snoc {H : Hp} {r : Addr} {w : List Int} (h : IL H r w) : ∀ {rs : List Addr} {ws : List (List Int)}, Rows H rs ws → Rows H (rs ++ [r]) (ws ++ [w])
  | _, _, .nil => .cons h .nil
  | _, _, .cons a t => .cons a (t.snoc h)
/-- a list of rows at a -/
def LL (H : Hp) (a : Addr) (ws : List (List Int)) : Prop := ∃ rs : List Addr, H a = some (.lst (rs.map V.ref)) ∧ Rows H rs ws
theorem LL.same {H H' : Hp} {a : Addr} {ws : List (List Int)} (s : Same H H') (h : LL H a ws) : LL H' a ws := by
  obtain ⟨rs, h1, h2⟩ := h
  exact ⟨rs, s _ _ h1, h2.same s⟩
theorem map_get? {α β : Type} {f : α → β} {l : List α} {i : Nat} {y : β} (h : (l.map f)[i]? = some y) : ∃ x, l[i]? = some x ∧ y = f x := by
  rw [List.getElem?_map] at h
  cases e : l[i]? with
  | none => rw [e] at h; cases h
  | some x => rw [e] at h; exact ⟨x, rfl, (Option.some.inj h).symm⟩
theorem take_snoc {α : Type} {l : List α} {i : Nat} {x : α} (h : l[i]? = some x) : l.take (i + 1) = l.take i ++ [x] := by
  rw [List.take_add_one, h]; rfl
theorem getD_of {α : Type} {l : List α} {i : Nat} {x : α} (h : l[i]? = some x) (d : α) : l.getD i d = x := by
  rw [List.getD_eq_getElem?_getD, h]; rfl
theorem get_of_lt {α : Type} {l : List α} {i : Nat} (h : i < l.length) (d : α) : l[i]? = some (l.getD i d) := by
  rw [List.getD_eq_getElem?_getD, List.getElem?_eq_getElem h]; rfl
theorem lt_of_get {α : Type} {l : List α} {i : Nat} {x : α} (h : l[i]? = some x) : i < l.length := (List.getElem?_eq_some_iff.mp h).1
/-- in, over whole numbers -/
theorem inV_int (k : Int) (ns : List Int) : inV (.int k) (ns.map V.int) = ns.contains k := by
  unfold inV
  rw [List.any_map, List.contains_eq_any_beq]
  congr 1
  funext y
  show eqV (V.int y) (V.int k) = (k == y)
  rw [Bool.eq_iff_iff, beq_iff_eq]
  unfold eqV
  simp
  exact eq_comm
theorem flat_ints (ns : List Int) : (ns.map V.int).all flatV = true := by
  rw [List.all_map, List.all_eq_true]
  intro x _
  rfl
theorem _root_.L2.Same.set {H H' : Hp} {p : Addr} {o : HO} (s : Same H H') (n : H p = none) : Same H (upd H' p o) := fun b q e => by
  have hb : b ≠ p := fun z => by rw [z, n] at e; cases e
  rw [upd_ne hb]; exact s b q e
theorem line_le {n : Nat} (h : n ≤ 1000000) : n ≤ sizeLine := Nat.le_trans h (by decide)
theorem line_lt {n : Nat} (h : n ≤ 1000000) : n < sizeLine := Nat.lt_of_le_of_lt h (by decide)
theorem dI {i j : Int} : decide (V.int i = V.int j) = decide (i = j) := by
  rw [decide_eq_decide]
  exact ⟨fun e => by cases e; rfl, fun e => by rw [e]⟩
end Hl
/-! # Q1. The defs without a list of lists -/
namespace Hl
open PySem PySem.Spec PyProof.Rows L2
variable {P : Program} {w : World} {K : PySem.W.Frag} {mg : Str → Option Value} {base : Heap}
def spCount : Sp := fun vs H Q _ => ∃ (a : Addr) (ns : List Int), vs = [.ref a] ∧ IL H a ns ∧ Q (.int (housed ns)) H
theorem ok_count_housed {f : Addr} {fd : FuncData} (F : Fun K "count_housed" "count_housed" s_count_housed f fd) (T : Tx mg) : FnOk P w K mg base CX0 1 f fd ["assignment"] spCount := by
  refine F.ok sc_count_housed (fun vs H Q E h => ?_) (fun cdv A outer s H vs Q E hr h => ?_)
  · obtain ⟨a, ns, rfl, _⟩ := h
    rfl
  · obtain ⟨a, ns, rfl, h, k⟩ := h
    refine ⟨_, (pss_one (ps_ret (pe_op op_sub (pe_callB call_len_seq (by rfl) T.b_len PySem.boot_len (pa_cons (pv 0) pa_nil)) (pe_bm PySem.F.plainAttrs_list PySem.F.slot_list_count PySem.F.type_list_count mt_lcount (pv 0) (pa_cons (pe_globI T.g_NO_HOUSE) pa_nil))))), ?_⟩
    refine ⟨_, rfl, a, _, rfl, .inl h.sq, _, rfl, .inl ⟨rfl, _, h.sq⟩, a, ns, -1, rfl, rfl, h.sq, _, _, rfl, rfl, ?_⟩
    rw [List.length_map]
    exact k
def spRank : Sp := fun vs H Q _ => ∃ (a : Addr) (hs : List Int) (h : Int), vs = [.ref a, .int h] ∧ IL H a hs ∧ (h = -1 ∨ h ∈ hs) ∧ Q (.int (rankOf hs h)) H
theorem idx_first {hs : List Int} {h : Int} (hm : h ∈ hs) : hs[hs.idxOf h]? = some h ∧ ∀ m y, m < hs.idxOf h → hs[m]? = some y → y ≠ h := by
  have hl := List.idxOf_lt_length_iff.mpr hm
  refine ⟨by rw [List.getElem?_eq_getElem hl, List.getElem_idxOf hl], fun m y hy e q => ?_⟩
  have := List.not_of_lt_findIdx (p := fun x => x == h) hy
  have hml : m < hs.length := Nat.lt_trans hy hl
  rw [List.getElem?_eq_getElem hml] at e
  have e := Option.some.inj e
  rw [← e] at q
  simp [q] at this
theorem ok_rank {f : Addr} {fd : FuncData} (F : Fun K "rank" "rank" s_rank f fd) (T : Tx mg) : FnOk P w K mg base CX0 1 f fd ["houses", "house"] spRank := by
  refine F.ok sc_rank (fun vs H Q E h => ?_) (fun cdv A outer s H vs Q E hr h => ?_)
  · obtain ⟨a, hs, h, rfl, _⟩ := h
    rfl
  · obtain ⟨a, hs, x, rfl, h, hx, k⟩ := h
    refine ⟨_, (pss_cons (ps_if (pt_cmpR op_eq (pv 1) (pe_globI T.g_NO_HOUSE) (nomark _)) (pss_one (ps_ret (pe_callB call_len_seq (by rfl) T.b_len PySem.boot_len (pa_cons (pv 0) pa_nil)))) pss_nil)
      (pss_one (ps_ret (pe_bm PySem.F.plainAttrs_list PySem.F.slot_list_index PySem.F.type_list_index mt_index (pv 0) (pa_cons (pv 1) pa_nil))))), ?_⟩
    refine ⟨_, rfl, rfl, _, rfl, ?_⟩
    rw [dI]
    unfold rankOf at k
    refine ite2 (fun c => ?_) fun c => ?_
    · have c := of_decide_eq_true c
      rw [if_pos c] at k
      refine ⟨_, rfl, a, _, rfl, .inl h.sq, ?_⟩
      rw [List.length_map]
      exact k
    · have c : x ≠ -1 := fun z => c (decide_eq_true z)
      rw [if_neg c] at k
      have hx : x ∈ hs := hx.resolve_left c
      obtain ⟨i1, i2⟩ := idx_first hx
      refine ⟨_, rfl, .inl ⟨rfl, _, h.sq⟩, _, rfl, a, _, .int x, hs.idxOf x, .int x, rfl, rfl, h.sq, rfl, flat_ints hs, ?_, ?_, fun m z hm e => ?_, k⟩
      · rw [List.getElem?_map, i1]; rfl
      · unfold eqV; simp
      · obtain ⟨y, ey, rfl⟩ := map_get? e
        have := i2 m y hm ey
        unfold eqV
        simpa using this
def spVote : Sp := fun vs H Q _ => ∃ (a : Addr) (hs : List Int) (h o : Int), vs = [.ref a, .int h, .int o] ∧ IL H a hs ∧ (h = -1 ∨ h ∈ hs) ∧ (o = -1 ∨ o ∈ hs) ∧ Q (.int (voteOf hs h o)) H
theorem ok_vote {f : Addr} {fd : FuncData} (F : Fun K "vote" "vote" s_vote f fd) (T : Tx mg) (D_rank : Dn P w K mg base "rank" 1 ["houses", "house"] spRank) : FnOk P w K mg base CX0 2 f fd ["houses", "house", "other"] spVote := by
  refine F.ok sc_vote (fun vs H Q E h => ?_) (fun cdv A outer s H vs Q E hr h => ?_)
  · obtain ⟨a, hs, x, o, rfl, _⟩ := h
    rfl
  · obtain ⟨a, hs, x, o, rfl, h, hx, ho, k⟩ := h
    refine ⟨_, (pss_cons (ps_if (pt_cmpR op_lt (pe_fn D_rank (hr.mono (by decide)) (pa_cons (pv 0) (pa_cons (pv 1) pa_nil))) (pe_fn D_rank (hr.mono (by decide)) (pa_cons (pv 0) (pa_cons (pv 2) pa_nil))) (nomark _)) (pss_one (ps_ret pe_int)) pss_nil)
      (pss_cons (ps_if (pt_cmpR op_gt (pe_fn D_rank (hr.mono (by decide)) (pa_cons (pv 0) (pa_cons (pv 1) pa_nil))) (pe_fn D_rank (hr.mono (by decide)) (pa_cons (pv 0) (pa_cons (pv 2) pa_nil))) (nomark _)) (pss_one (ps_ret (pe_un un_neg pe_int))) pss_nil)
      (pss_one (ps_ret pe_int)))), ?_⟩
    unfold voteOf at k
    refine ⟨_, rfl, _, rfl, a, hs, x, rfl, h, hx, _, rfl, _, rfl, a, hs, o, rfl, h, ho, _, _, rfl, rfl, _, rfl, ?_⟩
    refine ite2 (fun c => ?_) fun c => ?_
    · have c := of_decide_eq_true c
      rw [if_pos c] at k
      exact k
    · have c := fun z => c (decide_eq_true z)
      rw [if_neg c] at k
      refine ⟨_, rfl, _, rfl, a, hs, x, rfl, h, hx, _, rfl, _, rfl, a, hs, o, rfl, h, ho, _, _, rfl, rfl, _, rfl, ?_⟩
      refine ite2 (fun c => ?_) fun c => ?_
      · have c := of_decide_eq_true c
        rw [if_pos c] at k
        exact ⟨_, rfl, k⟩
      · have c := fun z => c (decide_eq_true z)
        rw [if_neg c] at k
        exact k
end Hl
/-! # Q2. Fractions, votes, which lists are assignments, choices -/
namespace Hl
open PySem PySem.Spec PyProof.Rows L2
variable {P : Program} {w : World} {K : PySem.W.Frag} {mg : Str → Option Value} {base : Heap}
theorem ix_int {ns : List Int} {i : Nat} (h : i < ns.length) : atI (ns.map V.int) (i : Int) = some (V.int (ns.getD i 0)) := atI_nat (by rw [List.getElem?_map, get_of_lt h 0]; rfl)
theorem ix_ref {rs : List Addr} {i : Nat} {r : Addr} (h : rs[i]? = some r) : atI (rs.map V.ref) (i : Int) = some (V.ref r) := atI_nat (by rw [List.getElem?_map, h]; rfl)
theorem mono_op {r : R2} (hr : ∀ x y H Q Q', (∀ v H', Q v H' → Q' v H') → r x y H Q → r x y H Q') {ta tb : TE} (ha : ∀ σ H Q Q', (∀ v H', Q v H' → Q' v H') → ta σ H Q → ta σ H Q') (hb : ∀ σ H Q Q', (∀ v H', Q v H' → Q' v H') → tb σ H Q → tb σ H Q') :
    ∀ σ H (Q Q' : Bool → Hp → Prop), (∀ b H1, Q b H1 → Q' b H1) → tTest (tOp r ta tb) σ H Q → tTest (tOp r ta tb) σ H Q' := fun σ H Q Q' hQ h =>
  ha σ H _ _ (fun x H1 h1 => hb σ H1 _ _ (fun y H2 h2 => hr x y H2 _ _ (fun v H3 ⟨k, e, q⟩ => ⟨k, e, hQ _ _ q⟩) h2) h1) h
theorem mono_var (i : Nat) : ∀ σ H (Q Q' : V → Hp → Prop), (∀ v H', Q v H' → Q' v H') → tVar i σ H Q → tVar i σ H Q' := fun _ _ _ _ hQ ⟨v, e, q⟩ => ⟨v, e, hQ _ _ q⟩
theorem mono_c (v : V) : ∀ σ H (Q Q' : V → Hp → Prop), (∀ v H', Q v H' → Q' v H') → tC v σ H Q → tC v σ H Q' := fun _ _ _ _ hQ q => hQ _ _ q
theorem mono_rI0 (g : Int → Int → V) : ∀ x y H (Q Q' : V → Hp → Prop), (∀ v H', Q v H' → Q' v H') → rI0 g x y H Q → rI0 g x y H Q' := fun _ _ _ _ _ hQ ⟨i, j, e1, e2, q⟩ => ⟨i, j, e1, e2, hQ _ _ q⟩

/-! ### lowest_terms -/
def spLow : Sp := fun vs H Q _ => ∃ (n d : Int), vs = [.int n, .int d] ∧ 0 < d ∧ d < 1073741824 ∧ ∀ (H' : Hp) (p : Addr), Same H H' → H p = none → H' p = some (.tup [.int (low n d).1, .int (low n d).2]) → Q (.ref p) H'
theorem gcd_step (c r : Int) : Int.gcd r (c % r) = Int.gcd c r := by
  have h := Int.gcd_add_mul_left_right r (c % r) (c / r)
  rw [Int.emod_add_mul_ediv] at h
  rw [← h, Int.gcd_comm]
theorem ok_lowest_terms {f : Addr} {fd : FuncData} (F : Fun K "lowest_terms" "lowest_terms" s_lowest_terms f fd) (T : Tx mg) : FnOk P w K mg base CX0 1 f fd ["numerator", "denominator"] spLow := by
  refine F.ok sc_lowest_terms (fun vs H Q E h => ?_) (fun cdv A outer s H vs Q E hr h => ?_)
  · obtain ⟨n, d, rfl, _⟩ := h
    rfl
  · obtain ⟨n, d, rfl, hd, hd2, k⟩ := h
    refine ⟨_, (pss_cons (ps_set (i := 2) sc_lowest_terms.nd rfl (Or.inl rfl) (pv 0))
      (pss_cons (ps_set (i := 3) sc_lowest_terms.nd rfl (Or.inl rfl) (pv 1))
      (pss_cons (ps_while PassesOwn.never (pt_cmpR op_gt (pv 3) pe_int (nomark _))
      (pss_cons (ps_set (i := 4) sc_lowest_terms.nd rfl (Or.inl rfl) (pe_op op_modN (pv 2) (pv 3)))
      (pss_cons (ps_set (i := 2) sc_lowest_terms.nd rfl (Or.inl rfl) (pv 3))
      (pss_one (ps_set (i := 3) sc_lowest_terms.nd rfl (Or.inl rfl) (pv 4))))))
      (pss_one (ps_ret (pe_tup (pa_cons (pe_op op_fdivN (pv 0) (pv 2)) (pa_cons (pe_op op_fdivN (pv 1) (pv 2)) pa_nil)))))))), ?_⟩
    refine ⟨_, rfl, _, rfl, ?_⟩
    refine while_by (fun σ H' => ∃ (c r : Int) (v : Option V), σ = [some (.int n), some (.int d), some (.int c), some (.int r), v] ∧ H' = H ∧ 0 ≤ r ∧ (0 < r ∨ 0 < c) ∧ Int.gcd c r = Int.gcd n d)
      (fun σ _ => match σ with | [_, _, _, some (.int r), _] => r.toNat | _ => 0) ⟨n, d, none, rfl, rfl, by omega, .inl hd, rfl⟩ ?_ (mono_op (mono_rI0 _) (mono_var _) (mono_c _))
    rintro σ H' ⟨c, r, v, rfl, rfl, h0, hp, hg⟩
    refine ⟨_, rfl, _, _, rfl, rfl, _, rfl, ?_⟩
    refine ite2 (fun q => ?_) fun q => ?_
    · have q := of_decide_eq_true q
      refine ⟨_, rfl, _, rfl, _, _, rfl, rfl, by omega, _, rfl, _, rfl, ?_⟩
      have e : Int.fmod c r = c % r := Int.fmod_eq_emod_of_nonneg c (by omega)
      have e1 := Int.emod_nonneg c (show r ≠ 0 by omega)
      have e2 := Int.emod_lt_of_pos c q
      refine ⟨⟨r, c % r, some (.int (c % r)), by dsimp only; rw [e]; rfl, rfl, e1, .inr q, by rw [gcd_step]; exact hg⟩, ?_⟩
      show (Int.fmod c r).toNat < r.toNat
      rw [e]
      omega
    · have q : ¬ 0 < r := fun z => q (decide_eq_true z)
      have r0 : r = 0 := by omega
      subst r0
      have hc : 0 < c := by omega
      have ec : c = (Int.gcd n d : Nat) := by
        rw [← hg, Int.gcd_zero_right]; omega
      have hle : c ≤ d := by
        rw [ec]; exact Int.gcd_le_right n hd
      refine ⟨_, rfl, _, rfl, _, _, rfl, rfl, ⟨by omega, by omega⟩, _, rfl, _, rfl, _, _, rfl, rfl, ⟨by omega, by omega⟩, (by show 2 ≤ sizeLine; decide), fun p hp => ?_⟩
      refine k _ p (Same.up0 hp) hp ?_
      rw [upd_same]
      dsimp only
      rw [Int.fdiv_eq_ediv_of_nonneg n (by omega), Int.fdiv_eq_ediv_of_nonneg d (by omega), ec]
      rfl

/-! ### votes -/
/-- each number is a house of its row, or none -/
def AOk (ps : List (List Int)) (a : List Int) : Prop := a.length = ps.length ∧ ∀ i, i < ps.length → a.getD i 0 = -1 ∨ a.getD i 0 ∈ ps.getD i []
def spVotes : Sp := fun vs H Q _ => ∃ (p a b : Addr) (ps : List (List Int)) (x y : List Int), vs = [.ref p, .ref a, .ref b] ∧ LL H p ps ∧ IL H a x ∧ IL H b y ∧ AOk ps x ∧ AOk ps y ∧ ∀ H' : Hp, Same H H' → Q (.int (votesOf ps x y)) H'
theorem votesN_succ (ps : List (List Int)) (a b : List Int) (n : Nat) : votesN ps a b (n + 1) = votesN ps a b n + if won ps a b n = true then 1 else 0 := by
  unfold votesN
  rw [List.range_succ, List.filter_append, List.length_append, List.filter_cons]
  split <;> rfl
theorem ok_votes {f : Addr} {fd : FuncData} (F : Fun K "votes" "votes" s_votes f fd) (T : Tx mg) (D_vote : Dn P w K mg base "vote" 2 ["houses", "house", "other"] spVote) : FnOk P w K mg base CX0 3 f fd ["preferences", "assignment", "other"] spVotes := by
  refine F.ok sc_votes (fun vs H Q E h => ?_) (fun cdv A outer s H vs Q E hr h => ?_)
  · obtain ⟨p, a, b, ps, x, y, rfl, _⟩ := h
    rfl
  · obtain ⟨p, a, b, ps, x, y, rfl, ⟨rs, hp, hR⟩, ha, hb, oa, ob, k⟩ := h
    refine ⟨_, (pss_cons (ps_set (i := 3) sc_votes.nd rfl (Or.inl rfl) pe_int)
      (pss_cons (ps_for PassesOwn.never rfl (pi_enum (by rfl) T.b_enumerate (pa_cons (pv 0) pa_nil)) (pg_tup rfl (pgs_cons (pg_name (i := 4) sc_votes.nd rfl (Or.inl rfl)) (pgs_cons (pg_name (i := 5) sc_votes.nd rfl (Or.inl rfl)) pgs_nil)))
      (pss_one (ps_if (pt_cmpR op_gt (pe_fn D_vote (hr.mono (by decide)) (pa_cons (pv 5) (pa_cons (pe_ix ix_list (pv 1) (pv 4) (fun _ _ => rfl)) (pa_cons (pe_ix ix_list (pv 2) (pv 4) (fun _ _ => rfl)) pa_nil)))) pe_int (nomark _)) (pss_one (ps_aug (i := 3) sc_votes.nd rfl (Or.inl rfl) pe_int ip_add)) pss_nil)))
      (pss_one (ps_ret (pv 3))))), ?_⟩
    have hn := hR.length
    refine ⟨_, rfl, p, _, rfl, SqL.of hp, for_it (walk_enum (K := K) (a := p) (xs := rs.map V.ref)) (fun i σ H' => ∃ v4 v5 : Option V, σ = [some (.ref p), some (.ref a), some (.ref b), some (.int (votesN ps x y i : Nat)), v4, v5] ∧ Same H H')
      ⟨none, none, rfl, Same.refl H⟩ (fun i σ H' _ ⟨_, _, _, s5⟩ => SqL.of (s5 _ _ hp)) ?_ ?_⟩
    · rintro i v σ H1 H2 hi ⟨v4, v5, rfl, s5⟩ ⟨Tt, vi, vr, rfl, hT, rfl, e1, e2⟩
      cases e1
      obtain ⟨r, er, rfl⟩ := map_get? e2
      obtain ⟨wi, ew, hw⟩ := hR.get er
      have hlt : i < ps.length := lt_of_get ew
      have s6 : Same H (upd H1 Tt (.tup [.int (i : Nat), .ref r])) := s5.up hT
      refine ⟨Tt, _, rfl, SqT.of upd_same, rfl, _, _, rfl, _, _, rfl, rfl, ?_⟩
      have gw : ps.getD i [] = wi := getD_of ew []
      refine ⟨_, rfl, _, rfl, _, rfl, a, _, _, _, rfl, rfl, (ha.same s6).sq, ix_int (by rw [oa.1]; exact hlt), _, rfl, _, rfl, b, _, _, _, rfl, rfl, (hb.same s6).sq, ix_int (by rw [ob.1]; exact hlt),
        r, wi, _, _, rfl, hw.same s6, (by rw [← gw]; exact oa.2 i hlt), (by rw [← gw]; exact ob.2 i hlt), _, _, rfl, rfl, _, rfl, ?_⟩
      have ew' : won ps x y i = decide (0 < voteOf wi (x.getD i 0) (y.getD i 0)) := by unfold won; rw [gw]
      have st := votesN_succ ps x y i
      rw [ew'] at st
      refine ite2 (fun q => ?_) fun q => ?_
      · rw [if_pos q] at st
        refine ⟨_, rfl, _, _, rfl, rfl, some (.int (i : Nat)), some (.ref r), ?_, s6⟩
        rw [st]; rfl
      · rw [if_neg q] at st
        refine ⟨some (.int (i : Nat)), some (.ref r), ?_, s6⟩
        rw [st]; rfl
    · rintro σ H' ⟨v4, v5, rfl, s5⟩
      rw [List.length_map, hn]
      exact ⟨_, rfl, k H' s5⟩

/-! ### is_assignment -/
def tt_is_assignment : TT := tTest (tOp rNe (tVar 3) (tC (.int (-1))))
def te_is_assignment : TE := tVar 3
def spIsA : Sp := fun vs H Q _ => ∃ (p a : Addr) (ps : List (List Int)) (ns : List Int), vs = [.ref p, .ref a] ∧ LL H p ps ∧ IL H a ns ∧ ns.length ≤ 4000 ∧ ∀ H' : Hp, Same H H' → Q (.bl (isAsg ps ns)) H'
theorem taken_snoc (l : List Int) (z : Int) : taken (l ++ [z]) = taken l ++ if z = -1 then [] else [z] := by
  unfold taken
  rw [List.filter_append, List.filter_cons]
  by_cases c : z = -1
  · subst c; rfl
  · have e : (z != -1) = true := by simpa using c
    rw [if_pos e, if_neg c]; rfl
theorem taken_le (l : List Int) : (taken l).length ≤ l.length := List.length_filter_le _ _
theorem isAsg_false_len {ps : List (List Int)} {ns : List Int} (h : ns.length ≠ ps.length) : isAsg ps ns = false := by
  unfold isAsg; rw [decide_eq_false h]; rfl
theorem isAsg_false_dup {ps : List (List Int)} {ns : List Int} (h : ¬ (taken ns).Nodup) : isAsg ps ns = false := by
  unfold isAsg; rw [decide_eq_false h]; simp
theorem isAsg_false_at {ps : List (List Int)} {ns : List Int} {i : Nat} (hi : i < ps.length) (h1 : ns.getD i 0 ≠ -1) (h2 : ns.getD i 0 ∉ ps.getD i []) : isAsg ps ns = false := by
  cases e : isAsg ps ns with
  | false => rfl
  | true =>
    rcases ((isAsg_iff ps ns).mp e).2.2 i hi with q | q
    · exact absurd q h1
    · exact absurd q h2
theorem ok_is_assignment {f : Addr} {fd : FuncData} (F : Fun K "is_assignment" "is_assignment" s_is_assignment f fd) (T : Tx mg) : FnOk P w K mg base CX0 1 f fd ["preferences", "numbers"] spIsA := by
  refine F.ok sc_is_assignment (fun vs H Q E h => ?_) (fun cdv A outer s H vs Q E hr h => ?_)
  · obtain ⟨p, a, ps, ns, rfl, _⟩ := h
    rfl
  · obtain ⟨p, a, ps, ns, rfl, ⟨rs, hp, hR⟩, ha, hlen, k⟩ := h
    have hn := hR.length
    refine ⟨_, (pss_cons (ps_if (pt_cmpR op_ne (pe_callB call_len_seq (by rfl) T.b_len PySem.boot_len (pa_cons (pv 1) pa_nil)) (pe_callB call_len_seq (by rfl) T.b_len PySem.boot_len (pa_cons (pv 0) pa_nil)) (nomark _)) (pss_one (ps_ret pe_bl)) pss_nil)
      (pss_cons (ps_setLc (i := 2) (own := [("house", 3)]) (g := (gName 3)) (tt := tt_is_assignment) (te := te_is_assignment) rfl sc_is_assignment.nd rfl rfl (sw_true rfl rfl rfl (by decide +kernel)) (pi_list (pv 1)) (blkOk_by (own := [("house", 3)]) (N := ["preferences", "numbers", "taken", "house", "houses"]) (sc := defScope s_is_assignment) (by decide +kernel)) (fun _ _ _ _ _ => (pg_name (i := 3) sc_is_assignment.nd rfl (Or.inl rfl))) (fun _ _ _ _ _ => (pts_one (pt_cmpR op_ne (pv 3) (pe_globI T.g_NO_HOUSE) (nomark _)))) (fun _ _ _ _ _ => (pv 3)))
      (pss_cons (ps_if (pt_cmpR op_ne (HlZ.pe_lenSetG (by rfl) T.b_len (by rfl) T.b_set (pv 2)) (pe_callB call_len_seq (by rfl) T.b_len PySem.boot_len (pa_cons (pv 2) pa_nil)) (nomark _)) (pss_one (ps_ret pe_bl)) pss_nil)
      (pss_cons (ps_for PassesOwn.never rfl (pi_zip (by rfl) T.b_zip (pa_cons (pv 1) (pa_cons (pv 0) pa_nil))) (pg_tup rfl (pgs_cons (pg_name (i := 3) sc_is_assignment.nd rfl (Or.inl rfl)) (pgs_cons (pg_name (i := 4) sc_is_assignment.nd rfl (Or.inl rfl)) pgs_nil)))
      (pss_one (ps_if (PW.pt (pw_and (pt_cmpR op_ne (pv 3) (pe_globI T.g_NO_HOUSE) (nomark _)) (pw_and1 (pt_cmpR op_notIn_seq (pv 3) (pv 4) (by rfl))))) (pss_one (ps_ret pe_bl)) pss_nil)))
      (pss_one (ps_ret pe_bl)))))), ?_⟩
    refine ⟨_, rfl, a, _, rfl, .inl ha.sq, _, rfl, p, _, rfl, .inl (SqL.of hp), rfl, _, rfl, ?_⟩
    rw [dI, List.length_map, List.length_map, hn]
    refine ite2 (fun q => ?_) fun q => ?_
    · have q : ns.length ≠ ps.length := fun z => by rw [z] at q; simp at q
      have := k H (Same.refl H)
      rw [isAsg_false_len q] at this
      exact this
    have hl : ns.length = ps.length := Decidable.byContradiction fun z => q (by rw [decide_eq_false (by omega)]; rfl)
    -- taken = [house for house in numbers if house != NO_HOUSE]
    refine ⟨_, rfl, a, rfl, ⟨_, ha.sq⟩, fun D nD => ?_⟩
    refine lc_list (K := K) (a := a) (xs := ns.map V.int) (fun i H' => Same H H' ∧ H' D = some (.lst ((taken (ns.take i)).map V.int))) ⟨Same.up0 nD, upd_same⟩ (fun i H' _ ⟨s5, _⟩ => (ha.same s5).sq) ?_ ?_
    · rintro i v H' hi ⟨s5, hD⟩
      obtain ⟨z, hz, rfl⟩ := map_get? hi
      refine ⟨rfl, _, rfl, rfl, _, rfl, ?_⟩
      have e := take_snoc hz
      have e2 := taken_snoc (ns.take i) z
      rw [dI]
      refine ite2 (fun q => ?_) fun q => ?_
      · have q : z ≠ -1 := fun c => by rw [c] at q; simp at q
        rw [if_neg q] at e2
        refine ⟨_, rfl, _, hD, ?_, s5.set nD, ?_⟩
        · rw [List.length_map]
          have := taken_le (ns.take i)
          rw [List.length_take] at this
          exact line_lt (by omega)
        · rw [upd_same, e, e2, List.map_append]; rfl
      · have q : z = -1 := Decidable.byContradiction fun c => q (by rw [decide_eq_false c]; rfl)
        rw [if_pos q, List.append_nil] at e2
        refine ⟨s5, ?_⟩
        rw [e, e2]; exact hD
    · rintro H1 ⟨s5, hD⟩
      rw [List.length_map, List.take_length] at hD
      -- len(set(taken)) != len(taken)
      refine ⟨_, rfl, D, taken ns, rfl, SqL.of hD, ?_, _, rfl, D, _, rfl, .inl (SqL.of hD), rfl, _, rfl, ?_⟩
      · exact Nat.le_trans (taken_le ns) hlen
      rw [dI, List.length_map]
      refine ite2 (fun q => ?_) fun q => ?_
      · have q : ¬ (taken ns).Nodup := fun z => by
          rw [(HlZ.met_nodup (taken ns)).mpr z] at q; simp at q
        have := k H1 s5
        rw [isAsg_false_dup q] at this
        exact this
      have hnd : (taken ns).Nodup := by
        refine (HlZ.met_nodup (taken ns)).mp ?_
        exact Decidable.byContradiction fun z => q (by rw [decide_eq_false (by omega)]; rfl)
      -- for house, houses in zip(numbers, preferences)
      refine ⟨_, rfl, _, rfl, a, p, _, _, rfl, (ha.same s5).sq, SqL.of (s5 _ _ hp), RZ.for_zipL (by rw [List.length_map, List.length_map, hl, hn])
        (fun i σ H' => ∃ v3 v4 : Option V, σ = [some (.ref p), some (.ref a), some (.ref D), v3, v4] ∧ Same H H' ∧ ∀ j, j < i → ns.getD j 0 = -1 ∨ ns.getD j 0 ∈ ps.getD j []) ⟨_, _, rfl, s5, fun j hj => absurd hj (Nat.not_lt_zero _)⟩
        (fun i σ H' ⟨_, _, _, s6, _⟩ => ⟨(ha.same s6).sq, SqL.of (s6 _ _ hp)⟩) ?_ ?_⟩
      · rintro i vx vy Tt σ H' hx hy ⟨v3, v4, rfl, s6, hall⟩ hT
        obtain ⟨z, hz, rfl⟩ := map_get? hx
        obtain ⟨r, er, rfl⟩ := map_get? hy
        obtain ⟨wi, ew, hw⟩ := hR.get er
        have s7 : Same H (upd H' Tt (.tup [.int z, .ref r])) := s6.up hT
        have gz : ns.getD i 0 = z := getD_of hz 0
        have gw : ps.getD i [] = wi := getD_of ew []
        refine ⟨Tt, _, rfl, SqT.of upd_same, rfl, _, _, rfl, _, _, rfl, rfl, ?_⟩
        refine ⟨_, rfl, rfl, _, rfl, ?_⟩
        rw [dI]
        have next : (z = -1 ∨ z ∈ wi) → ∀ j, j < i + 1 → ns.getD j 0 = -1 ∨ ns.getD j 0 ∈ ps.getD j [] := fun hz j hj => by
          by_cases c : j < i
          · exact hall j c
          · have : j = i := by omega
            rw [this, gz, gw]; exact hz
        refine ite2 (fun q => ?_) fun q => ?_
        · have q : z ≠ -1 := fun c => by rw [c] at q; simp at q
          refine ⟨_, rfl, _, rfl, r, _, rfl, .inl (hw.same s7).sq, rfl, flat_ints wi, _, rfl, ?_⟩
          rw [inV_int]
          show (if (!wi.contains z) = true then _ else _)
          refine ite2 (fun c => ?_) fun c => ?_
          · have c : z ∉ wi := by simpa using c
            have := k _ s7
            rw [isAsg_false_at (lt_of_get ew) (by rw [gz]; exact q) (by rw [gz, gw]; exact c)] at this
            exact this
          · have c : z ∈ wi := by simpa using c
            exact ⟨_, _, rfl, s7, next (.inr c)⟩
        · have q : z = -1 := Decidable.byContradiction fun c => q (by rw [decide_eq_false c]; rfl)
          exact iteF ⟨_, _, rfl, s7, next (.inl q)⟩
      · rintro σ H' ⟨v3, v4, rfl, s6, hall⟩
        rw [List.length_map] at hall
        have := k H' s6
        rw [(isAsg_iff ps ns).mpr ⟨hl, (taken_nodup ns).mp hnd, fun i hi => hall i (by rw [hl]; exact hi)⟩] at this
        exact this
end Hl
/-! # Q3. Choices; all assignments; the popular ones -/
namespace Hl
open PySem PySem.Spec PyProof.Rows L2
variable {P : Program} {w : World} {K : PySem.W.Frag} {mg : Str → Option Value} {base : Heap}
def spAgrees : Sp := fun vs H Q _ => ∃ (f s a : Addr) (fs ss as : List Int), vs = [.ref f, .ref s, .ref a] ∧ IL H f fs ∧ IL H s ss ∧ IL H a as ∧ fs.length = as.length ∧ ss.length = as.length ∧ ∀ H' : Hp, Same H H' → Q (.bl (agree fs ss as)) H'
theorem agree_iff {fs ss as : List Int} (h1 : fs.length = as.length) (h2 : ss.length = as.length) : agree fs ss as = true ↔ (∀ i, i < as.length → as.getD i 0 = fs.getD i 0 ∨ as.getD i 0 = ss.getD i 0) ∧ ∀ i, i < fs.length → fs.getD i 0 = -1 ∨ fs.getD i 0 ∈ as := by
  unfold agree
  rw [Bool.and_eq_true, zip_all _ 0 (0, 0), List.all_eq_true]
  have hz : ∀ i, i < as.length → (fs.zip ss).getD i (0, 0) = (fs.getD i 0, ss.getD i 0) := fun i hi => by
    rw [List.getD_eq_getElem?_getD, List.getElem?_eq_getElem (by rw [List.length_zip]; omega), List.getElem_zip, List.getD_eq_getElem?_getD, List.getD_eq_getElem?_getD, List.getElem?_eq_getElem (by omega), List.getElem?_eq_getElem (by omega)]
    rfl
  refine and_congr ⟨fun h i hi => ?_, fun h i hi _ => ?_⟩ ⟨fun h i hi => ?_, fun h x hx => ?_⟩
  · have := h i hi (by rw [List.length_zip]; omega)
    rw [hz i hi] at this
    simpa using this
  · rw [hz i hi]
    simpa using h i hi
  · have := h _ (getD_mem (d := 0) hi)
    simpa using this
  · obtain ⟨i, hi, e⟩ := List.getElem_of_mem hx
    have := h i hi
    rw [List.getD_eq_getElem?_getD, List.getElem?_eq_getElem hi] at this
    have e' : (some fs[i]).getD 0 = x := e
    rw [e'] at this
    simpa using this
theorem agree_false {fs ss as : List Int} (h1 : fs.length = as.length) (h2 : ss.length = as.length) (h : ¬ agree fs ss as = true) : agree fs ss as = false := by simpa using h
theorem ok_agrees {f : Addr} {fd : FuncData} (F : Fun K "agrees" "agrees" s_agrees f fd) (T : Tx mg) : FnOk P w K mg base CX0 1 f fd ["firsts", "seconds", "assignment"] spAgrees := by
  refine F.ok sc_agrees (fun vs H Q E h => ?_) (fun cdv A outer s H vs Q E hr h => ?_)
  · obtain ⟨p, q, a, fs, ss, as, rfl, _⟩ := h
    rfl
  · obtain ⟨p, q, a, fs, ss, as, rfl, hf, hs, ha, l1, l2, k⟩ := h
    refine ⟨_, (pss_cons (ps_for PassesOwn.never rfl (HlZ.pi_zip3 (by rfl) T.b_zip (pa_cons (pv 2) (pa_cons (pv 0) (pa_cons (pv 1) pa_nil)))) (pg_tup rfl (pgs_cons (pg_name (i := 3) sc_agrees.nd rfl (Or.inl rfl)) (pgs_cons (pg_name (i := 4) sc_agrees.nd rfl (Or.inl rfl)) (pgs_cons (pg_name (i := 5) sc_agrees.nd rfl (Or.inl rfl)) pgs_nil))))
      (pss_one (ps_if (pt_cmpR op_notIn_seq (pv 3) (pe_tup (pa_cons (pv 4) (pa_cons (pv 5) pa_nil))) (by rfl)) (pss_one (ps_ret pe_bl)) pss_nil)))
      (pss_cons (ps_for PassesOwn.never rfl (pi_list (pv 0)) (pg_name (i := 4) sc_agrees.nd rfl (Or.inl rfl))
      (pss_one (ps_if (PW.pt (pw_and (pt_cmpR op_ne (pv 4) (pe_globI T.g_NO_HOUSE) (nomark _)) (pw_and1 (pt_cmpR op_notIn_seq (pv 4) (pv 2) (by rfl))))) (pss_one (ps_ret pe_bl)) pss_nil)))
      (pss_one (ps_ret pe_bl)))), ?_⟩
    refine ⟨_, rfl, _, rfl, _, rfl, a, p, q, _, _, _, rfl, ha.sq, hf.sq, hs.sq, for_it (HlZ.walk_zip3 (K := K) (n := as.length) (a := a) (b := p) (c := q) (xs := as.map V.int) (ys := fs.map V.int) (zs := ss.map V.int) (by rw [List.length_map, List.length_map, List.length_map, l1, l2]; simp))
      (fun i σ H' => ∃ v3 v4 v5 : Option V, σ = [some (.ref p), some (.ref q), some (.ref a), v3, v4, v5] ∧ Same H H' ∧ ∀ j, j < i → as.getD j 0 = fs.getD j 0 ∨ as.getD j 0 = ss.getD j 0)
      ⟨_, _, _, rfl, Same.refl H, fun j hj => absurd hj (Nat.not_lt_zero _)⟩ (fun i σ H' _ ⟨_, _, _, _, s5, _⟩ => ⟨(ha.same s5).sq, (hf.same s5).sq, (hs.same s5).sq⟩) ?_ ?_⟩
    · rintro i v σ H1 H2 hi ⟨v3, v4, v5, rfl, s5, hall⟩ ⟨Tt, vx, vy, vz, rfl, hT, rfl, e1, e2, e3⟩
      obtain ⟨x, ex, rfl⟩ := map_get? e1
      obtain ⟨y, ey, rfl⟩ := map_get? e2
      obtain ⟨z, ez, rfl⟩ := map_get? e3
      have s6 : Same H (upd H1 Tt (.tup [.int x, .int y, .int z])) := s5.up hT
      refine ⟨Tt, _, rfl, SqT.of upd_same, rfl, _, _, rfl, _, _, rfl, _, _, rfl, rfl, ?_⟩
      refine ⟨_, rfl, _, rfl, _, rfl, (by show 2 ≤ sizeLine; decide), fun t ht => ⟨t, _, rfl, .inr (SqT.of upd_same), rfl, rfl, _, rfl, ?_⟩⟩
      have gx := getD_of ex 0
      have gy := getD_of ey 0
      have gz := getD_of ez 0
      have ein : inV (.int x) [.int y, .int z] = [y, z].contains x := inV_int x [y, z]
      rw [ein]
      have s7 := s6.up ht (o := .tup [.int y, .int z])
      refine ite2 (fun c => ?_) fun c => ?_
      · have c : ¬ (x = y ∨ x = z) := by simpa using c
        have := k _ s7
        rw [agree_false l1 l2 (fun z' => c (by have := ((agree_iff l1 l2).mp z').1 i hi; rwa [gx, gy, gz] at this))] at this
        exact this
      · have c : x = y ∨ x = z := by
          by_cases q : x = y
          · exact .inl q
          · simp [q] at c; exact .inr c
        refine ⟨_, _, _, rfl, s7, fun j hj => ?_⟩
        by_cases q : j < i
        · exact hall j q
        · have : j = i := by omega
          rw [this, gx, gy, gz]; exact c
    · rintro σ H1 ⟨v3, v4, v5, rfl, s5, hall⟩
      refine ⟨_, rfl, p, rfl, ⟨_, (hf.same s5).sq⟩, for_list (K := K) (a := p) (xs := fs.map V.int) (fun i σ H' => ∃ v3 v4 v5 : Option V, σ = [some (.ref p), some (.ref q), some (.ref a), v3, v4, v5] ∧ Same H H' ∧ ∀ j, j < i → fs.getD j 0 = -1 ∨ fs.getD j 0 ∈ as)
        ⟨_, _, _, rfl, s5, fun j hj => absurd hj (Nat.not_lt_zero _)⟩ (fun i σ H' _ ⟨_, _, _, _, s6, _⟩ => (hf.same s6).sq) ?_ ?_⟩
      · rintro i v σ H2 hi ⟨v3, v4, v5, rfl, s6, hall2⟩
        obtain ⟨x, ex, rfl⟩ := map_get? hi
        have gx := getD_of ex 0
        refine ⟨_, rfl, rfl, _, rfl, ?_⟩
        rw [dI]
        have next : (x = -1 ∨ x ∈ as) → ∀ j, j < i + 1 → fs.getD j 0 = -1 ∨ fs.getD j 0 ∈ as := fun hx j hj => by
          by_cases q : j < i
          · exact hall2 j q
          · have : j = i := by omega
            rw [this, gx]; exact hx
        refine ite2 (fun c => ?_) fun c => ?_
        · have c : x ≠ -1 := fun z => by rw [z] at c; simp at c
          refine ⟨_, rfl, _, rfl, a, _, rfl, .inl (ha.same s6).sq, rfl, flat_ints as, _, rfl, ?_⟩
          rw [inV_int]
          show (if (!as.contains x) = true then _ else _)
          refine ite2 (fun c2 => ?_) fun c2 => ?_
          · have c2 : x ∉ as := by simpa using c2
            have := k _ s6
            rw [agree_false l1 l2 (fun z' => by
              have := ((agree_iff l1 l2).mp z').2 i (lt_of_get ex)
              rw [gx] at this
              rcases this with z | z
              · exact c z
              · exact c2 z)] at this
            exact this
          · have c2 : x ∈ as := by simpa using c2
            exact ⟨_, _, _, rfl, s6, next (.inr c2)⟩
        · have c : x = -1 := Decidable.byContradiction fun z => c (by rw [decide_eq_false z]; rfl)
          exact iteF ⟨_, _, _, rfl, s6, next (.inl c)⟩
      · rintro σ H2 ⟨v3, v4, v5, rfl, s6, hall2⟩
        rw [List.length_map] at hall2
        have := k _ s6
        rw [(agree_iff l1 l2).mpr ⟨hall, hall2⟩] at this
        exact this

theorem yes_ {σ : L2.St} {H : Hp} {Q : Bool → Hp → Prop} (h : Q true H) : tYes σ H Q := h
/-! ### first choices -/
def te_first_choices (K : PySem.W.Frag) : TE := tIf (tTru K (tVar 1)) (tOp (rIxL K) (tVar 1) (tC (.int 0))) (tC (.int (-1)))
/-- a new list of whole numbers -/
def NewIL (H : Hp) (ns : List Int) (Q : V → Hp → Prop) : Prop := ∀ (H' : Hp) (q : Addr), Same H H' → H q = none → IL H' q ns → Q (.ref q) H'
def spFirsts : Sp := fun vs H Q _ => ∃ (p : Addr) (ps : List (List Int)), vs = [.ref p] ∧ LL H p ps ∧ ps.length ≤ 1000 ∧ NewIL H (firstsOf ps) Q
theorem firstsOf_snoc (l : List (List Int)) (x : List Int) : firstsOf (l ++ [x]) = firstsOf l ++ [x.headD (-1)] := by
  unfold firstsOf; rw [List.map_append]; rfl
theorem headD_read {K : PySem.W.Frag} {H : Hp} {r : Addr} {hs : List Int} {i : Nat} {σ : L2.St} {Q : V → Hp → Prop} (hi : σ[i]? = some (some (.ref r))) (h : IL H r hs) (q : Q (.int (hs.headD (-1))) H) :
    tIf (tTru K (tVar i)) (tOp (rIxL K) (tVar i) (tC (.int 0))) (tC (.int (-1))) σ H Q := by
  refine ⟨_, hi, !(hs.map V.int).isEmpty, .inl ⟨_, h.sq, rfl⟩, ?_⟩
  cases hs with
  | nil => exact iteF q
  | cons x r => exact iteT ⟨_, hi, _, _, 0, _, rfl, rfl, h.sq, at_of (j := 0) rfl rfl, q⟩
theorem ok_first_choices {f : Addr} {fd : FuncData} (F : Fun K "first_choices" "first_choices" s_first_choices f fd) (T : Tx mg) : FnOk P w K mg base CX0 1 f fd ["preferences"] spFirsts := by
  refine F.ok sc_first_choices (fun vs H Q E h => ?_) (fun cdv A outer s H vs Q E hr h => ?_)
  · obtain ⟨p, ps, rfl, _⟩ := h
    rfl
  · obtain ⟨p, ps, rfl, ⟨rs, hp, hR⟩, hl, k⟩ := h
    have hn := hR.length
    refine ⟨_, (pss_one (ps_ret (pe_lc (own := [("houses", 1)]) (g := (gName 1)) (tt := tYes) (te := (te_first_choices K)) rfl sc_first_choices.nd (pi_list (pv 0)) (blkOk_by (own := [("houses", 1)]) (N := ["preferences", "houses"]) (sc := defScope s_first_choices) (by decide +kernel)) (fun _ _ _ _ _ => (pg_name (i := 1) sc_first_choices.nd rfl (Or.inl rfl))) (fun _ _ _ _ _ => pts_nil) (fun _ _ _ _ _ => (pe_ifExp (pt_truth (pv 1) (by intro _; rfl)) (pe_ix ix_list (pv 1) pe_int (fun _ _ => rfl)) (pe_globI T.g_NO_HOUSE)))))), ?_⟩
    refine ⟨_, rfl, p, rfl, ⟨_, SqL.of hp⟩, fun D nD => lc_list (K := K) (a := p) (xs := rs.map V.ref) (fun i H' => Same H H' ∧ IL H' D (firstsOf (ps.take i))) ⟨Same.up0 nD, upd_same⟩ (fun i H' _ ⟨s5, _⟩ => SqL.of (s5 _ _ hp)) ?_ ?_⟩
    · rintro i v H' hi ⟨s5, hD⟩
      obtain ⟨r, er, rfl⟩ := map_get? hi
      obtain ⟨wi, ew, hw⟩ := hR.get er
      refine ⟨rfl, yes_ (iteT ?_)⟩
      refine headD_read (K := K) (r := r) (hs := wi) rfl (hw.same s5) ?_
      refine ⟨_, hD, ?_, s5.set nD, ?_⟩
      · rw [List.length_map]
        unfold firstsOf
        rw [List.length_map, List.length_take]
        exact line_lt (by omega)
      · show (upd H' D _) D = _
        rw [upd_same, take_snoc ew, firstsOf_snoc, List.map_append]
        rfl
    · rintro H' ⟨s5, hD⟩
      rw [List.length_map, hn, List.take_length] at hD
      exact k H' D s5 nD hD

/-! ### second choices -/
def tt_second_choices (K : PySem.W.Frag) : TT := tTest (tOp (rIn K true) (tVar 5) (tVar 1))
def te_second_choices : TE := tVar 5
def spSeconds : Sp := fun vs H Q _ => ∃ (p : Addr) (ps : List (List Int)), vs = [.ref p] ∧ LL H p ps ∧ ps.length ≤ 1000 ∧ (∀ x ∈ ps, x.length ≤ 1000) ∧ NewIL H (secondsOf ps) Q
def secs (fs : List Int) (l : List (List Int)) : List Int := l.map fun hs => (othersOf fs hs).headD (-1)
theorem secs_snoc (fs : List Int) (l : List (List Int)) (x : List Int) : secs fs (l ++ [x]) = secs fs l ++ [(othersOf fs x).headD (-1)] := by
  unfold secs; rw [List.map_append]; rfl
theorem others_snoc (fs l : List Int) (z : Int) : othersOf fs (l ++ [z]) = othersOf fs l ++ if (!fs.contains z) = true then [z] else [] := by
  unfold othersOf
  rw [List.filter_append, List.filter_cons]
  rfl
theorem ok_second_choices {f : Addr} {fd : FuncData} (F : Fun K "second_choices" "second_choices" s_second_choices f fd) (T : Tx mg) (D_first_choices : Dn P w K mg base "first_choices" 1 ["preferences"] spFirsts) : FnOk P w K mg base CX0 2 f fd ["preferences"] spSeconds := by
  refine F.ok sc_second_choices (fun vs H Q E h => ?_) (fun cdv A outer s H vs Q E hr h => ?_)
  · obtain ⟨p, ps, rfl, _⟩ := h
    rfl
  · obtain ⟨p, ps, rfl, ⟨rs, hp, hR⟩, hl, hl2, k⟩ := h
    have hn := hR.length
    refine ⟨_, (pss_cons (ps_set (i := 1) sc_second_choices.nd rfl (Or.inr rfl) (pe_fn D_first_choices (hr.mono (by decide)) (pa_cons (pv 0) pa_nil)))
      (pss_cons (ps_set (i := 2) sc_second_choices.nd rfl (Or.inl rfl) (pe_lst pa_nil))
      (pss_cons (ps_for PassesOwn.never rfl (pi_list (pv 0)) (pg_name (i := 3) sc_second_choices.nd rfl (Or.inl rfl))
      (pss_cons (ps_setLc (i := 4) (own := [("house", 5)]) (g := (gName 5)) (tt := (tt_second_choices K)) (te := te_second_choices) rfl sc_second_choices.nd rfl rfl (sw_true rfl rfl rfl (by decide +kernel)) (pi_list (pv 3)) (blkOk_by (own := [("house", 5)]) (N := ["preferences", "firsts", "found", "houses", "others", "house"]) (sc := defScope s_second_choices) (by decide +kernel)) (fun _ _ _ _ _ => (pg_name (i := 5) sc_second_choices.nd rfl (Or.inl rfl))) (fun _ _ _ _ _ => (pts_one (pt_cmpR op_notIn_seq (pv 5) (pv 1) (by rfl)))) (fun _ _ _ _ _ => (pv 5)))
      (pss_one (ps_expr (pe_bm PySem.F.plainAttrs_list PySem.F.slot_list_append PySem.F.type_list_append mt_append (pv 2) (pa_cons (pe_ifExp (pt_truth (pv 4) (by intro _; rfl)) (pe_ix ix_list (pv 4) pe_int (fun _ _ => rfl)) (pe_globI T.g_NO_HOUSE)) pa_nil))))))
      (pss_one (ps_ret (pv 2)))))), ?_⟩
    refine ⟨_, rfl, p, ps, rfl, ⟨rs, hp, hR⟩, hl, fun H1 q s1 nq hq => ?_⟩
    refine ⟨Nat.zero_le _, fun fo nfo => ?_⟩
    have s2 : Same H1 (upd H1 fo (.lst [])) := Same.up0 nfo
    have nH : H fo = none := s1.free nfo
    refine ⟨_, rfl, p, rfl, ⟨_, SqL.of (s2 _ _ (s1 _ _ hp))⟩, for_list (K := K) (a := p) (xs := rs.map V.ref) (fun i σ H' => ∃ v3 v4 v5 : Option V, σ = [some (.ref p), some (.ref q), some (.ref fo), v3, v4, v5] ∧ Same H1 H' ∧ IL H' fo (secs (firstsOf ps) (ps.take i)))
      ⟨_, _, _, rfl, s2, upd_same⟩ (fun i σ H' _ ⟨_, _, _, _, s5, _⟩ => SqL.of (s5 _ _ (s1 _ _ hp))) ?_ ?_⟩
    · rintro i v σ H2 hi ⟨v3, v4, v5, rfl, s5, hfo⟩
      obtain ⟨r, er, rfl⟩ := map_get? hi
      obtain ⟨wi, ew, hw⟩ := hR.get er
      have hw1 : IL H2 r wi := (hw.same s1).same s5
      have hwl : wi.length ≤ 1000 := hl2 wi (List.mem_of_getElem? ew)
      refine ⟨_, rfl, r, rfl, ⟨_, hw1.sq⟩, fun D nD => lc_list (K := K) (a := r) (xs := wi.map V.int) (fun j H' => Same H2 H' ∧ IL H' D (othersOf (firstsOf ps) (wi.take j))) ⟨Same.up0 nD, upd_same⟩ (fun j H' _ ⟨s6, _⟩ => (hw1.same s6).sq) ?_ ?_⟩
      · rintro j v H3 hj ⟨s6, hD⟩
        obtain ⟨z, ez, rfl⟩ := map_get? hj
        have hq3 : IL H3 q (firstsOf ps) := (hq.same s5).same s6
        refine ⟨rfl, _, rfl, _, rfl, q, _, rfl, .inl hq3.sq, rfl, flat_ints _, _, rfl, ?_⟩
        rw [inV_int]
        show (if (!(firstsOf ps).contains z) = true then _ else _)
        have e2 := others_snoc (firstsOf ps) (wi.take j) z
        rw [← take_snoc ez] at e2
        refine ite2 (fun c => ?_) fun c => ?_
        · rw [if_pos c] at e2
          refine ⟨_, rfl, _, hD, ?_, s6.set nD, ?_⟩
          · rw [List.length_map]
            have : (othersOf (firstsOf ps) (wi.take j)).length ≤ (wi.take j).length := List.length_filter_le _ _
            rw [List.length_take] at this
            exact line_lt (by omega)
          · show (upd H3 D _) D = _
            rw [upd_same, e2, List.map_append]; rfl
        · rw [if_neg c, List.append_nil] at e2
          refine ⟨s6, ?_⟩
          rw [e2]; exact hD
      · rintro H3 ⟨s6, hD⟩
        rw [List.length_map, List.take_length] at hD
        have hfo3 : IL H3 fo _ := hfo.same s6
        refine ⟨_, rfl, .inl ⟨rfl, _, hfo3.sq⟩, headD_read (K := K) (r := D) (hs := othersOf (firstsOf ps) wi) rfl hD ?_⟩
        refine ⟨fo, _, _, rfl, rfl, hfo3, ?_, ?_⟩
        · rw [List.length_map]
          unfold secs
          rw [List.length_map, List.length_take]
          exact line_lt (by omega)
        · refine ⟨_, _, _, rfl, (s5.trans s6).set nfo, ?_⟩
          show (upd H3 fo _) fo = _
          rw [upd_same, take_snoc ew, secs_snoc, List.map_append]
          rfl
    · rintro σ H2 ⟨v3, v4, v5, rfl, s5, hfo⟩
      rw [List.length_map, hn, List.take_length] at hfo
      exact ⟨_, rfl, k H2 fo (s1.trans s5) nH hfo⟩

/-! ### is_characterized -/
def spChar : Sp := fun vs H Q _ => ∃ (p a : Addr) (ps : List (List Int)) (as : List Int), vs = [.ref p, .ref a] ∧ LL H p ps ∧ IL H a as ∧ ps.length ≤ 1000 ∧ (∀ x ∈ ps, x.length ≤ 1000) ∧ as.length = ps.length ∧ ∀ H' : Hp, Same H H' → Q (.bl (agree (firstsOf ps) (secondsOf ps) as)) H'
theorem ok_is_characterized {f : Addr} {fd : FuncData} (F : Fun K "is_characterized" "is_characterized" s_is_characterized f fd) (T : Tx mg) (D_first_choices : Dn P w K mg base "first_choices" 1 ["preferences"] spFirsts)
    (D_second_choices : Dn P w K mg base "second_choices" 2 ["preferences"] spSeconds) (D_agrees : Dn P w K mg base "agrees" 1 ["firsts", "seconds", "assignment"] spAgrees) : FnOk P w K mg base CX0 3 f fd ["preferences", "assignment"] spChar := by
  refine F.ok sc_is_characterized (fun vs H Q E h => ?_) (fun cdv A outer s H vs Q E hr h => ?_)
  · obtain ⟨p, a, ps, as, rfl, _⟩ := h
    rfl
  · obtain ⟨p, a, ps, as, rfl, hp, ha, hl, hl2, he, k⟩ := h
    refine ⟨_, (pss_one (ps_ret (pe_fn D_agrees (hr.mono (by decide)) (pa_cons (pe_fn D_first_choices (hr.mono (by decide)) (pa_cons (pv 0) pa_nil)) (pa_cons (pe_fn D_second_choices (hr.mono (by decide)) (pa_cons (pv 0) pa_nil)) (pa_cons (pv 1) pa_nil)))))), ?_⟩
    refine ⟨_, rfl, p, ps, rfl, hp, hl, fun H1 q s1 nq hq => ⟨_, rfl, p, ps, rfl, hp.same s1, hl, hl2, fun H2 q2 s2 nq2 hq2 => ⟨_, rfl, q, q2, a, _, _, as, rfl, hq.same s2, hq2, (ha.same s1).same s2, ?_, ?_, fun H3 s3 => k H3 ((s1.trans s2).trans s3)⟩⟩⟩
    · rw [firsts_len, he]
    · rw [seconds_len, he]
end Hl
/-! # Q4. All assignments; the popular ones -/
namespace Hl
open PySem PySem.Spec PyProof.Rows L2
variable {P : Program} {w : World} {K : PySem.W.Frag} {mg : Str → Option Value} {base : Heap}
/-- a new list of new rows -/
def NewLL (H : Hp) (ws : List (List Int)) (Q : V → Hp → Prop) : Prop := ∀ (H' : Hp) (q : Addr) (rs : List Addr), Same H H' → H q = none → H' q = some (.lst (rs.map V.ref)) → (∀ r ∈ rs, H r = none) → Rows H' rs ws → Q (.ref q) H'
/-- the bounds that a market keeps -/
structure Small (ps : List (List Int)) : Prop where
  n : ps.length ≤ 5
  m : ∀ x ∈ ps, x.length ≤ 5
def spAll : Sp := fun vs H Q _ => ∃ (p : Addr) (ps : List (List Int)), vs = [.ref p] ∧ LL H p ps ∧ Small ps ∧ NewLL H (allAsg ps) Q
theorem ext_len (b os : List Int) : (ext b os).length ≤ os.length := by
  unfold ext; rw [List.length_map]; exact List.length_filter_le _ _
theorem offers_len (hs : List Int) : (offers hs).length = hs.length + 1 := by
  unfold offers
  rw [List.length_append, (srt_perm hs).length_eq]; rfl
theorem flat_len {α β : Type} (f : α → List β) (m : Nat) : ∀ (l : List α), (∀ x ∈ l, (f x).length ≤ m) → (l.flatMap f).length ≤ l.length * m
  | [], _ => by simp
  | x :: l, h => by
    rw [List.flatMap_cons, List.length_append, List.length_cons, Nat.add_mul, Nat.one_mul]
    have h1 := h x (List.mem_cons_self ..)
    have h2 := flat_len f m l fun y hy => h y (List.mem_cons_of_mem _ hy)
    omega
theorem level_len {m : Nat} (found : List (List Int)) {hs : List Int} (h : hs.length ≤ m) : (level found hs).length ≤ found.length * (m + 1) := by
  unfold level
  refine flat_len _ _ _ fun x _ => ?_
  have := ext_len x (offers hs)
  rw [offers_len] at this
  omega
theorem levels_len : ∀ (ps found : List (List Int)), (∀ x ∈ ps, x.length ≤ 5) → (ps.foldl level found).length ≤ found.length * 6 ^ ps.length
  | [], found, _ => by simp
  | hs :: ps, found, h => by
    rw [List.foldl_cons]
    have h1 := levels_len ps (level found hs) fun x hx => h x (List.mem_cons_of_mem _ hx)
    have h2 := level_len found (h hs (List.mem_cons_self ..))
    rw [List.length_cons, Nat.pow_succ]
    calc (ps.foldl level (level found hs)).length ≤ (level found hs).length * 6 ^ ps.length := h1
      _ ≤ (found.length * (5 + 1)) * 6 ^ ps.length := Nat.mul_le_mul_right _ h2
      _ = found.length * (6 ^ ps.length * 6) := by rw [Nat.mul_assoc, Nat.mul_comm (5 + 1)]
theorem pow_le {n : Nat} (h : n ≤ 5) : 6 ^ n ≤ 7776 := by
  have := Nat.pow_le_pow_right (show 0 < 6 by decide) h
  exact this
theorem levels_bound {ps : List (List Int)} (S : Small ps) (i : Nat) : ((ps.take i).foldl level [[]]).length ≤ 7776 := by
  have h := levels_len (ps.take i) [[]] fun x hx => S.m x (List.mem_of_mem_take hx)
  have l : (ps.take i).length ≤ 5 := by
    rw [List.length_take]; have := S.n; omega
  have := pow_le l
  simp only [List.length_cons, List.length_nil, Nat.zero_add, Nat.one_mul] at h
  omega
theorem allAsg_le {ps : List (List Int)} (S : Small ps) : (allAsg ps).length ≤ 7776 := by
  have := levels_bound S ps.length
  rw [List.take_length] at this
  exact this
theorem ext_snoc (b os : List Int) (h : Int) : ext b (os ++ [h]) = ext b os ++ if fits b h = true then [b ++ [h]] else [] := by
  unfold ext
  rw [List.filter_append, List.map_append, List.filter_cons]
  split <;> rfl
theorem flat_snoc {α β : Type} (f : α → List β) (l : List α) (x : α) : (l ++ [x]).flatMap f = l.flatMap f ++ f x := by
  rw [List.flatMap_append]; simp
theorem foldl_snoc {α β : Type} (f : β → α → β) (l : List α) (x : α) (z : β) : (l ++ [x]).foldl f z = f (l.foldl f z) x := by
  rw [List.foldl_append]; rfl
/-- rows stay where nothing but l is changed -/
theorem Rows.exc {H H' : Hp} {l : Addr} (hx : ∀ b o, H b = some o → b ≠ l → H' b = some o) : ∀ {rs : List Addr} {ws : List (List Int)}, (∀ r ∈ rs, r ≠ l) → Rows H rs ws → Rows H' rs ws
  | _, _, _, .nil => .nil
  | _, _, h, .cons a t => .cons (hx _ _ a (h _ (List.mem_cons_self ..))) (t.exc hx fun r hr => h r (List.mem_cons_of_mem _ hr))
theorem levels_mem : ∀ (ps found : List (List Int)) (n : Nat), (∀ b ∈ found, b.length = n) → ∀ b ∈ ps.foldl level found, b.length = n + ps.length
  | [], found, n, h, b, hb => by rw [List.length_nil]; exact h b hb
  | hs :: ps, found, n, h, b, hb => by
    rw [List.foldl_cons] at hb
    have := levels_mem ps (level found hs) (n + 1) (fun c hc => by
      unfold level ext at hc
      obtain ⟨d, hd, hc⟩ := List.mem_flatMap.mp hc
      obtain ⟨x, _, e⟩ := List.mem_map.mp hc
      rw [← e, List.length_append, h d hd]
      rfl) b hb
    rw [List.length_cons]
    omega
theorem append_row {D : Ends} {σ : L2.St} {H : Hp} {lg br : Addr} {lrs : List Addr} {b : List Int} {z : Int} (h4 : σ[4]? = some (some (.ref lg))) (h5 : σ[5]? = some (some (.ref br))) (h6 : σ[6]? = some (some (.int z)))
    (hlg : H lg = some (.lst (lrs.map V.ref))) (hb : IL H br b) (hl : lrs.length ≤ 100000) (bl : b.length ≤ 100000)
    (k : ∀ (H' : Hp) (t : Addr), (∀ b o, H b = some o → b ≠ lg → H' b = some o) → H t = none → IL H' t (b ++ [z]) → H' lg = some (.lst ((lrs ++ [t]).map V.ref)) → D.nx σ H') :
    tDrop (tBM K "list" rAppend (tVar 4) (tCons (tOp rCat (tVar 5) (tLst (tCons (tVar 6) tNil))) tNil)) D σ H := by
  refine ⟨_, h4, .inl ⟨rfl, _, SqL.of hlg⟩, _, h5, _, h6, (by show 1 ≤ sizeLine; decide), fun t1 nt1 => ⟨br, t1, _, _, rfl, rfl, (Same.up0 nt1) _ _ hb, upd_same, ?_, fun t2 nt2 => ?_⟩⟩
  · rw [List.length_map]
    exact line_le (by simp; omega)
  · have s1 : Same H (upd H t1 (.lst [.int z])) := Same.up0 nt1
    have s2 := s1.up nt2 (o := .lst (b.map V.int ++ [.int z]))
    have nt : H t2 = none := s1.free nt2
    have ne : t2 ≠ lg := fun q => by rw [q, hlg] at nt; cases nt
    refine ⟨lg, _, _, rfl, rfl, s2 _ _ hlg, ?_, ?_⟩
    · rw [List.length_map]
      exact line_lt (by omega)
    · refine k _ t2 (fun c o e hc => by rw [upd_ne hc]; exact s2 _ _ e) nt ?_ ?_
      · show upd _ lg _ t2 = _
        rw [upd_ne ne, upd_same, List.map_append]
        rfl
      · rw [upd_same, List.map_append]
        rfl
theorem sum_take_le {α β : Type} (f : α → List β) (l : List α) (i : Nat) : ((l.take i).flatMap f).length ≤ (l.flatMap f).length := by
  conv => rhs; rw [← List.take_append_drop i l, List.flatMap_append, List.length_append]
  exact Nat.le_add_right _ _
theorem ok_all_assignments {f : Addr} {fd : FuncData} (F : Fun K "all_assignments" "all_assignments" s_all_assignments f fd) (T : Tx mg) : FnOk P w K mg base CX0 1 f fd ["preferences"] spAll := by
  refine F.ok sc_all_assignments (fun vs H Q E h => ?_) (fun cdv A outer s H vs Q E hr h => ?_)
  · obtain ⟨p, ps, rfl, _⟩ := h
    rfl
  · obtain ⟨p, ps, rfl, ⟨rs, hp, hR⟩, S, k⟩ := h
    have hn := hR.length
    refine ⟨_, (pss_cons (ps_set (i := 1) sc_all_assignments.nd rfl (Or.inl rfl) (pe_lst (pa_cons (pe_lst pa_nil) pa_nil)))
      (pss_cons (ps_for PassesOwn.never rfl (pi_list (pv 0)) (pg_name (i := 2) sc_all_assignments.nd rfl (Or.inl rfl))
      (pss_cons (ps_set (i := 3) sc_all_assignments.nd rfl (Or.inl rfl) (pe_op op_cat (pe_callB cr_sorted (by rfl) T.b_sorted (by decide +kernel) (pa_cons (pv 2) pa_nil)) (pe_lst (pa_cons (pe_globI T.g_NO_HOUSE) pa_nil))))
      (pss_cons (ps_set (i := 4) sc_all_assignments.nd rfl (Or.inl rfl) (pe_lst pa_nil))
      (pss_cons (ps_for PassesOwn.never rfl (pi_list (pv 1)) (pg_name (i := 5) sc_all_assignments.nd rfl (Or.inl rfl))
      (pss_one (ps_for PassesOwn.never rfl (pi_list (pv 3)) (pg_name (i := 6) sc_all_assignments.nd rfl (Or.inl rfl))
      (pss_one (ps_if (PW.pt (pw_or (pt_cmpR op_eq (pv 6) (pe_globI T.g_NO_HOUSE) (nomark _)) (pw_or1 (pt_cmpR op_notIn_seq (pv 6) (pv 5) (by rfl))))) (pss_one (ps_expr (pe_bm PySem.F.plainAttrs_list PySem.F.slot_list_append PySem.F.type_list_append mt_append (pv 4) (pa_cons (pe_op op_cat (pv 5) (pe_lst (pa_cons (pv 6) pa_nil))) pa_nil)))) pss_nil)))))
      (pss_one (ps_set (i := 1) sc_all_assignments.nd rfl (Or.inl rfl) (pv 4)))))))
      (pss_one (ps_ret (pv 1))))), ?_⟩
    -- found = [[]]
    refine ⟨Nat.zero_le _, fun b0 nb0 => ⟨(by show 1 ≤ sizeLine; decide), fun l0 nl0 => ?_⟩⟩
    have sb : Same H (upd H b0 (.lst [])) := Same.up0 nb0
    have sl : Same H (upd (upd H b0 (.lst [])) l0 (.lst [.ref b0])) := sb.up nl0
    have e0 : (upd (upd H b0 (.lst [])) l0 (.lst [.ref b0])) b0 = some (.lst []) := (Same.up0 nl0) _ _ upd_same
    refine ⟨_, rfl, p, rfl, ⟨_, SqL.of (sl _ _ hp)⟩, for_list (K := K) (a := p) (xs := rs.map V.ref) (fun i σ H' => ∃ (fl : Addr) (brs : List Addr) (v2 v3 v4 v5 v6 : Option V), σ = [some (.ref p), some (.ref fl), v2, v3, v4, v5, v6] ∧ Same H H' ∧ H fl = none ∧ H' fl = some (.lst (brs.map V.ref)) ∧ (∀ r ∈ brs, H r = none) ∧
        Rows H' brs ((ps.take i).foldl level [[]])) ⟨l0, [b0], none, none, none, none, none, rfl, sl, sb.free nl0, upd_same, fun r hr => (by rw [List.mem_singleton.mp hr]; exact nb0), .cons e0 .nil⟩
      (fun i σ H' _ ⟨_, _, _, _, _, _, _, _, s5, _⟩ => SqL.of (s5 _ _ hp)) ?_ ?_⟩
    · rintro i v σ H1 hi ⟨fl, brs, v2, v3, v4, v5, v6, rfl, s1, nfl, hfl, nbrs, hB⟩
      obtain ⟨r, er, rfl⟩ := map_get? hi
      obtain ⟨wi, ew, hw⟩ := hR.get er
      have hw1 : IL H1 r wi := hw.same s1
      have hwl : wi.length ≤ 5 := S.m wi (List.mem_of_getElem? ew)
      -- offers = sorted(houses) + [NO_HOUSE]
      refine ⟨_, rfl, r, wi, rfl, hw1.sq, by omega, fun ns' so perm hsort nso => ?_⟩
      have ens : ns' = srt wi := sorted_unique hsort (srt_sorted wi) (perm.trans (srt_perm wi).symm)
      subst ens
      refine ⟨(by show 1 ≤ sizeLine; decide), fun o1 no1 => ⟨so, o1, _, _, rfl, rfl, (Same.up0 no1) _ _ upd_same, upd_same, ?_, fun of nof => ?_⟩⟩
      · rw [List.length_map, (srt_perm wi).length_eq]
        exact line_le (by simp; omega)
      have s2 : Same H1 (upd (upd (upd H1 so (.lst ((srt wi).map V.int))) o1 (.lst [.int (-1)])) of (.lst ((srt wi).map V.int ++ [.int (-1)]))) := ((Same.up0 nso).up no1).up nof
      generalize eH2 : (upd (upd (upd H1 so (.lst ((srt wi).map V.int))) o1 (.lst [.int (-1)])) of (.lst ((srt wi).map V.int ++ [.int (-1)]))) = H2 at s2
      have hof : IL H2 of (offers wi) := by
        rw [← eH2]
        show (upd _ of _) of = _
        rw [upd_same]
        unfold offers
        rw [List.map_append]
        rfl
      -- longer = []
      refine ⟨Nat.zero_le _, fun lg nlg => ?_⟩
      have nlgH : H lg = none := (s1.trans s2).free nlg
      have s3 : Same H2 (upd H2 lg (.lst [])) := Same.up0 nlg
      have hfl2 : H2 fl = some (.lst (brs.map V.ref)) := s2 _ _ hfl
      have hB2 : Rows H2 brs ((ps.take i).foldl level [[]]) := hB.same s2
      have bound : (level ((ps.take i).foldl level [[]]) wi).length ≤ 7776 := by
        have := levels_bound S (i + 1)
        rw [take_snoc ew, foldl_snoc] at this
        exact this
      refine ⟨_, rfl, fl, rfl, ⟨_, SqL.of (s3 _ _ hfl2)⟩, for_list (K := K) (a := fl) (xs := brs.map V.ref) (fun j σ H' => ∃ (lrs : List Addr) (v5 v6 : Option V), σ = [some (.ref p), some (.ref fl), some (.ref r), some (.ref of), some (.ref lg), v5, v6] ∧ Same H2 H' ∧ H' lg = some (.lst (lrs.map V.ref)) ∧
          (∀ x ∈ lrs, H x = none ∧ x ≠ lg) ∧ Rows H' lrs ((((ps.take i).foldl level [[]]).take j).flatMap fun b => ext b (offers wi)))
        ⟨[], v5, v6, rfl, s3, upd_same, fun x hx => absurd hx List.not_mem_nil, .nil⟩ (fun j σ H' _ ⟨_, _, _, _, s5, _⟩ => SqL.of (s5 _ _ hfl2)) ?_ ?_⟩
      · rintro j v σ H3 hj ⟨lrs, v5, v6, rfl, s4, hlg, nlrs, hL⟩
        obtain ⟨br, ebr, rfl⟩ := map_get? hj
        obtain ⟨b, eb, hb⟩ := hB2.get ebr
        have hbl : ((((ps.take i).foldl level [[]]).take j).flatMap fun b => ext b (offers wi)).length + (ext b (offers wi)).length ≤ 7776 := by
          have q := sum_take_le (fun b => ext b (offers wi)) ((ps.take i).foldl level [[]]) (j + 1)
          rw [take_snoc eb, flat_snoc, List.length_append] at q
          exact Nat.le_trans q bound
        generalize epre : ((((ps.take i).foldl level [[]]).take j).flatMap fun b => ext b (offers wi)) = pre at hL hbl
        rw [take_snoc eb]
        refine ⟨_, rfl, of, rfl, ⟨_, (hof.same s4).sq⟩, for_list (K := K) (a := of) (xs := (offers wi).map V.int) (fun h σ H' => ∃ (lrs : List Addr) (v6 : Option V), σ = [some (.ref p), some (.ref fl), some (.ref r), some (.ref of), some (.ref lg), some (.ref br), v6] ∧ Same H2 H' ∧ H' lg = some (.lst (lrs.map V.ref)) ∧
            (∀ x ∈ lrs, H x = none ∧ x ≠ lg) ∧ Rows H' lrs (pre ++ ext b ((offers wi).take h)))
          ⟨lrs, v6, rfl, s4, hlg, nlrs, by rw [List.take_zero]; show Rows H3 lrs (pre ++ []); rw [List.append_nil]; exact hL⟩ (fun h σ H' _ ⟨_, _, _, s5, _⟩ => (hof.same s5).sq) ?_ ?_⟩
        · rintro h v σ H4 hh ⟨lrs, v6, rfl, s5, hlg, nlrs, hL⟩
          obtain ⟨z, ez, rfl⟩ := map_get? hh
          have hb4 : IL H4 br b := hb.same s5
          have step := ext_snoc b ((offers wi).take h) z
          rw [← take_snoc ez] at step
          have lb : (pre ++ ext b ((offers wi).take h)).length ≤ 7776 := by
            rw [List.length_append]
            have q1 : (ext b ((offers wi).take h)).length ≤ (ext b (offers wi)).length := by
              unfold ext
              rw [List.length_map, List.length_map]
              exact (List.Sublist.filter _ (List.take_sublist h _)).length_le
            omega
          have hlrs : lrs.length ≤ 7776 := by rw [hL.length]; exact lb
          have hbl5 : b.length ≤ 5 := by
            have := levels_mem (ps.take i) [[]] 0 (fun b hb => by rw [List.mem_singleton.mp hb]; rfl) b (List.mem_of_getElem? eb)
            rw [List.length_take] at this
            have := S.n
            omega
          refine ⟨_, rfl, rfl, _, rfl, ?_⟩
          rw [dI]
          refine ite2 (fun c => ?_) fun c => ?_
          · have c : z = -1 := of_decide_eq_true c
            have hf : fits b z = true := by rw [c]; rfl
            rw [if_pos hf] at step
            refine iteT (append_row (lg := lg) (br := br) (lrs := lrs) (b := b) (z := z) rfl rfl rfl hlg hb4 (by omega) (by omega) fun H5 t hx nt ht hlg5 => ?_)
            refine ⟨lrs ++ [t], _, rfl, fun b' o e => hx _ _ (s5 _ _ e) (fun q => by rw [q, nlg] at e; cases e), hlg5, fun x hx' => ?_, ?_⟩
            · rcases List.mem_append.mp hx' with q | q
              · exact nlrs x q
              · rw [List.mem_singleton.mp q]
                exact ⟨((s1.trans s2).trans s5).free nt, fun q => by rw [q, hlg] at nt; cases nt⟩
            · rw [step, ← List.append_assoc]
              exact (hL.exc hx fun r hr => (nlrs r hr).2).snoc ht
          · have c : z ≠ -1 := fun q => c (decide_eq_true q)
            refine ⟨_, rfl, _, rfl, br, _, rfl, .inl hb4.sq, rfl, flat_ints b, _, rfl, ?_⟩
            rw [inV_int]
            show (if (!b.contains z) = true then _ else _)
            have hz : (z == -1) = false := by simpa using c
            have ef : fits b z = !b.contains z := by
              unfold fits; rw [hz, Bool.false_or]
            rw [← ef]
            refine ite2 (fun hf => ?_) fun hf => ?_
            · rw [if_pos hf] at step
              refine append_row (lg := lg) (br := br) (lrs := lrs) (b := b) (z := z) rfl rfl rfl hlg hb4 (by omega) (by omega) fun H5 t hx nt ht hlg5 => ?_
              refine ⟨lrs ++ [t], _, rfl, fun b' o e => hx _ _ (s5 _ _ e) (fun q => by rw [q, nlg] at e; cases e), hlg5, fun x hx' => ?_, ?_⟩
              · rcases List.mem_append.mp hx' with q | q
                · exact nlrs x q
                · rw [List.mem_singleton.mp q]
                  exact ⟨((s1.trans s2).trans s5).free nt, fun q => by rw [q, hlg] at nt; cases nt⟩
              · rw [step, ← List.append_assoc]
                exact (hL.exc hx fun r hr => (nlrs r hr).2).snoc ht
            · rw [if_neg hf, List.append_nil] at step
              refine ⟨lrs, _, rfl, s5, hlg, nlrs, ?_⟩
              rw [step]; exact hL
        · rintro σ H4 ⟨lrs, v6, rfl, s5, hlg, nlrs, hL⟩
          rw [List.length_map, List.take_length] at hL
          rw [flat_snoc, epre]
          exact ⟨lrs, _, _, rfl, s5, hlg, nlrs, hL⟩
      · rintro σ H3 ⟨lrs, v5, v6, rfl, s4, hlg, nlrs, hL⟩
        have hlen : brs.length = ((ps.take i).foldl level [[]]).length := hB.length
        rw [List.length_map, hlen, List.take_length] at hL
        refine ⟨_, rfl, lg, lrs, _, _, _, _, _, rfl, (s1.trans s2).trans s4, nlgH, hlg, fun x hx => (nlrs x hx).1, ?_⟩
        rw [take_snoc ew, foldl_snoc]
        exact hL
    · rintro σ H1 ⟨fl, brs, v2, v3, v4, v5, v6, rfl, s1, nfl, hfl, nbrs, hB⟩
      rw [List.length_map, hn, List.take_length] at hB
      exact ⟨_, rfl, k H1 fl brs s1 nfl hfl nbrs hB⟩

/-! ### the popular ones -/
def tt_popular_assignments : TT := tB (tCall spAgrees [] E0 (tCons (tVar 1) (tCons (tVar 2) (tCons (tVar 3) tNil))))
def te_popular_assignments : TE := tVar 3
def spPopular : Sp := fun vs H Q _ => ∃ (p : Addr) (ps : List (List Int)), vs = [.ref p] ∧ LL H p ps ∧ Small ps ∧ NewLL H (popular ps) Q
theorem allAsg_mem {ps : List (List Int)} {b : List Int} (h : b ∈ allAsg ps) : b.length = ps.length := by
  have := levels_mem ps [[]] 0 (fun b hb => by rw [List.mem_singleton.mp hb]; rfl) b h
  omega
theorem ok_popular_assignments {f : Addr} {fd : FuncData} (F : Fun K "popular_assignments" "popular_assignments" s_popular_assignments f fd) (T : Tx mg) (D_first_choices : Dn P w K mg base "first_choices" 1 ["preferences"] spFirsts)
    (D_second_choices : Dn P w K mg base "second_choices" 2 ["preferences"] spSeconds) (D_agrees : Dn P w K mg base "agrees" 1 ["firsts", "seconds", "assignment"] spAgrees) (D_all_assignments : Dn P w K mg base "all_assignments" 1 ["preferences"] spAll) :
    FnOk P w K mg base CX0 3 f fd ["preferences"] spPopular := by
  refine F.ok sc_popular_assignments (fun vs H Q E h => ?_) (fun cdv A outer s H vs Q E hr h => ?_)
  · obtain ⟨p, ps, rfl, _⟩ := h
    rfl
  · obtain ⟨p, ps, rfl, hp, S, k⟩ := h
    refine ⟨_, (pss_cons (ps_set (i := 1) sc_popular_assignments.nd rfl (Or.inr rfl) (pe_fn D_first_choices (hr.mono (by decide)) (pa_cons (pv 0) pa_nil)))
      (pss_cons (ps_set (i := 2) sc_popular_assignments.nd rfl (Or.inr rfl) (pe_fn D_second_choices (hr.mono (by decide)) (pa_cons (pv 0) pa_nil)))
      (pss_one (ps_ret (pe_lc (own := [("assignment", 3)]) (g := (gName 3)) (tt := tt_popular_assignments) (te := te_popular_assignments) rfl sc_popular_assignments.nd (pi_list (pe_fn D_all_assignments (hr.mono (by decide)) (pa_cons (pv 0) pa_nil))) (blkOk_by (own := [("assignment", 3)]) (N := ["preferences", "firsts", "seconds", "assignment"]) (sc := defScope s_popular_assignments) (by decide +kernel)) (fun _ _ _ _ _ => (pg_name (i := 3) sc_popular_assignments.nd rfl (Or.inl rfl))) (fun _ _ _ _ _ => (pts_one (pt_val (pe_fn D_agrees (hr.mono (by decide)) (pa_cons (pv 1) (pa_cons (pv 2) (pa_cons (pv 3) pa_nil))))))) (fun _ _ _ _ _ => (pv 3))))))), ?_⟩
    have hl : ps.length ≤ 1000 := Nat.le_trans S.n (by decide)
    have hl2 : ∀ x ∈ ps, x.length ≤ 1000 := fun x hx => Nat.le_trans (S.m x hx) (by decide)
    refine ⟨_, rfl, p, ps, rfl, hp, hl, fun H1 q1 s1 nq1 hq1 => ?_⟩
    refine ⟨_, rfl, p, ps, rfl, hp.same s1, hl, hl2, fun H2 q2 s2 nq2 hq2 => ?_⟩
    refine ⟨_, rfl, p, ps, rfl, (hp.same s1).same s2, S, fun H3 q3 rs s3 nq3 hq3 nrs hR => ?_⟩
    have hn := hR.length
    refine ⟨q3, rfl, ⟨_, SqL.of hq3⟩, fun D nD => lc_list (K := K) (a := q3) (xs := rs.map V.ref) (fun i H' => Same H3 H' ∧ ∃ krs : List Addr, H' D = some (.lst (krs.map V.ref)) ∧ (∀ r ∈ krs, H2 r = none) ∧ krs.length ≤ i ∧ Rows H3 krs (((allAsg ps).take i).filter (agree (firstsOf ps) (secondsOf ps))))
      ⟨Same.up0 nD, [], upd_same, fun r hr => absurd hr List.not_mem_nil, Nat.le_refl _, .nil⟩ (fun i H' _ ⟨s5, _⟩ => SqL.of (s5 _ _ hq3)) ?_ ?_⟩
    · rintro i v H' hi ⟨s5, krs, hD, nk, lk, hK⟩
      obtain ⟨r, er, rfl⟩ := map_get? hi
      obtain ⟨b, eb, hb⟩ := hR.get er
      have lb := allAsg_mem (List.mem_of_getElem? eb)
      refine ⟨rfl, _, rfl, _, rfl, _, rfl, q1, q2, r, _, _, b, rfl, ((hq1.same s2).same s3).same s5, (hq2.same s3).same s5, hb.same s5, by rw [firsts_len, lb], by rw [seconds_len, lb], fun H4 s6 => ⟨_, rfl, ?_⟩⟩
      have step : ((allAsg ps).take (i + 1)).filter (agree (firstsOf ps) (secondsOf ps)) = ((allAsg ps).take i).filter (agree (firstsOf ps) (secondsOf ps)) ++ if agree (firstsOf ps) (secondsOf ps) b = true then [b] else [] := by
        rw [take_snoc eb, List.filter_append, List.filter_cons]
        rfl
      have hil : i < (allAsg ps).length := lt_of_get eb
      have := allAsg_le S
      refine ite2 (fun c => ?_) fun c => ?_
      · rw [if_pos c] at step
        refine ⟨_, rfl, _, s6 _ _ hD, ?_, (s5.trans s6).set nD, krs ++ [r], ?_, fun x hx => ?_, by rw [List.length_append]; simp; omega, ?_⟩
        · rw [List.length_map]; exact line_lt (by omega)
        · rw [upd_same, List.map_append]; rfl
        · rcases List.mem_append.mp hx with z | z
          · exact nk x z
          · rw [List.mem_singleton.mp z]
            exact nrs r (List.mem_of_getElem? er)
        · rw [step]; exact hK.snoc hb
      · rw [if_neg c, List.append_nil] at step
        refine ⟨s5.trans s6, krs, s6 _ _ hD, nk, by omega, ?_⟩
        rw [step]; exact hK
    · rintro H' ⟨s5, krs, hD, nk, lk, hK⟩
      rw [List.length_map, hn, List.take_length] at hK
      have s12 := s1.trans s2
      exact k H' D krs ((s12.trans s3).trans s5) ((s12.trans s3).free nD) hD (fun r hr => s12.free (nk r hr)) (hK.same s5)
end Hl
/-! # Q5. The lottery's challenger; the unpopularity factor -/
namespace Hl
open PySem PySem.Spec PyProof.Rows L2
variable {P : Program} {w : World} {K : PySem.W.Frag} {mg : Str → Option Value} {base : Heap}
/-- the lottery's entries, by their addresses and those of their lists -/
inductive Ents (H : Hp) : List Addr → List Addr → List (Int × List Int) → Prop
  | nil : Ents H [] [] []
  | cons {e q : Addr} {z : Int} {a : List Int} {es qs : List Addr} {l : List (Int × List Int)} : H e = some (.tup [.int z, .ref q]) → IL H q a → Ents H es qs l → Ents H (e :: es) (q :: qs) ((z, a) :: l)
theorem Ents.same {H H' : Hp} (s : Same H H') : ∀ {es qs : List Addr} {l : List (Int × List Int)}, Ents H es qs l → Ents H' es qs l
  | _, _, _, .nil => .nil
  | _, _, _, .cons a b t => .cons (s _ _ a) (b.same s) (t.same s)
theorem Ents.length {H : Hp} : ∀ {es qs : List Addr} {l : List (Int × List Int)}, Ents H es qs l → es.length = l.length
  | _, _, _, .nil => rfl
  | _, _, _, .cons _ _ t => by rw [List.length_cons, List.length_cons, t.length]
theorem Ents.get {H : Hp} : ∀ {es qs : List Addr} {l : List (Int × List Int)} {i : Nat} {e : Addr}, Ents H es qs l → es[i]? = some e → ∃ z a q, l[i]? = some (z, a) ∧ H e = some (.tup [.int z, .ref q]) ∧ IL H q a
  | _, _, _, _, _, .nil, h => by simp at h
  | _, _, _, 0, _, .cons a b t, h => by
    have h' := Option.some.inj h
    subst h'
    exact ⟨_, _, _, rfl, a, b⟩
  | _, _, _, i + 1, _, .cons a b t, h => t.get (i := i) h
def LotAt (H : Hp) (l : Addr) (lot : List (Int × List Int)) : Prop := ∃ es qs : List Addr, H l = some (.lst (es.map V.ref)) ∧ Ents H es qs lot
theorem LotAt.same {H H' : Hp} {l : Addr} {lot : List (Int × List Int)} (s : Same H H') (h : LotAt H l lot) : LotAt H' l lot := by
  obtain ⟨es, qs, a, b⟩ := h
  exact ⟨es, qs, s _ _ a, b.same s⟩
/-- each entry's weight is small -/
def LotOk (lot : List (Int × List Int)) : Prop := lot.length ≤ 12 ∧ ∀ x ∈ lot, 1 ≤ x.1 ∧ x.1 ≤ 99

/-! ### weighted_votes -/
def te_weighted_votes (K : PySem.W.Frag) : TE := tOp rMul (tVar 5) (tCall spVote [] E0 (tCons (tVar 0) (tCons (tVar 4) (tCons (tOp (rIxL K) (tVar 6) (tVar 1)) tNil))))
def spWv : Sp := fun vs H Q _ => ∃ (r l : Addr) (i : Nat) (hs : List Int) (lot : List (Int × List Int)), vs = [.ref r, .int (i : Nat), .ref l] ∧ IL H r hs ∧ hs.length ≤ 5 ∧ LotAt H l lot ∧ LotOk lot ∧ (∀ x ∈ lot, i < x.2.length ∧ (x.2.getD i 0 = -1 ∨ x.2.getD i 0 ∈ hs)) ∧
  ∀ (H' : Hp) (d : Addr) (kvs : List (Key × V)), Same H H' → H d = none → H' d = some (.dK kvs) → (∀ h : Int, h = -1 ∨ h ∈ hs → valV kvs (Sum.inl h) = some (.int (wv hs i lot h))) → Q (.ref d) H'
theorem ok_weighted_votes {f : Addr} {fd : FuncData} (F : Fun K "weighted_votes" "weighted_votes" s_weighted_votes f fd) (T : Tx mg) (D_vote : Dn P w K mg base "vote" 2 ["houses", "house", "other"] spVote) : FnOk P w K mg base CX0 3 f fd ["houses", "i", "lottery"] spWv := by
  refine F.ok sc_weighted_votes (fun vs H Q E h => ?_) (fun cdv A outer s H vs Q E hr h => ?_)
  · obtain ⟨r, l, i, hs, lot, rfl, _⟩ := h
    rfl
  · obtain ⟨r, l, i, hs, lot, rfl, hh, hl5, ⟨es, qs, hl, hE⟩, hlo, hin, k⟩ := h
    have hn := hE.length
    refine ⟨_, (pss_cons (ps_set (i := 3) sc_weighted_votes.nd rfl (Or.inl rfl) pe_dnewK)
      (pss_cons (ps_for PassesOwn.never rfl (pi_list (pe_op op_cat (pv 0) (pe_lst (pa_cons (pe_globI T.g_NO_HOUSE) pa_nil)))) (pg_name (i := 4) sc_weighted_votes.nd rfl (Or.inr rfl))
      (pss_one (ps_dput (hu_of hr) (pv 3) (pv 4) (pe_callB (cr_sum rfl) (by rfl) T.b_sum (by decide +kernel) (pa_cons (pe_lc (own := [("weight", 5), ("entry", 6)]) (g := (gTup K 2 (gCons (gName 5) (gCons (gName 6) gNil)))) (tt := tYes) (te := (te_weighted_votes K)) rfl sc_weighted_votes.nd (pi_list (pv 2)) (blkOk_by (own := [("weight", 5), ("entry", 6)]) (N := ["houses", "i", "lottery", "sums", "house", "weight", "entry"]) (sc := defScope s_weighted_votes) (by decide +kernel)) (fun _ _ _ _ _ => (pg_tup rfl (pgs_cons (pg_name (i := 5) sc_weighted_votes.nd rfl (Or.inl rfl)) (pgs_cons (pg_name (i := 6) sc_weighted_votes.nd rfl (Or.inl rfl)) pgs_nil)))) (fun _ _ _ _ _ => pts_nil) (fun _ _ _ _ _ => (pe_op op_mul (pv 5) (pe_fn D_vote (hr.mono (by decide)) (pa_cons (pv 0) (pa_cons (pv 4) (pa_cons (pe_ix ix_list (pv 6) (pv 1) (fun _ _ => rfl)) pa_nil))))))) pa_nil)) rfl)))
      (pss_one (ps_ret (pv 3))))), ?_⟩
    -- sums = {}
    refine fun d nd => ?_
    have s1 : Same H (upd H d (.dK [])) := Same.up0 nd
    -- houses + [NO_HOUSE]
    refine ⟨_, rfl, (by show 1 ≤ sizeLine; decide), fun t1 nt1 => ⟨r, t1, _, _, rfl, rfl, (Same.up0 nt1) _ _ (s1 _ _ hh), upd_same, ?_, fun it nit => ?_⟩⟩
    · rw [List.length_map]
      exact line_le (by simp; omega)
    have s2 : Same (upd H d (.dK [])) (upd (upd (upd H d (.dK [])) t1 (.lst [.int (-1)])) it (.lst (hs.map V.int ++ [.int (-1)]))) := (Same.up0 nt1).up nit
    have hit : IL (upd (upd (upd H d (.dK [])) t1 (.lst [.int (-1)])) it (.lst (hs.map V.int ++ [.int (-1)]))) it (hs ++ [-1]) := by
      show upd _ it _ it = _
      rw [upd_same, List.map_append]; rfl
    have hd : (upd (upd (upd H d (.dK [])) t1 (.lst [.int (-1)])) it (.lst (hs.map V.int ++ [.int (-1)]))) d = some (.dK []) := s2 _ _ upd_same
    have s12 := s1.trans s2
    generalize (upd (upd (upd H d (.dK [])) t1 (.lst [.int (-1)])) it (.lst (hs.map V.int ++ [.int (-1)]))) = H1 at s2 hit hd s12
    have nitd : it ≠ d := ne_of hit hd (by intro z; cases z)
    refine ⟨it, rfl, ⟨_, hit.sq⟩, for_list (K := K) (a := it) (xs := (hs ++ [-1]).map V.int) (fun j σ H' => ∃ (v4 v5 v6 : Option V) (kvs : List (Key × V)), σ = [some (.ref r), some (.int (i : Nat)), some (.ref l), some (.ref d), v4, v5, v6] ∧ Same H H' ∧ IL H' it (hs ++ [-1]) ∧ H' d = some (.dK kvs) ∧ kvs.length ≤ j ∧
        ∀ h ∈ (hs ++ [-1]).take j, valV kvs (Sum.inl h) = some (.int (wv hs i lot h)))
      ⟨_, _, _, [], rfl, s12, hit, hd, Nat.le_refl _, fun h hm => absurd hm List.not_mem_nil⟩ (fun j σ H' _ ⟨_, _, _, _, _, _, h, _⟩ => h.sq) ?_ ?_⟩
    · rintro j v σ H2 hj ⟨v4, v5, v6, kvs, rfl, s5, hit2, hd2, hkl, hk⟩
      obtain ⟨z, ez, rfl⟩ := map_get? hj
      have hz : z = -1 ∨ z ∈ hs := by
        have := List.mem_of_getElem? ez
        rcases List.mem_append.mp this with q | q
        · exact .inr q
        · exact .inl (List.mem_singleton.mp q)
      have hl2 : H2 l = some (.lst (es.map V.ref)) := s5 _ _ hl
      -- sum([weight * vote(houses, house, entry[i]) for weight, entry in lottery])
      refine ⟨_, rfl, l, rfl, ⟨_, SqL.of hl2⟩, fun D nD => lc_list (K := K) (a := l) (xs := es.map V.ref) (fun m H' => Same H2 H' ∧ IL H' D ((lot.take m).map fun e => e.1 * voteOf hs z (e.2.getD i 0)))
        ⟨Same.up0 nD, upd_same⟩ (fun m H' _ ⟨s6, _⟩ => SqL.of (s6 _ _ hl2)) ?_ ?_⟩
      · rintro m v H3 hm ⟨s6, hD⟩
        obtain ⟨e, ee, rfl⟩ := map_get? hm
        obtain ⟨x, a, q, ea, he, hq⟩ := hE.get ee
        have s56 := s5.trans s6
        obtain ⟨c1, c2⟩ := hin _ (List.mem_of_getElem? ea)
        obtain ⟨w1, w2⟩ := hlo.2 _ (List.mem_of_getElem? ea)
        dsimp only at c1 c2 w1 w2
        refine ⟨e, _, rfl, SqT.of (s56 _ _ he), rfl, _, _, rfl, _, _, rfl, rfl, rfl, yes_ (iteT ?_)⟩
        refine ⟨_, rfl, _, rfl, _, rfl, _, rfl, _, rfl, q, _, _, _, rfl, rfl, (hq.same s56).sq, ix_int c1, r, hs, z, _, rfl, hh.same s56, hz, c2, _, _, rfl, rfl, .inl ⟨by omega, by omega⟩, _, hD, ?_, s6.set nD, ?_⟩
        · rw [List.length_map, List.length_map, List.length_take]
          have := hlo.1
          exact line_lt (by omega)
        · show upd H3 D _ D = _
          rw [upd_same, take_snoc ea, List.map_append, List.map_append]
          rfl
      · rintro H3 ⟨s6, hD⟩
        rw [List.length_map, hn, List.take_length] at hD
        refine ⟨D, _, rfl, hD.sq, ?_⟩
        have hd3 : H3 d = some (.dK kvs) := s6 _ _ hd2
        have hjl : j < (hs ++ [-1]).length := lt_of_get ez
        rw [List.length_append] at hjl
        have hkl' : kvs.length < sizeLine := line_lt (by simp at hjl; omega)
        refine ⟨_, rfl, _, rfl, d, _, rfl, DPut.k (k := Sum.inl z) hd3 hkl', ?_⟩
        refine ⟨_, _, _, _, rfl, (s5.trans s6).set nd, ?_, upd_same, ?_, fun h hm => ?_⟩
        · show upd H3 d _ it = _
          rw [upd_ne nitd]; exact hit2.same s6
        · have := length_putK kvs (Sum.inl z : Key) (V.int (wv hs i lot z))
          show (putK kvs (Sum.inl z : Key) (V.int (wv hs i lot z))).length ≤ j + 1
          omega
        · show valV (putK kvs (Sum.inl z : Key) (V.int (wv hs i lot z))) (Sum.inl h) = _
          rw [valV_put]
          by_cases c : h = z
          · rw [if_pos (by rw [c]), c]
          · rw [if_neg (fun q => c (by cases q; rfl))]
            rw [take_snoc ez] at hm
            rcases List.mem_append.mp hm with q | q
            · exact hk h q
            · exact absurd (List.mem_singleton.mp q) c
    · rintro σ H2 ⟨v4, v5, v6, kvs, rfl, s5, hit2, hd2, hkl, hk⟩
      rw [List.length_map, List.take_length] at hk
      refine ⟨_, rfl, k H2 d kvs s5 nd hd2 fun h hm => hk h ?_⟩
      rcases hm with q | q
      · rw [q]; exact List.mem_append.mpr (.inr (List.mem_singleton.mpr rfl))
      · exact List.mem_append.mpr (.inl q)

/-! ### weighted_margin -/
def te_weighted_margin (K : PySem.W.Frag) : TE := tDGet (tOp (rIxL K) (tVar 0) (tVar 2)) (tVar 3)
/-- the dicts, one a place, and what they tell of a house -/
def SumsAt (H : Hp) (D : Addr) (n : Nat) (ok : Nat → Int → Prop) (g : Nat → Int → Int) : Prop := ∃ ds : List Addr, H D = some (.lst (ds.map V.ref)) ∧ ds.length = n ∧
  ∀ i < n, ∃ d kvs, ds[i]? = some d ∧ H d = some (.dK kvs) ∧ ∀ h, ok i h → valV kvs (Sum.inl h) = some (.int (g i h))
theorem SumsAt.same {H H' : Hp} {D : Addr} {n : Nat} {ok : Nat → Int → Prop} {g : Nat → Int → Int} (s : Same H H') (h : SumsAt H D n ok g) : SumsAt H' D n ok g := by
  obtain ⟨ds, h1, h2, h3⟩ := h
  refine ⟨ds, s _ _ h1, h2, fun i hi => ?_⟩
  obtain ⟨d, kvs, e1, e2, e3⟩ := h3 i hi
  exact ⟨d, kvs, e1, s _ _ e2, e3⟩
def spWm : Sp := fun vs H Q _ => ∃ (D a : Addr) (ns : List Int) (n : Nat) (ok : Nat → Int → Prop) (g : Nat → Int → Int), vs = [.ref D, .ref a] ∧ SumsAt H D n ok g ∧ IL H a ns ∧ ns.length = n ∧ n ≤ 1000 ∧ (∀ i < n, ok i (ns.getD i 0)) ∧
  ∀ H' : Hp, Same H H' → Q (.int ((List.range n).map fun i => g i (ns.getD i 0)).sum) H'
theorem ok_weighted_margin {f : Addr} {fd : FuncData} (F : Fun K "weighted_margin" "weighted_margin" s_weighted_margin f fd) (T : Tx mg) : FnOk P w K mg base CX0 1 f fd ["sums", "assignment"] spWm := by
  refine F.ok sc_weighted_margin (fun vs H Q E h => ?_) (fun cdv A outer s H vs Q E hr h => ?_)
  · obtain ⟨D, a, ns, n, ok, g, rfl, _⟩ := h
    rfl
  · obtain ⟨S, a, ns, n, ok, g, rfl, ⟨ds, hS, hlS, hds⟩, ha, hl, hn, hok, k⟩ := h
    refine ⟨_, (pss_one (ps_ret (pe_callB (cr_sum rfl) (by rfl) T.b_sum (by decide +kernel) (pa_cons (pe_lc (own := [("i", 2), ("house", 3)]) (g := (gTup K 2 (gCons (gName 2) (gCons (gName 3) gNil)))) (tt := tYes) (te := (te_weighted_margin K)) rfl sc_weighted_margin.nd (pi_enum (by rfl) T.b_enumerate (pa_cons (pv 1) pa_nil)) (blkOk_by (own := [("i", 2), ("house", 3)]) (N := ["sums", "assignment", "i", "house"]) (sc := defScope s_weighted_margin) (by decide +kernel)) (fun _ _ _ _ _ => (pg_tup rfl (pgs_cons (pg_name (i := 2) sc_weighted_margin.nd rfl (Or.inl rfl)) (pgs_cons (pg_name (i := 3) sc_weighted_margin.nd rfl (Or.inl rfl)) pgs_nil)))) (fun _ _ _ _ _ => pts_nil) (fun _ _ _ _ _ => (pe_dget (hu_of hr) (pe_ix ix_list (pv 0) (pv 2) (fun _ _ => rfl)) (pv 3) (fun _ _ => rfl)))) pa_nil)))), ?_⟩
    refine ⟨_, rfl, a, _, rfl, ha.sq, fun D nD => lc_it (walk_enum (K := K) (a := a) (xs := ns.map V.int)) (fun i H' => Same H H' ∧ IL H' D ((List.range i).map fun i => g i (ns.getD i 0))) ⟨Same.up0 nD, upd_same⟩ (fun i H' _ ⟨s5, _⟩ => (ha.same s5).sq) ?_ ?_⟩
    · rintro i v H1 H2 hi ⟨s5, hD⟩ ⟨Tt, vi, vr, rfl, hT, rfl, e1, e2⟩
      cases e1
      obtain ⟨z, ez, rfl⟩ := map_get? e2
      rw [List.length_map, hl] at hi
      have s6 : Same H (upd H1 Tt (.tup [.int (i : Nat), .int z])) := s5.up hT
      have gz : ns.getD i 0 = z := getD_of ez 0
      obtain ⟨d, kvs, ed, hd, hv⟩ := hds i hi
      refine ⟨Tt, _, rfl, SqT.of upd_same, rfl, _, _, rfl, _, _, rfl, rfl, rfl, yes_ (iteT ?_)⟩
      refine ⟨_, rfl, _, rfl, S, _, _, _, rfl, rfl, SqL.of (s6 _ _ hS), ix_ref ed, _, rfl, d, V.int (g i z), rfl, ?_, ?_⟩
      · have := DGet.k (k := Sum.inl z) (s6 _ _ hd)
        rw [hv z (by rw [← gz]; exact hok i hi)] at this
        exact this
      · have hD2 : (upd H1 Tt (.tup [.int (i : Nat), .int z])) D = _ := (Same.up0 hT) _ _ hD
        refine ⟨_, hD2, ?_, s6.set nD, ?_⟩
        · rw [List.length_map, List.length_map, List.length_range]
          exact line_lt (by omega)
        · show upd _ D _ D = _
          rw [upd_same, List.range_succ, List.map_append, List.map_append, ← gz]
          rfl
    · rintro H1 ⟨s5, hD⟩
      rw [List.length_map, hl] at hD
      exact ⟨D, _, rfl, hD.sq, k H1 s5⟩
end Hl
/-! # Q6. The challenger; the unpopularity factor -/
namespace Hl
open PySem PySem.Spec PyProof.Rows L2
variable {P : Program} {w : World} {K : PySem.W.Frag} {mg : Str → Option Value} {base : Heap}
def te_find_challenger1 : TE := tCall spWv [] E0 (tCons (tVar 4) (tCons (tVar 3) (tCons (tVar 1) tNil)))
def te_find_challenger : TE := tCall spWm [] E0 (tCons (tVar 2) (tCons (tVar 7) tNil))
/-- what the market's lists keep -/
structure Fine (ps : List (List Int)) : Prop where
  small : Small ps
  ok : ∀ b ∈ allAsg ps, AOk ps b
  some : allAsg ps ≠ []
def spChal : Sp := fun vs H Q _ => ∃ (p l : Addr) (ps : List (List Int)) (lot : List (Int × List Int)), vs = [.ref p, .ref l] ∧ LL H p ps ∧ Fine ps ∧ LotAt H l lot ∧ LotOk lot ∧ (∀ x ∈ lot, AOk ps x.2) ∧
  ∀ (H' : Hp) (t c : Addr), Same H H' → H t = none → H c = none → H' t = some (.tup [.int (chal ps lot).1, .ref c]) → IL H' c (chal ps lot).2 → Q (.ref t) H'
theorem ok_find_challenger {f : Addr} {fd : FuncData} (F : Fun K "find_challenger" "find_challenger" s_find_challenger f fd) (T : Tx mg) (D_weighted_votes : Dn P w K mg base "weighted_votes" 3 ["houses", "i", "lottery"] spWv)
    (D_weighted_margin : Dn P w K mg base "weighted_margin" 1 ["sums", "assignment"] spWm) (D_all_assignments : Dn P w K mg base "all_assignments" 1 ["preferences"] spAll) : FnOk P w K mg base CX0 4 f fd ["preferences", "lottery"] spChal := by
  refine F.ok sc_find_challenger (fun vs H Q E h => ?_) (fun cdv A outer s H vs Q E hr h => ?_)
  · obtain ⟨p, l, ps, lot, rfl, _⟩ := h
    rfl
  · obtain ⟨p, l, ps, lot, rfl, ⟨rs, hp, hR⟩, Fi, hL, hlo, hal, k⟩ := h
    have hn := hR.length
    refine ⟨_, (pss_cons (ps_set (i := 2) sc_find_challenger.nd rfl (Or.inr rfl) (pe_lc (own := [("i", 3), ("houses", 4)]) (g := (gTup K 2 (gCons (gName 3) (gCons (gName 4) gNil)))) (tt := tYes) (te := te_find_challenger1) rfl sc_find_challenger.nd (pi_enum (by rfl) T.b_enumerate (pa_cons (pv 0) pa_nil)) (blkOk_by (own := [("i", 3), ("houses", 4)]) (N := ["preferences", "lottery", "sums", "i", "houses", "challengers", "margins", "challenger", "greatest"]) (sc := defScope s_find_challenger) (by decide +kernel)) (fun _ _ _ _ _ => (pg_tup rfl (pgs_cons (pg_name (i := 3) sc_find_challenger.nd rfl (Or.inl rfl)) (pgs_cons (pg_name (i := 4) sc_find_challenger.nd rfl (Or.inl rfl)) pgs_nil)))) (fun _ _ _ _ _ => pts_nil) (fun _ _ _ _ _ => (pe_fn D_weighted_votes (hr.mono (by decide)) (pa_cons (pv 4) (pa_cons (pv 3) (pa_cons (pv 1) pa_nil)))))))
      (pss_cons (ps_set (i := 5) sc_find_challenger.nd rfl (Or.inl rfl) (pe_fn D_all_assignments (hr.mono (by decide)) (pa_cons (pv 0) pa_nil)))
      (pss_cons (ps_setLc (i := 6) (own := [("challenger", 7)]) (g := (gName 7)) (tt := tYes) (te := te_find_challenger) rfl sc_find_challenger.nd rfl rfl (sw_true rfl rfl rfl (by decide +kernel)) (pi_list (pv 5)) (blkOk_by (own := [("challenger", 7)]) (N := ["preferences", "lottery", "sums", "i", "houses", "challengers", "margins", "challenger", "greatest"]) (sc := defScope s_find_challenger) (by decide +kernel)) (fun _ _ _ _ _ => (pg_name (i := 7) sc_find_challenger.nd rfl (Or.inl rfl))) (fun _ _ _ _ _ => pts_nil) (fun _ _ _ _ _ => (pe_fn D_weighted_margin (hr.mono (by decide)) (pa_cons (pv 2) (pa_cons (pv 7) pa_nil)))))
      (pss_cons (ps_set (i := 8) sc_find_challenger.nd rfl (Or.inl rfl) (pe_callB (cr_max rfl) (by rfl) T.b_max (by decide +kernel) (pa_cons (pv 6) pa_nil)))
      (pss_one (ps_ret (pe_tup (pa_cons (pv 8) (pa_cons (pe_ix ix_list (pv 5) (pe_bm PySem.F.plainAttrs_list PySem.F.slot_list_index PySem.F.type_list_index mt_index (pv 6) (pa_cons (pv 8) pa_nil)) (fun _ _ => rfl)) pa_nil))))))))), ?_⟩
    -- sums
    refine ⟨_, rfl, p, _, rfl, SqL.of hp, fun D nD => lc_it (walk_enum (K := K) (a := p) (xs := rs.map V.ref)) (fun i H' => Same H H' ∧ SumsAt H' D i (fun j h => h = -1 ∨ h ∈ ps.getD j []) (fun j h => wv (ps.getD j []) j lot h))
      ⟨Same.up0 nD, [], upd_same, rfl, fun i hi => absurd hi (Nat.not_lt_zero _)⟩ (fun i H' _ ⟨s5, _⟩ => SqL.of (s5 _ _ hp)) ?_ ?_⟩
    · rintro i v H1 H2 hi ⟨s5, ds, hD, hdl, hds⟩ ⟨Tt, vi, vr, rfl, hT, rfl, e1, e2⟩
      cases e1
      obtain ⟨r, er, rfl⟩ := map_get? e2
      obtain ⟨wi, ew, hw⟩ := hR.get er
      have gw : ps.getD i [] = wi := getD_of ew []
      have hil : i < ps.length := lt_of_get ew
      have st : Same H1 (upd H1 Tt (.tup [.int (i : Nat), .ref r])) := Same.up0 hT
      have hT2 : (upd H1 Tt (.tup [.int (i : Nat), .ref r])) Tt = _ := upd_same
      generalize (upd H1 Tt (.tup [.int (i : Nat), .ref r])) = H2 at st hT2 ⊢
      have s6 := s5.trans st
      refine ⟨Tt, _, rfl, SqT.of hT2, rfl, _, _, rfl, _, _, rfl, rfl, rfl, yes_ (iteT ?_)⟩
      refine ⟨_, rfl, _, rfl, _, rfl, r, l, i, wi, lot, rfl, hw.same s6, Fi.small.m wi (List.mem_of_getElem? ew), hL.same s6, hlo, fun x hx => ?_, fun H3 d kvs s7 nd hd hv => ?_⟩
      · obtain ⟨a1, a2⟩ := hal x hx
        have := a2 i hil
        rw [gw] at this
        exact ⟨by rw [a1]; exact hil, this⟩
      · have hD3 := s7 _ _ (st _ _ hD)
        have ndD : d ≠ D := ne_of hd hD3 (by intro z; cases z)
        refine ⟨_, hD3, ?_, (s6.trans s7).set nD, ds ++ [d], ?_, by rw [List.length_append, hdl]; rfl, fun j hj => ?_⟩
        · rw [List.length_map, hdl]
          have := Fi.small.n
          exact line_lt (by omega)
        · rw [upd_same, List.map_append]; rfl
        · by_cases c : j < i
          · obtain ⟨d', kvs', e1, e2, e3⟩ := hds j c
            have nd' : d' ≠ D := ne_of e2 hD (by intro z; cases z)
            exact ⟨d', kvs', by rw [List.getElem?_append_left (by rw [hdl]; exact c)]; exact e1, by rw [upd_ne nd']; exact s7 _ _ (st _ _ e2), e3⟩
          · have : j = i := by omega
            subst this
            refine ⟨d, kvs, by rw [← hdl]; simp, by rw [upd_ne ndD]; exact hd, fun h hh => ?_⟩
            dsimp only at hh ⊢
            rw [gw] at hh ⊢
            exact hv h hh
    · rintro H1 ⟨s5, hSums⟩
      rw [List.length_map, hn] at hSums
      -- challengers
      refine ⟨_, rfl, p, ps, rfl, ⟨rs, s5 _ _ hp, hR.same s5⟩, Fi.small, fun H4 q qrs s8 nq hq nqrs hQ => ?_⟩
      have hS4 := hSums.same s8
      have hqn := hQ.length
      -- margins
      refine ⟨_, rfl, q, rfl, ⟨_, SqL.of hq⟩, fun M nM => lc_list (K := K) (a := q) (xs := qrs.map V.ref) (fun i H' => Same H4 H' ∧ IL H' M (((allAsg ps).take i).map (wm ps lot))) ⟨Same.up0 nM, upd_same⟩ (fun i H' _ ⟨s9, _⟩ => SqL.of (s9 _ _ hq)) ?_ ?_⟩
      · rintro i v H5 hi ⟨s9, hM⟩
        obtain ⟨br, ebr, rfl⟩ := map_get? hi
        obtain ⟨b, eb, hb⟩ := hQ.get ebr
        have hbm := List.mem_of_getElem? eb
        obtain ⟨b1, b2⟩ := Fi.ok b hbm
        refine ⟨rfl, yes_ (iteT ?_)⟩
        refine ⟨_, rfl, _, rfl, D, br, b, ps.length, _, _, rfl, hS4.same s9, hb.same s9, b1, Nat.le_trans Fi.small.n (by decide), b2, fun H6 s10 => ⟨_, s10 _ _ hM, ?_, (s9.trans s10).set nM, ?_⟩⟩
        · rw [List.length_map, List.length_map, List.length_take]
          have := allAsg_le Fi.small
          exact line_lt (by omega)
        · show upd H6 M _ M = _
          rw [upd_same, take_snoc eb, List.map_append, List.map_append]
          unfold wm wmN
          rw [List.map_cons, b1]
          rfl
      · rintro H5 ⟨s9, hM⟩
        rw [List.length_map, hqn, List.take_length] at hM
        have hpos : 0 < ((allAsg ps).map (wm ps lot)).length := by
          rw [List.length_map]
          exact List.length_pos_iff.mpr Fi.some
        refine ⟨_, rfl, M, _, rfl, hM.sq, hpos, fun m hm hle => ?_⟩
        obtain ⟨i1, i2⟩ := idx_first hm
        generalize ((allAsg ps).map (wm ps lot)).idxOf m = j at i1 i2
        obtain ⟨c, ec, hc⟩ := map_get? i1
        obtain ⟨cr, ecr, hcr⟩ := hQ.get' ec
        have hch : chal ps lot = (m, c) := chal_of ⟨j, ec, hc.symm, fun n x hn hx => i2 n _ hn (by rw [List.getElem?_map, hx]; rfl), fun x hx => hle _ (List.mem_map.mpr ⟨x, hx, rfl⟩)⟩
        refine ⟨_, rfl, _, rfl, _, rfl, .inl ⟨rfl, _, hM.sq⟩, _, rfl, M, _, .int m, j, .int m, rfl, rfl, hM.sq, rfl, flat_ints _, ?_, ?_, fun n z hn e => ?_, q, _, _, _, rfl, rfl, SqL.of (s9 _ _ hq), ix_ref ecr, (by show 2 ≤ sizeLine; decide), fun t ht => ?_⟩
        · rw [List.getElem?_map, i1]; rfl
        · unfold eqV; simp
        · obtain ⟨y, ey, rfl⟩ := map_get? e
          have := i2 n y hn ey
          unfold eqV
          simpa using this
        · have s := ((s5.trans s8).trans s9).up ht (o := .tup [.int m, .ref cr])
          refine k _ t cr s (((s5.trans s8).trans s9).free ht) (s5.free (nqrs cr (List.mem_of_getElem? ecr))) ?_ ?_
          · rw [upd_same, hch]
          · rw [hch]
            exact (Same.up0 ht) _ _ (hcr.same s9)

/-! ### find_factor -/
def spFactor : Sp := fun vs H Q _ => ∃ (p a : Addr) (ps : List (List Int)) (x : List Int), vs = [.ref p, .ref a] ∧ LL H p ps ∧ Fine ps ∧ IL H a x ∧ AOk ps x ∧
  (factor ps x = none → ∀ H' : Hp, Same H H' → Q .non H') ∧ ∀ n d, factor ps x = some (n, d) → ∀ (H' : Hp) (t : Addr), Same H H' → H t = none → H' t = some (.tup [.int n, .int d]) → Q (.ref t) H'
theorem votesOf_le (ps : List (List Int)) (a b : List Int) : 0 ≤ votesOf ps a b ∧ votesOf ps a b ≤ ps.length := by
  unfold votesOf votesN
  have := List.length_filter_le (won ps a b) (List.range ps.length)
  rw [List.length_range] at this
  omega
theorem drop_of {α : Type} {l : List α} {i : Nat} {x : α} (h : l[i]? = some x) : l.drop i = x :: l.drop (i + 1) := by
  have hi := lt_of_get h
  rw [List.drop_eq_getElem_cons hi]
  rw [List.getElem?_eq_getElem hi] at h
  rw [Option.some.inj h]
theorem ok_find_factor {f : Addr} {fd : FuncData} (F : Fun K "find_factor" "find_factor" s_find_factor f fd) (T : Tx mg) (D_votes : Dn P w K mg base "votes" 3 ["preferences", "assignment", "other"] spVotes)
    (D_all_assignments : Dn P w K mg base "all_assignments" 1 ["preferences"] spAll) (D_lowest_terms : Dn P w K mg base "lowest_terms" 1 ["numerator", "denominator"] spLow) : FnOk P w K mg base CX0 4 f fd ["preferences", "assignment"] spFactor := by
  refine F.ok sc_find_factor (fun vs H Q E h => ?_) (fun cdv A outer s H vs Q E hr h => ?_)
  · obtain ⟨p, a, ps, x, rfl, _⟩ := h
    rfl
  · obtain ⟨p, a, ps, x, rfl, hp, Fi, ha, hx, kN, kS⟩ := h
    refine ⟨_, (pss_cons (ps_set (i := 2) sc_find_factor.nd rfl (Or.inl rfl) pe_int)
      (pss_cons (ps_set (i := 3) sc_find_factor.nd rfl (Or.inl rfl) pe_int)
      (pss_cons (ps_for PassesOwn.never rfl (pi_list (pe_fn D_all_assignments (hr.mono (by decide)) (pa_cons (pv 0) pa_nil))) (pg_name (i := 4) sc_find_factor.nd rfl (Or.inl rfl))
      (pss_cons (ps_set (i := 5) sc_find_factor.nd rfl (Or.inl rfl) (pe_fn D_votes (hr.mono (by decide)) (pa_cons (pv 0) (pa_cons (pv 4) (pa_cons (pv 1) pa_nil)))))
      (pss_cons (ps_set (i := 6) sc_find_factor.nd rfl (Or.inl rfl) (pe_fn D_votes (hr.mono (by decide)) (pa_cons (pv 0) (pa_cons (pv 1) (pa_cons (pv 4) pa_nil)))))
      (pss_cons (ps_if (PW.pt (pw_and (pt_cmpR op_gt (pv 5) pe_int (nomark _)) (pw_and1 (pt_cmpR op_eq (pv 6) pe_int (nomark _))))) (pss_one (ps_ret pe_non)) pss_nil)
      (pss_one (ps_if (pt_cmpR op_gt (pe_op op_mul (pv 5) (pv 3)) (pe_op op_mul (pv 2) (pv 6)) (nomark _)) (pss_cons (ps_set (i := 2) sc_find_factor.nd rfl (Or.inl rfl) (pv 5))
      (pss_one (ps_set (i := 3) sc_find_factor.nd rfl (Or.inl rfl) (pv 6)))) pss_nil))))))
      (pss_one (ps_ret (pe_fn D_lowest_terms (hr.mono (by decide)) (pa_cons (pv 2) (pa_cons (pv 3) pa_nil)))))))), ?_⟩
    have hn5 := Fi.small.n
    refine ⟨_, rfl, p, ps, rfl, hp, Fi.small, fun H1 q rs s1 nq hq nrs hR => ?_⟩
    have hqn := hR.length
    refine ⟨q, rfl, ⟨_, SqL.of hq⟩, for_list (K := K) (a := q) (xs := rs.map V.ref) (fun i σ H' => ∃ (n d : Int) (v4 v5 v6 : Option V), σ = [some (.ref p), some (.ref a), some (.int n), some (.int d), v4, v5, v6] ∧ Same H1 H' ∧ 0 ≤ n ∧ n ≤ 5 ∧ 0 < d ∧ d ≤ 5 ∧
        facGo (fun b => votesOf ps b x) (fun b => votesOf ps x b) 0 1 (allAsg ps) = facGo (fun b => votesOf ps b x) (fun b => votesOf ps x b) n d ((allAsg ps).drop i))
      ⟨0, 1, none, none, none, rfl, Same.refl H1, by omega, by omega, by omega, by omega, rfl⟩ (fun i σ H' _ ⟨_, _, _, _, _, _, s5, _⟩ => SqL.of (s5 _ _ hq)) ?_ ?_⟩
    · rintro i v σ H2 hi ⟨n, d, v4, v5, v6, rfl, s5, n0, n5, d0, d5, hg⟩
      obtain ⟨br, ebr, rfl⟩ := map_get? hi
      obtain ⟨b, eb, hb⟩ := hR.get ebr
      have hbo := Fi.ok b (List.mem_of_getElem? eb)
      have s15 := s1.trans s5
      rw [drop_of eb] at hg
      have vw := votesOf_le ps b x
      have vl := votesOf_le ps x b
      refine ⟨_, rfl, _, rfl, _, rfl, p, br, a, ps, b, x, rfl, hp.same s15, hb.same s5, ha.same s15, hbo, hx, fun H3 s6 => ?_⟩
      refine ⟨_, rfl, _, rfl, _, rfl, p, a, br, ps, x, b, rfl, (hp.same s15).same s6, (ha.same s15).same s6, (hb.same s5).same s6, hx, hbo, fun H4 s7 => ?_⟩
      have s57 := (s5.trans s6).trans s7
      have hg' : facGo (fun b => votesOf ps b x) (fun b => votesOf ps x b) 0 1 (allAsg ps) = if 0 < votesOf ps b x ∧ votesOf ps x b = 0 then none else
          if n * votesOf ps x b < votesOf ps b x * d then facGo (fun b => votesOf ps b x) (fun b => votesOf ps x b) (votesOf ps b x) (votesOf ps x b) ((allAsg ps).drop (i + 1)) else facGo (fun b => votesOf ps b x) (fun b => votesOf ps x b) n d ((allAsg ps).drop (i + 1)) := hg
      generalize votesOf ps b x = wn at *
      generalize votesOf ps x b = ls at *
      have tail : ¬ (0 < wn ∧ ls = 0) → tIfS (tTest (tOp (rI0 fun i j => .bl (decide (j < i))) (tOp rMul (tVar 5) (tVar 3)) (tOp rMul (tVar 2) (tVar 6)))) (tSeq (tAsg (tVar 5) (gName 2)) (tAsg (tVar 6) (gName 3))) tNext
          { nx := fun σ H' => ∃ (n d : Int) (v4 v5 v6 : Option V), σ = [some (.ref p), some (.ref a), some (.int n), some (.int d), v4, v5, v6] ∧ Same H1 H' ∧ 0 ≤ n ∧ n ≤ 5 ∧ 0 < d ∧ d ≤ 5 ∧
              facGo (fun b => votesOf ps b x) (fun b => votesOf ps x b) 0 1 (allAsg ps) = facGo (fun b => votesOf ps b x) (fun b => votesOf ps x b) n d ((allAsg ps).drop (i + 1)), rt := Q }
          [some (.ref p), some (.ref a), some (.int n), some (.int d), some (.ref br), some (.int wn), some (.int ls)] H4 := fun hc => by
        rw [if_neg hc] at hg'
        refine ⟨_, rfl, _, rfl, _, _, rfl, rfl, .inl ⟨by omega, by omega⟩, _, rfl, _, rfl, _, _, rfl, rfl, .inl ⟨by omega, by omega⟩, _, _, rfl, rfl, _, rfl, ?_⟩
        refine ite2 (fun c => ?_) fun c => ?_
        · have c : n * ls < wn * d := of_decide_eq_true c
          rw [if_pos c] at hg'
          have hls : 0 < ls := by
            rcases Int.lt_or_le 0 ls with z | z
            · exact z
            · have z0 : ls = 0 := by omega
              rw [z0, Int.mul_zero] at c
              have : 0 < wn := by
                rcases Int.lt_or_le 0 wn with y | y
                · exact y
                · have y0 : wn = 0 := by omega
                  rw [y0, Int.zero_mul] at c
                  omega
              exact absurd ⟨this, z0⟩ hc
          exact ⟨_, rfl, _, rfl, wn, ls, _, _, _, rfl, s57, by omega, by omega, hls, by omega, hg'⟩
        · have c : ¬ n * ls < wn * d := fun z => c (decide_eq_true z)
          rw [if_neg c] at hg'
          exact ⟨n, d, _, _, _, rfl, s57, n0, n5, d0, d5, hg'⟩
      refine ⟨_, rfl, _, _, rfl, rfl, _, rfl, ?_⟩
      refine ite2 (fun c => ?_) fun c => ?_
      · have c : 0 < wn := of_decide_eq_true c
        refine ⟨_, rfl, rfl, _, rfl, ?_⟩
        rw [dI]
        refine ite2 (fun c2 => ?_) fun c2 => ?_
        · have c2 : ls = 0 := of_decide_eq_true c2
          rw [if_pos ⟨c, c2⟩] at hg'
          refine kN ?_ H4 (s1.trans s57)
          unfold factor
          rw [hg']
        · exact tail fun z => c2 (decide_eq_true z.2)
      · exact iteF (tail fun z => c (decide_eq_true z.1))
    · rintro σ H2 ⟨n, d, v4, v5, v6, rfl, s5, n0, n5, d0, d5, hg⟩
      rw [List.length_map, hqn, List.drop_length] at hg
      have hf : factor ps x = some (low n d) := by
        unfold factor
        rw [hg]
        rfl
      refine ⟨_, rfl, _, rfl, n, d, rfl, d0, by omega, fun H3 t s6 nt ht => ?_⟩
      exact kS (low n d).1 (low n d).2 hf H3 t ((s1.trans s5).trans s6) ((s1.trans s5).free nt) ht
end Hl
/-! # R0. The market and the desk in the heap -/
namespace Hl
open PySem PySem.Spec PyProof.Rows L2
structure Ty (K : PySem.W.Frag) (mg : Str → Option Value) (CM CD : Addr) : Prop extends Tx mg where
  cl_M : Cls K CM
  cl_D : Cls K CD
  n_M_house_total : NoAttr K CM "house_total"
  n_M_preferences : NoAttr K CM "preferences"
  n_M_current : NoAttr K CM "current"
  n_M_lottery : NoAttr K CM "lottery"
  n_D_market : NoAttr K CD "market"
/-! ### what is changed, and what is not -/
def Keep (H H' : Hp) (S : Addr → Prop) : Prop := ∀ b o, H b = some o → ¬ S b → H' b = some o
theorem Keep.refl {H : Hp} {S : Addr → Prop} : Keep H H S := fun _ _ e _ => e
theorem Keep.of {H H' : Hp} {S : Addr → Prop} (s : Same H H') : Keep H H' S := fun b o e _ => s b o e
theorem Keep.new {H H' : Hp} {S : Addr → Prop} {p : Addr} {o : HO} (k : Keep H H' S) (n : H' p = none) : Keep H (upd H' p o) S := fun b q e hb => by
  have e' := k b q e hb
  rw [upd_ne (ne_of_none e' n)]; exact e'
theorem Keep.mut {H H' : Hp} {S : Addr → Prop} {p : Addr} {o : HO} (k : Keep H H' S) (n : S p) : Keep H (upd H' p o) S := fun b q e hb => by
  have hbp : b ≠ p := fun z => hb (by rw [z]; exact n)
  rw [upd_ne hbp]; exact k b q e hb
theorem Keep.then {H H1 H2 : Hp} {S : Addr → Prop} (k : Keep H H1 S) (s : Same H1 H2) : Keep H H2 S := fun b o e hb => s _ _ (k b o e hb)
theorem Keep.trans {H H1 H2 : Hp} {S : Addr → Prop} (k : Keep H H1 S) (l : Keep H1 H2 S) : Keep H H2 S := fun b o e hb => l b o (k b o e hb) hb
theorem Keep.mono {H H1 : Hp} {S S' : Addr → Prop} (k : Keep H H1 S) (h : ∀ x, S x → S' x) : Keep H H1 S' := fun b o e hb => k b o e fun z => hb (h b z)
theorem Keep.free {H H' : Hp} {S : Addr → Prop} {p : Addr} (k : Keep H H' S) (n : H' p = none) (hp : ¬ S p) : H p = none := by
  cases e : H p with
  | none => rfl
  | some o => rw [k p o e hp] at n; cases n
theorem Rows.keep {H H' : Hp} : ∀ {rs : List Addr} {ws : List (List Int)}, (∀ r ∈ rs, ∀ o, H r = some o → H' r = some o) → Rows H rs ws → Rows H' rs ws
  | _, _, _, .nil => .nil
  | _, _, h, .cons a t => .cons (h _ (List.mem_cons_self ..) _ a) (t.keep fun r hr => h r (List.mem_cons_of_mem _ hr))
theorem Ents.keep {H H' : Hp} : ∀ {es qs : List Addr} {l : List (Int × List Int)}, (∀ r ∈ es, ∀ o, H r = some o → H' r = some o) → (∀ r ∈ qs, ∀ o, H r = some o → H' r = some o) → Ents H es qs l → Ents H' es qs l
  | _, _, _, _, _, .nil => .nil
  | _, _, _, h, g, .cons a b t => .cons (h _ (List.mem_cons_self ..) _ a) (g _ (List.mem_cons_self ..) _ b) (t.keep (fun r hr => h r (List.mem_cons_of_mem _ hr)) fun r hr => g r (List.mem_cons_of_mem _ hr))
theorem Rows.at {H : Hp} : ∀ {rs : List Addr} {ws : List (List Int)}, Rows H rs ws → ∀ r ∈ rs, ∃ w : List Int, H r = some (.lst (w.map V.int))
  | _, _, .nil, r, h => by cases h
  | _, _, .cons a t, r, h => by
    rcases List.mem_cons.mp h with e | e
    · rw [e]; exact ⟨_, a⟩
    · exact t.at r e
theorem Ents.at {H : Hp} : ∀ {es qs : List Addr} {l : List (Int × List Int)}, Ents H es qs l → (∀ r ∈ es, ∃ t, H r = some (.tup t)) ∧ ∀ r ∈ qs, ∃ w : List Int, H r = some (.lst (w.map V.int))
  | _, _, _, .nil => ⟨fun r h => absurd h List.not_mem_nil, fun r h => absurd h List.not_mem_nil⟩
  | _, _, _, .cons a b t => by
    obtain ⟨t1, t2⟩ := t.at
    refine ⟨fun r h => ?_, fun r h => ?_⟩
    · rcases List.mem_cons.mp h with e | e
      · rw [e]; exact ⟨_, a⟩
      · exact t1 r e
    · rcases List.mem_cons.mp h with e | e
      · rw [e]; exact ⟨_, b⟩
      · exact t2 r e
/-! ### the market -/
def mF (tot : Int) (P c l : Addr) : List (Str × V) := [("house_total", .int tot), ("preferences", .ref P), ("current", .ref c), ("lottery", .ref l)]
theorem lk_here {k : Str} {v : V} {r : List (Str × V)} : List.lookup k ((k, v) :: r) = some v := by
  have e : (k == k) = true := beq_self_eq_true k
  simp only [List.lookup, e]
theorem lk_past {k g : Str} {v : V} {r : List (Str × V)} (h : (k == g) = false) : List.lookup k ((g, v) :: r) = List.lookup k r := by
  simp only [List.lookup, h]
theorem put_here {f : Str} {v x : V} {r : List (Str × V)} : putF f v ((f, x) :: r) = (f, v) :: r := if_pos rfl
theorem put_past {f g : Str} {v x : V} {r : List (Str × V)} (h : ¬ g = f) : putF f v ((g, x) :: r) = (g, x) :: putF f v r := if_neg h
theorem mF_t (tot : Int) (P c l : Addr) : (mF tot P c l).lookup ("house_total" : Str) = some (.int tot) := lk_here
theorem mF_p (tot : Int) (P c l : Addr) : (mF tot P c l).lookup ("preferences" : Str) = some (.ref P) := (lk_past (by decide +kernel)).trans lk_here
theorem mF_c (tot : Int) (P c l : Addr) : (mF tot P c l).lookup ("current" : Str) = some (.ref c) := (lk_past (by decide +kernel)).trans ((lk_past (by decide +kernel)).trans lk_here)
theorem mF_l (tot : Int) (P c l : Addr) : (mF tot P c l).lookup ("lottery" : Str) = some (.ref l) := (lk_past (by decide +kernel)).trans ((lk_past (by decide +kernel)).trans ((lk_past (by decide +kernel)).trans lk_here))
theorem mF_none {m : Str} {tot : Int} {P c l : Addr} (h1 : (m == "house_total") = false := by decide +kernel) (h2 : (m == "preferences") = false := by decide +kernel) (h3 : (m == "current") = false := by decide +kernel) (h4 : (m == "lottery") = false := by decide +kernel) :
    (mF tot P c l).lookup m = none := (lk_past h1).trans ((lk_past h2).trans ((lk_past h3).trans ((lk_past h4).trans rfl)))
theorem mF_putc (tot : Int) (P c l c' : Addr) : putF "current" (.ref c') (mF tot P c l) = mF tot P c' l := (put_past (by decide +kernel)).trans (congrArg _ ((put_past (by decide +kernel)).trans (congrArg _ put_here)))
theorem mF_putl (tot : Int) (P c l l' : Addr) : putF "lottery" (.ref l') (mF tot P c l) = mF tot P c l' := (put_past (by decide +kernel)).trans (congrArg _ ((put_past (by decide +kernel)).trans (congrArg _ ((put_past (by decide +kernel)).trans (congrArg _ put_here)))))
structure MkAt (C : Addr) (H : Hp) (a dx P c l : Addr) (rs es qs : List Addr) (s : M) : Prop where
  ins : H a = some (.ins C dx (mF s.tot P c l))
  prf : H P = some (.lst (rs.map V.ref))
  rows : Rows H rs s.ps
  cur : IL H c s.cur
  lst : H l = some (.lst (es.map V.ref))
  ents : Ents H es qs s.lot
  pc : P ≠ c
  pl : P ≠ l
  cl : c ≠ l
  rn : ∀ r ∈ rs, r ≠ P ∧ r ≠ c ∧ r ≠ l
  qn : ∀ r ∈ qs, r ≠ P ∧ r ≠ c ∧ r ≠ l
def owns (a P c l : Addr) (rs es qs : List Addr) : Addr → Prop := fun x => x = a ∨ x = P ∨ x = c ∨ x = l ∨ x ∈ rs ∨ x ∈ es ∨ x ∈ qs
section
variable {C : Addr} {H H' : Hp} {a dx P c l : Addr} {rs es qs : List Addr} {s : M}
theorem MkAt.same (h : MkAt C H a dx P c l rs es qs s) (k : Same H H') : MkAt C H' a dx P c l rs es qs s :=
  ⟨k _ _ h.ins, k _ _ h.prf, h.rows.same k, h.cur.same k, k _ _ h.lst, h.ents.same k, h.pc, h.pl, h.cl, h.rn, h.qn⟩
theorem MkAt.keep {S : Addr → Prop} (h : MkAt C H a dx P c l rs es qs s) (k : Keep H H' S) (hs : ∀ x, owns a P c l rs es qs x → ¬ S x) : MkAt C H' a dx P c l rs es qs s :=
  ⟨k _ _ h.ins (hs _ (.inl rfl)), k _ _ h.prf (hs _ (.inr (.inl rfl))), h.rows.keep (fun r hr o e => k _ _ e (hs _ (.inr (.inr (.inr (.inr (.inl hr))))))), k _ _ h.cur (hs _ (.inr (.inr (.inl rfl)))), k _ _ h.lst (hs _ (.inr (.inr (.inr (.inl rfl))))),
    h.ents.keep (fun r hr o e => k _ _ e (hs _ (.inr (.inr (.inr (.inr (.inr (.inl hr)))))))) (fun r hr o e => k _ _ e (hs _ (.inr (.inr (.inr (.inr (.inr (.inr hr)))))))), h.pc, h.pl, h.cl, h.rn, h.qn⟩
theorem MkAt.ll (h : MkAt C H a dx P c l rs es qs s) : LL H P s.ps := ⟨rs, h.prf, h.rows⟩
theorem MkAt.la (h : MkAt C H a dx P c l rs es qs s) : LotAt H l s.lot := ⟨es, qs, h.lst, h.ents⟩
theorem MkAt.ap (h : MkAt C H a dx P c l rs es qs s) : a ≠ P := ne_of h.ins h.prf (by intro z; cases z)
theorem MkAt.ac (h : MkAt C H a dx P c l rs es qs s) : a ≠ c := ne_of h.ins h.cur (by intro z; cases z)
theorem MkAt.al (h : MkAt C H a dx P c l rs es qs s) : a ≠ l := ne_of h.ins h.lst (by intro z; cases z)
theorem MkAt.ar (h : MkAt C H a dx P c l rs es qs s) : ∀ r ∈ rs, r ≠ a := fun r hr => by
  obtain ⟨w, e⟩ := h.rows.at r hr
  exact ne_of e h.ins (by intro z; cases z)
theorem MkAt.aq (h : MkAt C H a dx P c l rs es qs s) : ∀ r ∈ qs, r ≠ a := fun r hr => by
  obtain ⟨w, e⟩ := h.ents.at.2 r hr
  exact ne_of e h.ins (by intro z; cases z)
theorem MkAt.ae (h : MkAt C H a dx P c l rs es qs s) : ∀ r ∈ es, r ≠ a ∧ r ≠ P ∧ r ≠ c ∧ r ≠ l := fun r hr => by
  obtain ⟨w, e⟩ := h.ents.at.1 r hr
  exact ⟨ne_of e h.ins (by intro z; cases z), ne_of e h.prf (by intro z; cases z), ne_of e h.cur (by intro z; cases z), ne_of e h.lst (by intro z; cases z)⟩
/-- all that it owns stands -/
theorem MkAt.has (h : MkAt C H a dx P c l rs es qs s) {x : Addr} (o : owns a P c l rs es qs x) : H x ≠ none := by
  rcases o with e | e | e | e | e | e | e
  · rw [e, h.ins]; simp
  · rw [e, h.prf]; simp
  · rw [e, h.cur]; simp
  · rw [e, h.lst]; simp
  · obtain ⟨w, e'⟩ := h.rows.at x e
    rw [e']; simp
  · obtain ⟨w, e'⟩ := h.ents.at.1 x e
    rw [e']; simp
  · obtain ⟨w, e'⟩ := h.ents.at.2 x e
    rw [e']; simp
variable {K : PySem.W.Frag} {mg : Str → Option Value} {CD : Addr} {σ : L2.St} {Q : V → Hp → Prop}
theorem rd_t (T : Ty K mg C CD) (h : MkAt C H a dx P c l rs es qs s) (e : σ[0]? = some (some (.ref a))) (q : Q (.int s.tot) H) : tFld K (tVar 0) "house_total" σ H Q := ⟨_, e, a, C, dx, _, _, rfl, h.ins, T.cl_M, T.n_M_house_total, mF_t _ _ _ _, q⟩
theorem rd_p (T : Ty K mg C CD) (h : MkAt C H a dx P c l rs es qs s) (e : σ[0]? = some (some (.ref a))) (q : Q (.ref P) H) : tFld K (tVar 0) "preferences" σ H Q := ⟨_, e, a, C, dx, _, _, rfl, h.ins, T.cl_M, T.n_M_preferences, mF_p _ _ _ _, q⟩
theorem rd_c (T : Ty K mg C CD) (h : MkAt C H a dx P c l rs es qs s) (e : σ[0]? = some (some (.ref a))) (q : Q (.ref c) H) : tFld K (tVar 0) "current" σ H Q := ⟨_, e, a, C, dx, _, _, rfl, h.ins, T.cl_M, T.n_M_current, mF_c _ _ _ _, q⟩
theorem rd_l (T : Ty K mg C CD) (h : MkAt C H a dx P c l rs es qs s) (e : σ[0]? = some (some (.ref a))) (q : Q (.ref l) H) : tFld K (tVar 0) "lottery" σ H Q := ⟨_, e, a, C, dx, _, _, rfl, h.ins, T.cl_M, T.n_M_lottery, mF_l _ _ _ _, q⟩
end
def Mkt (C : Addr) (H : Hp) (a : Addr) (s : M) : Prop := ∃ dx P c l rs es qs, MkAt C H a dx P c l rs es qs s
/-! ### what holds of a market that has come about -/
structure OkM (s : M) : Prop where
  fine : Fine s.ps
  cur : AOk s.ps s.cur
  lot : LotOk s.lot
  ents : ∀ x ∈ s.lot, AOk s.ps x.2
  n0 : 0 < s.ps.length
theorem AOk_enc {t : Sr92.Market} {b : Sr92.Assignment} (A : IsA t b) : AOk (czz t.preferences) (encL t.houseCount b) := by
  refine ⟨by rw [czz_len, encL_len]; exact A.len, fun i hi => ?_⟩
  rw [czz_len] at hi
  rw [encL_get (by rw [A.len]; exact hi) 0 t.houseCount, czz_get]
  exact enc_mem.mpr (A.acc i hi)
theorem nodup_le {m : Nat} {w : List Nat} (h : w.Nodup) (hl : ∀ x ∈ w, x < m) : w.length ≤ m := by
  have := List.Nodup.length_le_of_subset h (l₂ := List.range m) fun x hx => List.mem_range.mpr (hl x hx)
  rwa [List.length_range] at this
theorem Rel.okM {s : M} {d : Sr92.Instance} (R : Rel s d) : OkM s := by
  have hall := allAsg_eq R.wf
  refine ⟨⟨⟨by rw [R.len]; exact R.n5, fun x hx => ?_⟩, fun b hb => ?_, ?_⟩, ?_, ⟨?_, fun x hx => ?_⟩, fun x hx => ?_, by rw [R.len]; exact R.n1⟩
  · rw [R.ps] at hx
    unfold czz at hx
    obtain ⟨w, hw, e⟩ := List.mem_map.mp hx
    rw [← e]
    unfold cz
    rw [List.length_map]
    exact Nat.le_trans (nodup_le (R.wf.nd w hw) (R.wf.lt w hw)) R.m5
  · rw [R.ps] at hb ⊢
    rw [hall] at hb
    obtain ⟨x, hx, e⟩ := List.mem_map.mp hb
    rw [← e]
    exact AOk_enc ((mem_asg R.wf).mp hx)
  · rw [R.ps, hall]
    intro z
    exact asg_ne R.wf (List.map_eq_nil_iff.mp z)
  · rw [R.ps, R.cur]; exact AOk_enc R.ia
  · rw [R.lot]; unfold lotZ; rw [List.length_map]; exact R.ll
  · rw [R.lot] at hx
    obtain ⟨y, hy, e⟩ := List.mem_map.mp hx
    have := R.wt y hy
    rw [← e]
    dsimp only
    omega
  · rw [R.lot] at hx
    obtain ⟨y, hy, e⟩ := List.mem_map.mp hx
    rw [← e, R.ps]
    exact AOk_enc (R.il y hy)
end Hl
/-! # R1. The market's calls that change nothing -/
namespace Hl
open PySem PySem.Spec PyProof.Rows L2
variable {P : Program} {w : World} {K : PySem.W.Frag} {mg : Str → Option Value} {base : Heap} {CM CD : Addr}
def spHas (C : Addr) : Sp := fun vs H Q _ => ∃ (a : Addr) (i : Int) (s : M), vs = [.ref a, .int i] ∧ Mkt C H a s ∧ Q (.bl (s.has i)) H
theorem ok_M_has_applicant {f : Addr} {fd : FuncData} (F : Fun K "has_applicant" "Market.has_applicant" s_M_has_applicant f fd) (T : Ty K mg CM CD) : FnOk P w K mg base CX0 1 f fd ["self", "i"] (spHas CM) := by
  refine F.ok sc_M_has_applicant (fun vs H Q E h => ?_) (fun cdv A outer s H vs Q E hr h => ?_)
  · obtain ⟨a, i, s, rfl, _⟩ := h
    rfl
  · obtain ⟨a, i, s, rfl, ⟨dx, P, c, l, rs, es, qs, h⟩, k⟩ := h
    refine ⟨_, (pss_one (ps_ret (pe_chain op_le op_lt pe_int (pv 1) (pe_callB call_len_seq (by rfl) T.b_len PySem.boot_len (pa_cons (pe_fld (pv 0) rfl) pa_nil))))), ?_⟩
    have e : s.has i = (decide (0 ≤ i) && decide (i < (s.ps.length : Int))) := rfl
    rw [e] at k
    refine ⟨_, rfl, _, _, rfl, rfl, _, rfl, ?_⟩
    refine ite2 (fun q => ?_) fun q => ?_
    · refine rd_p T h rfl ⟨P, _, rfl, .inl (SqL.of h.prf), _, _, rfl, rfl, ?_⟩
      rw [q, Bool.true_and] at k
      rw [List.length_map, h.rows.length]
      exact k
    · have q : decide (0 ≤ i) = false := by simpa using q
      rw [q, Bool.false_and] at k
      exact k
def spIsPref (C : Addr) : Sp := fun vs H Q _ => ∃ (a q : Addr) (s : M) (hs : List Int), vs = [.ref a, .ref q] ∧ Mkt C H a s ∧ IL H q hs ∧ hs.length ≤ 4000 ∧ Q (.bl (isPref s.tot hs)) H
theorem ok_M_is_preference_list {f : Addr} {fd : FuncData} (F : Fun K "is_preference_list" "Market.is_preference_list" s_M_is_preference_list f fd) (T : Ty K mg CM CD) : FnOk P w K mg base CX0 1 f fd ["self", "houses"] (spIsPref CM) := by
  refine F.ok sc_M_is_preference_list (fun vs H Q E h => ?_) (fun cdv A outer s H vs Q E hr h => ?_)
  · obtain ⟨a, q, s, hs, rfl, _⟩ := h
    rfl
  · obtain ⟨a, q, s, hs, rfl, ⟨dx, P, c, l, rs, es, qs, h⟩, hq, hl, k⟩ := h
    refine ⟨_, (pss_cons (ps_for PassesOwn.never rfl (pi_list (pv 1)) (pg_name (i := 2) sc_M_is_preference_list.nd rfl (Or.inl rfl))
      (pss_one (ps_if (pt_not (pt_chain op_le op_lt pe_int (pv 2) (pe_fld (pv 0) rfl))) (pss_one (ps_ret pe_bl)) pss_nil)))
      (pss_one (ps_ret (pe_cmpR op_eq (HlZ.pe_lenSetG (by rfl) T.b_len (by rfl) T.b_set (pv 1)) (pe_callB call_len_seq (by rfl) T.b_len PySem.boot_len (pa_cons (pv 1) pa_nil)) (nomark _))))), ?_⟩
    refine ⟨_, rfl, q, rfl, ⟨_, hq.sq⟩, for_list (K := K) (a := q) (xs := hs.map V.int) (fun i σ H' => ∃ v2 : Option V, σ = [some (.ref a), some (.ref q), v2] ∧ H' = H ∧ (hs.take i).all (inTot s.tot) = true)
      ⟨none, rfl, rfl, rfl⟩ (fun i σ H' _ ⟨_, _, e, _⟩ => by rw [e]; exact hq.sq) ?_ ?_⟩
    · rintro i v σ H' hi ⟨v2, rfl, rfl, hall⟩
      obtain ⟨z, ez, rfl⟩ := map_get? hi
      have bad : inTot s.tot z = false → Q (.bl false) H' := fun hz => by
        have : isPref s.tot hs = false := by
          unfold isPref
          have : hs.all (inTot s.tot) = false := by
            cases e : hs.all (inTot s.tot) with
            | false => rfl
            | true =>
              have := List.all_eq_true.mp e z (List.mem_of_getElem? ez)
              rw [this] at hz; cases hz
          rw [this]; rfl
        rw [this] at k
        exact k
      have good : inTot s.tot z = true → (hs.take (i + 1)).all (inTot s.tot) = true := fun hz => by
        rw [take_snoc ez, List.all_append, hall]
        simp [hz]
      refine ⟨_, rfl, _, _, rfl, rfl, _, rfl, ?_⟩
      refine ite2 (fun q1 => ?_) fun q1 => ?_
      · refine rd_t T h rfl ⟨_, _, rfl, rfl, _, rfl, ?_⟩
        refine ite2 (fun q2 => ?_) fun q2 => ?_
        · refine bad ?_
          have q2 : decide (z < s.tot) = false := by simpa using q2
          unfold inTot; rw [q2, Bool.and_false]
        · have q2 : decide (z < s.tot) = true := by
            cases e : decide (z < s.tot) with
            | true => rfl
            | false => rw [e] at q2; exact absurd rfl q2
          exact ⟨_, rfl, rfl, good (by unfold inTot; rw [q1, q2]; rfl)⟩
      · have q1 : decide (0 ≤ z) = false := by simpa using q1
        refine ⟨_, rfl, iteT (bad ?_)⟩
        unfold inTot; rw [q1, Bool.false_and]
    · rintro σ H' ⟨v2, rfl, rfl, hall⟩
      rw [List.length_map, List.take_length] at hall
      refine ⟨_, rfl, q, hs, rfl, hq.sq, hl, _, rfl, q, _, rfl, .inl hq.sq, rfl, ?_⟩
      unfold isPref at k
      rw [hall, Bool.true_and] at k
      rw [dI, List.length_map]
      have : decide (((HlZ.met hs).length : Int) = (hs.length : Int)) = decide hs.Nodup := by
        rw [decide_eq_decide, ← HlZ.met_nodup]
        omega
      rw [this]
      exact k
/-! ### calls that answer a list -/
theorem upd_IL {H : Hp} {p : Addr} {ns : List Int} {xs : List V} (e : xs = ns.map V.int) : IL (upd H p (.lst xs)) p ns := by
  show upd H p _ p = _
  rw [upd_same, e]
def spTotal (C : Addr) : Sp := fun vs H Q _ => ∃ (a : Addr) (s : M), vs = [.ref a] ∧ Mkt C H a s ∧ s.lot.length ≤ 1000 ∧ ∀ H' : Hp, Same H H' → Q (.int s.total) H'
def te_M_total_weight : TE := tVar 1
theorem ok_M_total_weight {f : Addr} {fd : FuncData} (F : Fun K "total_weight" "Market.total_weight" s_M_total_weight f fd) (T : Ty K mg CM CD) : FnOk P w K mg base CX0 1 f fd ["self"] (spTotal CM) := by
  refine F.ok sc_M_total_weight (fun vs H Q E h => ?_) (fun cdv A outer s H vs Q E hr h => ?_)
  · obtain ⟨a, s, rfl, _⟩ := h
    rfl
  · obtain ⟨a, s, rfl, ⟨dx, P, c, l, rs, es, qs, h⟩, hl, k⟩ := h
    have hn := h.ents.length
    refine ⟨_, (pss_one (ps_ret (pe_callB (cr_sum rfl) (by rfl) T.b_sum (by decide +kernel) (pa_cons (pe_lc (own := [("weight", 1), ("entry", 2)]) (g := (gTup K 2 (gCons (gName 1) (gCons (gName 2) gNil)))) (tt := tYes) (te := te_M_total_weight) rfl sc_M_total_weight.nd (pi_list (pe_fld (pv 0) rfl)) (blkOk_by (own := [("weight", 1), ("entry", 2)]) (N := ["self", "weight", "entry"]) (sc := defScope s_M_total_weight) (by decide +kernel)) (fun _ _ _ _ _ => (pg_tup rfl (pgs_cons (pg_name (i := 1) sc_M_total_weight.nd rfl (Or.inl rfl)) (pgs_cons (pg_name (i := 2) sc_M_total_weight.nd rfl (Or.inl rfl)) pgs_nil)))) (fun _ _ _ _ _ => pts_nil) (fun _ _ _ _ _ => (pv 1))) pa_nil)))), ?_⟩
    refine ⟨_, rfl, _, _, _, _, _, rfl, h.ins, T.cl_M, T.n_M_lottery, mF_l _ _ _ _, l, rfl, ⟨_, SqL.of h.lst⟩, fun D nD => lc_list (K := K) (a := l) (xs := es.map V.ref) (fun i H' => Same H H' ∧ IL H' D ((s.lot.take i).map (·.1))) ⟨Same.up0 nD, upd_same⟩ (fun i H' _ ⟨s5, _⟩ => SqL.of (s5 _ _ h.lst)) ?_ ?_⟩
    · rintro i v H' hi ⟨s5, hD⟩
      obtain ⟨e, ee, rfl⟩ := map_get? hi
      obtain ⟨x, b, q, ea, he, hq⟩ := h.ents.get ee
      refine ⟨e, _, rfl, SqT.of (s5 _ _ he), rfl, _, _, rfl, _, _, rfl, rfl, rfl, yes_ (iteT ⟨_, rfl, _, hD, ?_, s5.set nD, upd_IL ?_⟩)⟩
      · rw [List.length_map, List.length_map, List.length_take]
        exact line_lt (by omega)
      · rw [take_snoc ea, List.map_append, List.map_append]; rfl
    · rintro H' ⟨s5, hD⟩
      rw [List.length_map, hn, List.take_length] at hD
      exact ⟨D, _, rfl, hD.sq, k H' s5⟩
def spAssignment (C : Addr) : Sp := fun vs H Q _ => ∃ (a : Addr) (s : M), vs = [.ref a] ∧ Mkt C H a s ∧ OkM s ∧ NewIL H s.assignment Q
theorem ok_M_assignment {f : Addr} {fd : FuncData} (F : Fun K "assignment" "Market.assignment" s_M_assignment f fd) (T : Ty K mg CM CD) (D_count_housed : Dn P w K mg base "count_housed" 1 ["assignment"] spCount) : FnOk P w K mg base CX0 2 f fd ["self"] (spAssignment CM) := by
  refine F.ok sc_M_assignment (fun vs H Q E h => ?_) (fun cdv A outer s H vs Q E hr h => ?_)
  · obtain ⟨a, s, rfl, _⟩ := h
    rfl
  · obtain ⟨a, s, rfl, ⟨dx, P, c, l, rs, es, qs, h⟩, O, k⟩ := h
    refine ⟨_, (pss_one (ps_ret (pe_op op_cat (pe_lst (pa_cons (pe_fn D_count_housed (hr.mono (by decide)) (pa_cons (pe_fld (pv 0) rfl) pa_nil)) pa_nil)) (pe_fld (pv 0) rfl)))), ?_⟩
    have hc := O.cur.1
    have hn := O.fine.small.n
    refine rd_c T h rfl ⟨c, s.cur, rfl, h.cur, (by show 1 ≤ sizeLine; decide), fun t nt => ?_⟩
    have h1 := h.same (Same.up0 nt (o := .lst [.int (housed s.cur)]))
    refine rd_c T h1 rfl ⟨t, c, _, _, rfl, rfl, upd_same, h1.cur, ?_, fun p np => k _ p ((Same.up0 nt).up np) ((Same.up0 nt).free np) (upd_IL rfl)⟩
    rw [List.length_map, hc]
    exact line_le (by simp; omega)
def spCompare (C : Addr) : Sp := fun vs H Q _ => ∃ (a q : Addr) (s : M) (ns : List Int), vs = [.ref a, .ref q] ∧ Mkt C H a s ∧ OkM s ∧ IL H q ns ∧ ns.length ≤ 4000 ∧ NewIL H (s.compare ns) Q
theorem isAsg_AOk {ps : List (List Int)} {ns : List Int} (h : isAsg ps ns = true) : AOk ps ns := by
  obtain ⟨h1, _, h3⟩ := (isAsg_iff ps ns).mp h
  exact ⟨h1, h3⟩
theorem ok_M_compare {f : Addr} {fd : FuncData} (F : Fun K "compare" "Market.compare" s_M_compare f fd) (T : Ty K mg CM CD) (D_is_assignment : Dn P w K mg base "is_assignment" 1 ["preferences", "numbers"] spIsA)
    (D_votes : Dn P w K mg base "votes" 3 ["preferences", "assignment", "other"] spVotes) : FnOk P w K mg base CX0 4 f fd ["self", "a"] (spCompare CM) := by
  refine F.ok sc_M_compare (fun vs H Q E h => ?_) (fun cdv A outer s H vs Q E hr h => ?_)
  · obtain ⟨a, q, s, ns, rfl, _⟩ := h
    rfl
  · obtain ⟨a, q, s, ns, rfl, ⟨dx, P, c, l, rs, es, qs, h⟩, O, hq, hl, k⟩ := h
    refine ⟨_, (pss_cons (ps_if (pt_not (pt_val (pe_fn D_is_assignment (hr.mono (by decide)) (pa_cons (pe_fld (pv 0) rfl) (pa_cons (pv 1) pa_nil))))) (pss_one (ps_ret (pe_lst (pa_cons (pe_globI T.g_NOT_ALLOWED) pa_nil)))) pss_nil)
      (pss_one (ps_ret (pe_lst (pa_cons (pe_fn D_votes (hr.mono (by decide)) (pa_cons (pe_fld (pv 0) rfl) (pa_cons (pe_fld (pv 0) rfl) (pa_cons (pv 1) pa_nil)))) (pa_cons (pe_fn D_votes (hr.mono (by decide)) (pa_cons (pe_fld (pv 0) rfl) (pa_cons (pv 1) (pa_cons (pe_fld (pv 0) rfl) pa_nil)))) pa_nil)))))), ?_⟩
    unfold M.compare at k
    refine ⟨_, rfl, _, _, _, _, _, rfl, h.ins, T.cl_M, T.n_M_preferences, mF_p _ _ _ _, _, rfl, P, q, _, _, rfl, h.ll, hq, hl, fun H1 s1 => ⟨_, rfl, ?_⟩⟩
    refine ite2 (fun c => ?_) fun c => ?_
    · have c : isAsg s.ps ns = false := by simpa using c
      rw [if_pos c] at k
      exact ⟨(by show 1 ≤ sizeLine; decide), fun p np => k _ p (s1.up np) (s1.free np) (upd_IL rfl)⟩
    · have c : isAsg s.ps ns = true := by simpa using c
      rw [if_neg (by rw [c]; simp)] at k
      have h1 := h.same s1
      have hq1 := hq.same s1
      have o := isAsg_AOk c
      refine ⟨_, rfl, _, _, _, _, _, rfl, h1.ins, T.cl_M, T.n_M_preferences, mF_p _ _ _ _, _, rfl, _, _, _, _, _, rfl, h1.ins, T.cl_M, T.n_M_current, mF_c _ _ _ _, _, rfl, P, _, q, _, _, _, rfl, h1.ll, h1.cur, hq1, O.cur, o, fun H2 s2 => ?_⟩
      have h2 := h1.same s2
      refine ⟨_, rfl, _, _, _, _, _, rfl, h2.ins, T.cl_M, T.n_M_preferences, mF_p _ _ _ _, _, rfl, _, rfl, _, _, _, _, _, rfl, h2.ins, T.cl_M, T.n_M_current, mF_c _ _ _ _, P, q, _, _, _, _, rfl, h2.ll, hq1.same s2, h2.cur, o, O.cur, fun H3 s3 => ⟨(by show 2 ≤ sizeLine; decide), fun p np => k _ p (((s1.trans s2).trans s3).up np) (((s1.trans s2).trans s3).free np) (upd_IL rfl)⟩⟩
/-- the lottery of the current assignment alone -/
theorem one_lot {H : Hp} {c t e : Addr} {cur : List Int} (hc : IL H c cur) (nt : H t = none) (ne : (upd H t (.tup [.int 1, .ref c])) e = none) : LotAt (upd (upd H t (.tup [.int 1, .ref c])) e (.lst [.ref t])) e [(1, cur)] :=
  ⟨[t], [c], upd_same, .cons ((Same.up0 ne) _ _ upd_same) ((hc.same (Same.up0 nt)).same (Same.up0 ne)) .nil⟩
theorem one_ok (cur : List Int) : LotOk [(1, cur)] := ⟨(by show 1 ≤ 12; decide), fun x hx => (by rw [List.mem_singleton.mp hx]; show (1 : Int) ≤ 1 ∧ (1 : Int) ≤ 99; decide)⟩
def spIsPop (C : Addr) : Sp := fun vs H Q _ => ∃ (a : Addr) (s : M), vs = [.ref a] ∧ Mkt C H a s ∧ OkM s ∧ NewIL H s.isPop Q
theorem ok_M_is_popular {f : Addr} {fd : FuncData} (F : Fun K "is_popular" "Market.is_popular" s_M_is_popular f fd) (T : Ty K mg CM CD) (D_find_challenger : Dn P w K mg base "find_challenger" 4 ["preferences", "lottery"] spChal) : FnOk P w K mg base CX0 5 f fd ["self"] (spIsPop CM) := by
  refine F.ok sc_M_is_popular (fun vs H Q E h => ?_) (fun cdv A outer s H vs Q E hr h => ?_)
  · obtain ⟨a, s, rfl, _⟩ := h
    rfl
  · obtain ⟨a, s, rfl, ⟨dx, P, c, l, rs, es, qs, h⟩, O, k⟩ := h
    refine ⟨_, (pss_cons (ps_set (i := 1) sc_M_is_popular.nd rfl (Or.inl rfl) (pe_ix ix_tup (pe_fn D_find_challenger (hr.mono (by decide)) (pa_cons (pe_fld (pv 0) rfl) (pa_cons (pe_lst (pa_cons (pe_tup (pa_cons pe_int (pa_cons (pe_fld (pv 0) rfl) pa_nil))) pa_nil)) pa_nil))) pe_int (fun _ _ => rfl)))
      (pss_one (ps_ret (pe_lst (pa_cons (pe_ifExp (pt_cmpR op_gt (pv 1) pe_int (nomark _)) pe_int pe_int) pa_nil))))), ?_⟩
    refine ⟨_, rfl, _, _, _, _, _, rfl, h.ins, T.cl_M, T.n_M_preferences, mF_p _ _ _ _, _, rfl, _, _, _, _, _, rfl, h.ins, T.cl_M, T.n_M_current, mF_c _ _ _ _, (by show 2 ≤ sizeLine; decide), fun t nt => ⟨(by show 1 ≤ sizeLine; decide), fun e ne => ?_⟩⟩
    have s1 : Same H (upd (upd H t (.tup [.int 1, .ref c])) e (.lst [.ref t])) := (Same.up0 nt).up ne
    refine ⟨P, e, s.ps, [(1, s.cur)], rfl, h.ll.same s1, O.fine, one_lot h.cur nt ne, one_ok _, fun x hx => (by rw [List.mem_singleton.mp hx]; exact O.cur), fun H1 t1 c1 s2 nt1 nc1 ht1 hc1 => ?_⟩
    refine ⟨t1, _, 0, _, rfl, rfl, SqT.of ht1, at_of (j := 0) rfl rfl, ?_⟩
    unfold M.isPop at k
    generalize (chal s.ps [(1, s.cur)]).1 = m at k ⊢
    refine ⟨_, rfl, _, _, rfl, rfl, _, rfl, ?_⟩
    have s12 := s1.trans s2
    refine ite2 (fun q => ?_) fun q => ?_
    · rw [if_pos (of_decide_eq_true q)] at k
      exact ⟨(by show 1 ≤ sizeLine; decide), fun p np => k _ p (s12.up np) (s12.free np) (upd_IL rfl)⟩
    · rw [if_neg (fun z => q (decide_eq_true z))] at k
      exact ⟨(by show 1 ≤ sizeLine; decide), fun p np => k _ p (s12.up np) (s12.free np) (upd_IL rfl)⟩
def spStrongest (C : Addr) : Sp := fun vs H Q _ => ∃ (a : Addr) (s : M), vs = [.ref a] ∧ Mkt C H a s ∧ OkM s ∧ NewIL H s.strongest Q
theorem chal_len {ps : List (List Int)} (Fi : Fine ps) (lot : List (Int × List Int)) : (chal ps lot).2.length = ps.length := by
  obtain ⟨d, hd, j, hj, _⟩ := best_isMax (wm ps lot) Fi.some
  have : (chal ps lot).2 = d := by unfold chal; rw [hd]; rfl
  rw [this]
  exact (Fi.ok d (List.mem_of_getElem? hj)).1
theorem ok_M_strongest_challenger {f : Addr} {fd : FuncData} (F : Fun K "strongest_challenger" "Market.strongest_challenger" s_M_strongest_challenger f fd) (T : Ty K mg CM CD) (D_find_challenger : Dn P w K mg base "find_challenger" 4 ["preferences", "lottery"] spChal) : FnOk P w K mg base CX0 5 f fd ["self"] (spStrongest CM) := by
  refine F.ok sc_M_strongest_challenger (fun vs H Q E h => ?_) (fun cdv A outer s H vs Q E hr h => ?_)
  · obtain ⟨a, s, rfl, _⟩ := h
    rfl
  · obtain ⟨a, s, rfl, ⟨dx, P, c, l, rs, es, qs, h⟩, O, k⟩ := h
    refine ⟨_, (pss_cons (ps_asg (pe_fn D_find_challenger (hr.mono (by decide)) (pa_cons (pe_fld (pv 0) rfl) (pa_cons (pe_lst (pa_cons (pe_tup (pa_cons pe_int (pa_cons (pe_fld (pv 0) rfl) pa_nil))) pa_nil)) pa_nil))) (pg_tup rfl (pgs_cons (pg_name (i := 1) sc_M_strongest_challenger.nd rfl (Or.inl rfl)) (pgs_cons (pg_name (i := 2) sc_M_strongest_challenger.nd rfl (Or.inl rfl)) pgs_nil))))
      (pss_one (ps_ret (pe_op op_cat (pe_lst (pa_cons (pe_callB call_len_seq (by rfl) T.b_len PySem.boot_len (pa_cons (pe_fld (pv 0) rfl) pa_nil)) (pa_cons (pv 1) pa_nil))) (pv 2))))), ?_⟩
    refine ⟨_, rfl, _, _, _, _, _, rfl, h.ins, T.cl_M, T.n_M_preferences, mF_p _ _ _ _, _, rfl, _, _, _, _, _, rfl, h.ins, T.cl_M, T.n_M_current, mF_c _ _ _ _, (by show 2 ≤ sizeLine; decide), fun t nt => ⟨(by show 1 ≤ sizeLine; decide), fun e ne => ?_⟩⟩
    have s1 : Same H (upd (upd H t (.tup [.int 1, .ref c])) e (.lst [.ref t])) := (Same.up0 nt).up ne
    refine ⟨P, e, s.ps, [(1, s.cur)], rfl, h.ll.same s1, O.fine, one_lot h.cur nt ne, one_ok _, fun x hx => (by rw [List.mem_singleton.mp hx]; exact O.cur), fun H1 t1 c1 s2 nt1 nc1 ht1 hc1 => ?_⟩
    have s12 := s1.trans s2
    have h1 := h.same s12
    refine ⟨t1, _, rfl, SqT.of ht1, rfl, _, _, rfl, _, _, rfl, rfl, rd_p T h1 rfl ⟨P, _, rfl, .inl (SqL.of h1.prf), _, rfl, (by show 2 ≤ sizeLine; decide), fun p1 np1 => ⟨_, rfl, p1, c1, _, _, rfl, rfl, upd_same, (Same.up0 np1) _ _ hc1, ?_, fun p np => k _ p ((s12.up np1).up np) ((s12.up np1).free np) (upd_IL ?_)⟩⟩⟩
    · rw [List.length_map, List.length_map, chal_len O.fine]
      have := O.fine.small.n
      exact line_le (by simp; omega)
    · rw [List.length_map, h1.rows.length]; rfl
def spUnpop (C : Addr) : Sp := fun vs H Q _ => ∃ (a : Addr) (s : M), vs = [.ref a] ∧ Mkt C H a s ∧ OkM s ∧ NewIL H s.unpop Q
theorem ok_M_unpopularity_factor {f : Addr} {fd : FuncData} (F : Fun K "unpopularity_factor" "Market.unpopularity_factor" s_M_unpopularity_factor f fd) (T : Ty K mg CM CD) (D_find_factor : Dn P w K mg base "find_factor" 4 ["preferences", "assignment"] spFactor) : FnOk P w K mg base CX0 5 f fd ["self"] (spUnpop CM) := by
  refine F.ok sc_M_unpopularity_factor (fun vs H Q E h => ?_) (fun cdv A outer s H vs Q E hr h => ?_)
  · obtain ⟨a, s, rfl, _⟩ := h
    rfl
  · obtain ⟨a, s, rfl, ⟨dx, P, c, l, rs, es, qs, h⟩, O, k⟩ := h
    refine ⟨_, (pss_cons (ps_set (i := 1) sc_M_unpopularity_factor.nd rfl (Or.inl rfl) (pe_fn D_find_factor (hr.mono (by decide)) (pa_cons (pe_fld (pv 0) rfl) (pa_cons (pe_fld (pv 0) rfl) pa_nil))))
      (pss_cons (ps_if (pt_cmpR op_isN (pv 1) pe_non (nomark _)) (pss_one (ps_ret (pe_lst (pa_cons (pe_globI T.g_NONE_EXISTS) pa_nil)))) pss_nil)
      (pss_one (ps_ret (pe_lst (pa_cons pe_int (pa_cons (pe_ix ix_tup (pv 1) pe_int (fun _ _ => rfl)) (pa_cons (pe_ix ix_tup (pv 1) pe_int (fun _ _ => rfl)) pa_nil)))))))), ?_⟩
    unfold M.unpop at k
    refine ⟨_, rfl, _, _, _, _, _, rfl, h.ins, T.cl_M, T.n_M_preferences, mF_p _ _ _ _, _, rfl, _, _, _, _, _, rfl, h.ins, T.cl_M, T.n_M_current, mF_c _ _ _ _, P, c, s.ps, s.cur, rfl, h.ll, O.fine, h.cur, O.cur, fun hf H1 s1 => ?_, fun n d hf H1 t s1 nt ht => ?_⟩
    · rw [hf] at k
      refine ⟨_, rfl, rfl, _, rfl, iteT ⟨(by show 1 ≤ sizeLine; decide), fun p np => k _ p (s1.up np) (s1.free np) (upd_IL rfl)⟩⟩
    · rw [hf] at k
      refine ⟨_, rfl, rfl, _, rfl, iteF ?_⟩
      exact ⟨_, rfl, t, _, 0, _, rfl, rfl, SqT.of ht, at_of (j := 0) rfl rfl, _, rfl, t, _, 1, _, rfl, rfl, SqT.of ht, at_of (j := 1) rfl rfl, (by show 3 ≤ sizeLine; decide), fun p np => k _ p (s1.up np) (s1.free np) (upd_IL rfl)⟩
end Hl
/-! # R2. The market's calls that change nothing, the rest -/
namespace Hl
open PySem PySem.Spec PyProof.Rows L2
variable {P : Program} {w : World} {K : PySem.W.Frag} {mg : Str → Option Value} {base : Heap} {CM CD : Addr}
def spCountAsg (C : Addr) : Sp := fun vs H Q _ => ∃ (a : Addr) (s : M), vs = [.ref a] ∧ Mkt C H a s ∧ OkM s ∧ NewIL H s.countAsg Q
theorem ok_M_count_assignments {f : Addr} {fd : FuncData} (F : Fun K "count_assignments" "Market.count_assignments" s_M_count_assignments f fd) (T : Ty K mg CM CD) (D_all_assignments : Dn P w K mg base "all_assignments" 1 ["preferences"] spAll)
    (D_popular_assignments : Dn P w K mg base "popular_assignments" 3 ["preferences"] spPopular) : FnOk P w K mg base CX0 4 f fd ["self"] (spCountAsg CM) := by
  refine F.ok sc_M_count_assignments (fun vs H Q E h => ?_) (fun cdv A outer s H vs Q E hr h => ?_)
  · obtain ⟨a, s, rfl, _⟩ := h
    rfl
  · obtain ⟨a, s, rfl, ⟨dx, P, c, l, rs, es, qs, h⟩, O, k⟩ := h
    refine ⟨_, (pss_one (ps_ret (pe_lst (pa_cons (pe_callB call_len_seq (by rfl) T.b_len PySem.boot_len (pa_cons (pe_fn D_all_assignments (hr.mono (by decide)) (pa_cons (pe_fld (pv 0) rfl) pa_nil)) pa_nil)) (pa_cons (pe_callB call_len_seq (by rfl) T.b_len PySem.boot_len (pa_cons (pe_fn D_popular_assignments (hr.mono (by decide)) (pa_cons (pe_fld (pv 0) rfl) pa_nil)) pa_nil)) pa_nil))))), ?_⟩
    refine ⟨_, rfl, _, _, _, _, _, rfl, h.ins, T.cl_M, T.n_M_preferences, mF_p _ _ _ _, P, s.ps, rfl, h.ll, O.fine.small, fun H1 q1 rs1 s1 nq1 hq1 nrs1 hR1 => ?_⟩
    have h1 := h.same s1
    refine ⟨q1, _, rfl, .inl (SqL.of hq1), _, rfl, _, _, _, _, _, rfl, h1.ins, T.cl_M, T.n_M_preferences, mF_p _ _ _ _, P, s.ps, rfl, h1.ll, O.fine.small, fun H2 q2 rs2 s2 nq2 hq2 nrs2 hR2 => ⟨q2, _, rfl, .inl (SqL.of hq2), (by show 2 ≤ sizeLine; decide), fun p np => k _ p ((s1.trans s2).up np) ((s1.trans s2).free np) (upd_IL ?_)⟩⟩
    rw [List.length_map, List.length_map, hR1.length, hR2.length]
    rfl
def spPopAsg (C : Addr) : Sp := fun vs H Q _ => ∃ (a : Addr) (i : Int) (s : M), vs = [.ref a, .int i] ∧ Mkt C H a s ∧ OkM s ∧ NewIL H (s.popAsg i) Q
theorem pop_mem {ps : List (List Int)} {b : List Int} (h : b ∈ popular ps) : b ∈ allAsg ps := (List.mem_filter.mp h).1
theorem ix_ref' {rs : List Addr} {i : Int} {r : Addr} (h0 : 0 ≤ i) (h : rs[i.toNat]? = some r) : atI (rs.map V.ref) i = some (V.ref r) := at_of (j := i.toNat) (by omega) (by rw [List.getElem?_map, h]; rfl)
theorem ix_int' {ns : List Int} {i : Int} (h0 : 0 ≤ i) (h : i.toNat < ns.length) : atI (ns.map V.int) i = some (V.int (ns.getD i.toNat 0)) := at_of (j := i.toNat) (by omega) (by rw [List.getElem?_map, get_of_lt h 0]; rfl)
theorem ok_M_popular_assignment {f : Addr} {fd : FuncData} (F : Fun K "popular_assignment" "Market.popular_assignment" s_M_popular_assignment f fd) (T : Ty K mg CM CD) (D_popular_assignments : Dn P w K mg base "popular_assignments" 3 ["preferences"] spPopular)
    (D_count_housed : Dn P w K mg base "count_housed" 1 ["assignment"] spCount) : FnOk P w K mg base CX0 4 f fd ["self", "k"] (spPopAsg CM) := by
  refine F.ok sc_M_popular_assignment (fun vs H Q E h => ?_) (fun cdv A outer s H vs Q E hr h => ?_)
  · obtain ⟨a, i, s, rfl, _⟩ := h
    rfl
  · obtain ⟨a, i, s, rfl, ⟨dx, P, c, l, rs, es, qs, h⟩, O, k⟩ := h
    refine ⟨_, (pss_cons (ps_set (i := 2) sc_M_popular_assignment.nd rfl (Or.inl rfl) (pe_fn D_popular_assignments (hr.mono (by decide)) (pa_cons (pe_fld (pv 0) rfl) pa_nil)))
      (pss_cons (ps_if (pt_not (pt_chain op_le op_lt pe_int (pv 1) (pe_callB call_len_seq (by rfl) T.b_len PySem.boot_len (pa_cons (pv 2) pa_nil)))) (pss_one (ps_ret (pe_lst (pa_cons (pe_globI T.g_NOT_THERE) pa_nil)))) pss_nil)
      (pss_one (ps_ret (pe_op op_cat (pe_lst (pa_cons (pe_fn D_count_housed (hr.mono (by decide)) (pa_cons (pe_ix ix_list (pv 2) (pv 1) (fun _ _ => rfl)) pa_nil)) pa_nil)) (pe_ix ix_list (pv 2) (pv 1) (fun _ _ => rfl))))))), ?_⟩
    refine ⟨_, rfl, _, _, _, _, _, rfl, h.ins, T.cl_M, T.n_M_preferences, mF_p _ _ _ _, P, s.ps, rfl, h.ll, O.fine.small, fun H1 q1 rs1 s1 nq1 hq1 nrs1 hR1 => ?_⟩
    have hn := hR1.length
    unfold M.popAsg at k
    have bad : (decide (0 ≤ i) && decide (i < ((popular s.ps).length : Int))) = false → tRet (tLst (tCons (tC (.int (-2))) tNil)) { nx := fun _ H' => Q .non H', rt := Q } [some (.ref a), some (.int i), some (.ref q1)] H1 := fun e => by
      rw [if_pos e] at k
      exact ⟨(by show 1 ≤ sizeLine; decide), fun p np => k _ p (s1.up np) (s1.free np) (upd_IL rfl)⟩
    refine ⟨_, rfl, _, _, rfl, rfl, _, rfl, ?_⟩
    refine ite2 (fun c1 => ?_) fun c1 => ?_
    · refine ⟨_, rfl, q1, _, rfl, .inl (SqL.of hq1), _, _, rfl, rfl, _, rfl, ?_⟩
      rw [List.length_map, hn]
      refine ite2 (fun c2 => ?_) fun c2 => ?_
      · refine bad ?_
        rw [c1, Bool.true_and]
        simpa using c2
      · have c2 : decide (i < ((popular s.ps).length : Int)) = true := by
          cases e : decide (i < ((popular s.ps).length : Int)) with
          | true => rfl
          | false => rw [e] at c2; exact absurd rfl c2
        have i0 : 0 ≤ i := of_decide_eq_true c1
        have i1 : i < ((popular s.ps).length : Int) := of_decide_eq_true c2
        rw [if_neg (by rw [c1, c2]; simp)] at k
        have hlt : i.toNat < (popular s.ps).length := by omega
        have eb := get_of_lt hlt []
        obtain ⟨r, er, hb⟩ := hR1.get' eb
        generalize hbb : (popular s.ps).getD i.toNat [] = b at k eb hb
        have lb := allAsg_mem (pop_mem (List.mem_of_getElem? eb))
        refine ⟨_, rfl, _, rfl, q1, _, _, _, rfl, rfl, SqL.of hq1, ix_ref' i0 er, r, b, rfl, hb, (by show 1 ≤ sizeLine; decide), fun t nt => ?_⟩
        refine ⟨_, rfl, _, rfl, q1, _, _, _, rfl, rfl, SqL.of ((Same.up0 nt) _ _ hq1), ix_ref' i0 er, t, r, _, _, rfl, rfl, upd_same, (Same.up0 nt) _ _ hb, ?_, fun p np => k _ p ((s1.up nt).up np) ((s1.up nt).free np) (upd_IL rfl)⟩
        rw [List.length_map, lb]
        have := O.fine.small.n
        exact line_le (by simp; omega)
    · refine ⟨_, rfl, iteT (bad ?_)⟩
      have c1 : decide (0 ≤ i) = false := by simpa using c1
      rw [c1, Bool.false_and]
def spChoices (C : Addr) : Sp := fun vs H Q _ => ∃ (a : Addr) (i : Int) (s : M), vs = [.ref a, .int i] ∧ Mkt C H a s ∧ OkM s ∧ NewIL H (s.choices i) Q
theorem OkM.le1 {s : M} (O : OkM s) : s.ps.length ≤ 1000 := Nat.le_trans O.fine.small.n (by decide)
theorem OkM.le2 {s : M} (O : OkM s) : ∀ x ∈ s.ps, x.length ≤ 1000 := fun x hx => Nat.le_trans (O.fine.small.m x hx) (by decide)
theorem has_of {s : M} {i : Int} (h : s.has i = true) : 0 ≤ i ∧ i.toNat < s.ps.length := by
  unfold M.has at h
  simp at h
  omega
theorem ok_M_choices {f : Addr} {fd : FuncData} (F : Fun K "choices" "Market.choices" s_M_choices f fd) (T : Ty K mg CM CD) (D_M_has_applicant : Mn P w K mg base CM "has_applicant" 1 ["self", "i"] (spHas CM)) (D_first_choices : Dn P w K mg base "first_choices" 1 ["preferences"] spFirsts)
    (D_second_choices : Dn P w K mg base "second_choices" 2 ["preferences"] spSeconds) : FnOk P w K mg base CX0 3 f fd ["self", "i"] (spChoices CM) := by
  refine F.ok sc_M_choices (fun vs H Q E h => ?_) (fun cdv A outer s H vs Q E hr h => ?_)
  · obtain ⟨a, i, s, rfl, _⟩ := h
    rfl
  · obtain ⟨a, i, s, rfl, ⟨dx, P, c, l, rs, es, qs, h⟩, O, k⟩ := h
    refine ⟨_, (pss_cons (ps_if (pt_not (pt_val (pe_me (pv 0) T.cl_M D_M_has_applicant (hr.mono (by decide)) (pa_cons (pv 1) pa_nil)))) (pss_one (ps_ret (pe_lst (pa_cons (pe_globI T.g_NOT_THERE) pa_nil)))) pss_nil)
      (pss_one (ps_ret (pe_lst (pa_cons pe_int (pa_cons (pe_ix ix_list (pe_fn D_first_choices (hr.mono (by decide)) (pa_cons (pe_fld (pv 0) rfl) pa_nil)) (pv 1) (fun _ _ => rfl)) (pa_cons (pe_ix ix_list (pe_fn D_second_choices (hr.mono (by decide)) (pa_cons (pe_fld (pv 0) rfl) pa_nil)) (pv 1) (fun _ _ => rfl)) pa_nil))))))), ?_⟩
    unfold M.choices at k
    refine ⟨_, rfl, a, dx, _, rfl, h.ins, mF_none, _, rfl, a, i, s, rfl, ⟨_, _, _, _, _, _, _, h⟩, _, rfl, ?_⟩
    refine ite2 (fun c1 => ?_) fun c1 => ?_
    · rw [if_pos (by simpa using c1)] at k
      exact ⟨(by show 1 ≤ sizeLine; decide), fun p np => k _ p (Same.up0 np) np (upd_IL rfl)⟩
    · have c1 : s.has i = true := by simpa using c1
      rw [if_neg (by rw [c1]; simp)] at k
      obtain ⟨i0, i1⟩ := has_of c1
      refine ⟨_, rfl, _, _, _, _, _, rfl, h.ins, T.cl_M, T.n_M_preferences, mF_p _ _ _ _, P, s.ps, rfl, h.ll, O.le1, fun H1 q1 s1 nq1 hq1 => ⟨_, rfl, q1, _, _, _, rfl, rfl, hq1.sq, ix_int' i0 (by rw [firsts_len]; exact i1), ?_⟩⟩
      have h1 := h.same s1
      refine ⟨_, rfl, _, _, _, _, _, rfl, h1.ins, T.cl_M, T.n_M_preferences, mF_p _ _ _ _, P, s.ps, rfl, h1.ll, O.le1, O.le2, fun H2 q2 s2 nq2 hq2 => ⟨_, rfl, q2, _, _, _, rfl, rfl, hq2.sq, ix_int' i0 (by rw [seconds_len]; exact i1), (by show 3 ≤ sizeLine; decide), fun p np => k _ p ((s1.trans s2).up np) ((s1.trans s2).free np) (upd_IL rfl)⟩⟩
def spCheck (C : Addr) : Sp := fun vs H Q _ => ∃ (a : Addr) (s : M), vs = [.ref a] ∧ Mkt C H a s ∧ OkM s ∧ NewIL H s.check Q
theorem ok_M_check_characterization {f : Addr} {fd : FuncData} (F : Fun K "check_characterization" "Market.check_characterization" s_M_check_characterization f fd) (T : Ty K mg CM CD)
    (D_is_characterized : Dn P w K mg base "is_characterized" 3 ["preferences", "assignment"] spChar) : FnOk P w K mg base CX0 4 f fd ["self"] (spCheck CM) := by
  refine F.ok sc_M_check_characterization (fun vs H Q E h => ?_) (fun cdv A outer s H vs Q E hr h => ?_)
  · obtain ⟨a, s, rfl, _⟩ := h
    rfl
  · obtain ⟨a, s, rfl, ⟨dx, P, c, l, rs, es, qs, h⟩, O, k⟩ := h
    refine ⟨_, (pss_one (ps_ret (pe_lst (pa_cons (pe_ifExp (pt_val (pe_fn D_is_characterized (hr.mono (by decide)) (pa_cons (pe_fld (pv 0) rfl) (pa_cons (pe_fld (pv 0) rfl) pa_nil)))) pe_int pe_int) pa_nil)))), ?_⟩
    unfold M.check at k
    refine ⟨_, rfl, _, _, _, _, _, rfl, h.ins, T.cl_M, T.n_M_preferences, mF_p _ _ _ _, _, rfl, _, _, _, _, _, rfl, h.ins, T.cl_M, T.n_M_current, mF_c _ _ _ _, P, c, s.ps, s.cur, rfl, h.ll, h.cur, O.le1, O.le2, O.cur.1, fun H1 s1 => ⟨_, rfl, ?_⟩⟩
    refine ite2 (fun c1 => ?_) fun c1 => ?_
    · rw [if_pos c1] at k
      exact ⟨(by show 1 ≤ sizeLine; decide), fun p np => k _ p (s1.up np) (s1.free np) (upd_IL rfl)⟩
    · rw [if_neg c1] at k
      exact ⟨(by show 1 ≤ sizeLine; decide), fun p np => k _ p (s1.up np) (s1.free np) (upd_IL rfl)⟩
def spEval (C : Addr) : Sp := fun vs H Q _ => ∃ (a : Addr) (s : M), vs = [.ref a] ∧ Mkt C H a s ∧ OkM s ∧ NewIL H s.evalLot Q
theorem total_bounds {s : M} (O : OkM s) (h : s.lot ≠ []) : 0 < s.total ∧ s.total < 1073741824 := by
  have key : ∀ l : List (Int × List Int), (∀ x ∈ l, 1 ≤ x.1 ∧ x.1 ≤ 99) → 0 ≤ (l.map (·.1)).sum ∧ (l.map (·.1)).sum ≤ 99 * l.length ∧ (l ≠ [] → 0 < (l.map (·.1)).sum) := fun l => by
    induction l with
    | nil => intro _; exact ⟨Int.le_refl _, by simp, fun z => absurd rfl z⟩
    | cons x l ih =>
      intro hx
      obtain ⟨i1, i2, _⟩ := ih fun y hy => hx y (List.mem_cons_of_mem _ hy)
      obtain ⟨x1, x2⟩ := hx x (List.mem_cons_self ..)
      rw [List.map_cons, List.sum_cons, List.length_cons]
      refine ⟨by omega, by omega, fun _ => by omega⟩
  obtain ⟨_, k2, k3⟩ := key s.lot O.lot.2
  have := O.lot.1
  refine ⟨k3 h, ?_⟩
  show (s.lot.map (·.1)).sum < _
  omega
theorem ok_M_evaluate_lottery {f : Addr} {fd : FuncData} (F : Fun K "evaluate_lottery" "Market.evaluate_lottery" s_M_evaluate_lottery f fd) (T : Ty K mg CM CD) (D_find_challenger : Dn P w K mg base "find_challenger" 4 ["preferences", "lottery"] spChal)
    (D_lowest_terms : Dn P w K mg base "lowest_terms" 1 ["numerator", "denominator"] spLow) (D_M_total_weight : Mn P w K mg base CM "total_weight" 1 ["self"] (spTotal CM)) : FnOk P w K mg base CX0 5 f fd ["self"] (spEval CM) := by
  refine F.ok sc_M_evaluate_lottery (fun vs H Q E h => ?_) (fun cdv A outer s H vs Q E hr h => ?_)
  · obtain ⟨a, s, rfl, _⟩ := h
    rfl
  · obtain ⟨a, s, rfl, ⟨dx, P, c, l, rs, es, qs, h⟩, O, k⟩ := h
    have hne := h.ents.length
    refine ⟨_, (pss_cons (ps_if (pt_not (pt_truth (pe_fld (pv 0) rfl) (by intro _; rfl))) (pss_one (ps_ret (pe_lst (pa_cons (pe_globI T.g_NOTHING_HELD) pa_nil)))) pss_nil)
      (pss_cons (ps_asg (pe_fn D_find_challenger (hr.mono (by decide)) (pa_cons (pe_fld (pv 0) rfl) (pa_cons (pe_fld (pv 0) rfl) pa_nil))) (pg_tup rfl (pgs_cons (pg_name (i := 1) sc_M_evaluate_lottery.nd rfl (Or.inl rfl)) (pgs_cons (pg_name (i := 2) sc_M_evaluate_lottery.nd rfl (Or.inl rfl)) pgs_nil))))
      (pss_cons (ps_set (i := 3) sc_M_evaluate_lottery.nd rfl (Or.inl rfl) (pe_fn D_lowest_terms (hr.mono (by decide)) (pa_cons (pv 1) (pa_cons (pe_me0 (pv 0) T.cl_M D_M_total_weight (hr.mono (by decide))) pa_nil))))
      (pss_one (ps_ret (pe_op op_cat (pe_lst (pa_cons (pe_ifExp (pt_cmpR op_gt (pv 1) pe_int (nomark _)) pe_int pe_int) (pa_cons (pe_ix ix_tup (pv 3) pe_int (fun _ _ => rfl)) (pa_cons (pe_ix ix_tup (pv 3) pe_int (fun _ _ => rfl)) pa_nil)))) (pv 2))))))), ?_⟩
    unfold M.evalLot at k
    refine ⟨_, rfl, _, _, _, _, _, rfl, h.ins, T.cl_M, T.n_M_lottery, mF_l _ _ _ _, !(es.map V.ref).isEmpty, .inl ⟨_, SqL.of h.lst, rfl⟩, ?_⟩
    refine ite2 (fun c1 => ?_) fun c1 => ?_
    · have c1 : s.lot = [] := by
        cases es with
        | nil => exact List.length_eq_zero_iff.mp hne.symm
        | cons x r => simp at c1
      rw [if_pos c1] at k
      exact ⟨(by show 1 ≤ sizeLine; decide), fun p np => k _ p (Same.up0 np) np (upd_IL rfl)⟩
    · have c1 : s.lot ≠ [] := fun z => by
        rw [z] at hne
        have := List.length_eq_zero_iff.mp hne
        rw [this] at c1
        simp at c1
      rw [if_neg c1] at k
      obtain ⟨t0, t1⟩ := total_bounds O c1
      refine ⟨_, rfl, _, _, _, _, _, rfl, h.ins, T.cl_M, T.n_M_preferences, mF_p _ _ _ _, _, rfl, _, _, _, _, _, rfl, h.ins, T.cl_M, T.n_M_lottery, mF_l _ _ _ _, P, l, s.ps, s.lot, rfl, h.ll, O.fine, h.la, O.lot, O.ents, fun H1 t c1 s1 nt nc ht hc => ?_⟩
      have lc := chal_len O.fine s.lot
      generalize (chal s.ps s.lot) = X at k ht hc lc
      obtain ⟨m, ch⟩ := X
      dsimp only at k ht hc lc
      have h1 := h.same s1
      refine ⟨t, _, rfl, SqT.of ht, rfl, _, _, rfl, _, _, rfl, rfl, ?_⟩
      refine ⟨_, rfl, _, rfl, a, dx, _, rfl, h1.ins, mF_none, a, s, rfl, ⟨_, _, _, _, _, _, _, h1⟩, Nat.le_trans O.lot.1 (by decide), fun H2 s2 => ⟨m, s.total, rfl, t0, t1, fun H3 g s3 ng hg => ?_⟩⟩
      have s13 := (s1.trans s2).trans s3
      have s23 := s2.trans s3
      have fin : ∀ z : Int, NewIL H (z :: (low m s.total).1 :: (low m s.total).2 :: ch) Q → ∀ p1, H3 p1 = none → ∃ l b xs zs, V.ref p1 = .ref l ∧ V.ref c1 = .ref b ∧ (upd H3 p1 (.lst [.int z, .int (low m s.total).1, .int (low m s.total).2])) l = some (.lst xs) ∧ (upd H3 p1 (.lst [.int z, .int (low m s.total).1, .int (low m s.total).2])) b = some (.lst zs) ∧
          xs.length + zs.length ≤ sizeLine ∧ ∀ p, (upd H3 p1 (.lst [.int z, .int (low m s.total).1, .int (low m s.total).2])) p = none → Q (.ref p) (upd (upd H3 p1 (.lst [.int z, .int (low m s.total).1, .int (low m s.total).2])) p (.lst (xs ++ zs))) := fun z kz p1 np1 => by
        refine ⟨p1, c1, _, _, rfl, rfl, upd_same, (Same.up0 np1) _ _ (s23 _ _ hc), ?_, fun p np => kz _ p ((s13.up np1).up np) ((s13.up np1).free np) (upd_IL rfl)⟩
        rw [List.length_map, lc]
        have := O.fine.small.n
        exact line_le (by simp; omega)
      refine ⟨_, rfl, _, _, rfl, rfl, _, rfl, ?_⟩
      refine ite2 (fun c2 => ?_) fun c2 => ?_
      · rw [if_pos (of_decide_eq_true c2)] at k
        refine ⟨_, rfl, g, _, 0, _, rfl, rfl, SqT.of hg, at_of (j := 0) rfl rfl, _, rfl, g, _, 1, _, rfl, rfl, SqT.of hg, at_of (j := 1) rfl rfl, (by show 3 ≤ sizeLine; decide), fun p1 np1 => ⟨_, rfl, ?_⟩⟩
        exact fin 0 k p1 np1
      · rw [if_neg (fun z => c2 (decide_eq_true z))] at k
        refine ⟨_, rfl, g, _, 0, _, rfl, rfl, SqT.of hg, at_of (j := 0) rfl rfl, _, rfl, g, _, 1, _, rfl, rfl, SqT.of hg, at_of (j := 1) rfl rfl, (by show 3 ≤ sizeLine; decide), fun p1 np1 => ⟨_, rfl, ?_⟩⟩
        exact fin 1 k p1 np1
def spDescribe (C : Addr) : Sp := fun vs H Q _ => ∃ (a : Addr) (s : M), vs = [.ref a] ∧ Mkt C H a s ∧ OkM s ∧ NewIL H s.describe Q
theorem ok_M_describe {f : Addr} {fd : FuncData} (F : Fun K "describe" "Market.describe" s_M_describe f fd) (T : Ty K mg CM CD) : FnOk P w K mg base CX0 1 f fd ["self"] (spDescribe CM) := by
  refine F.ok sc_M_describe (fun vs H Q E h => ?_) (fun cdv A outer s H vs Q E hr h => ?_)
  · obtain ⟨a, s, rfl, _⟩ := h
    rfl
  · obtain ⟨a, s, rfl, ⟨dx, P, c, l, rs, es, qs, h⟩, O, k⟩ := h
    have hn := h.rows.length
    refine ⟨_, (pss_cons (ps_set (i := 1) sc_M_describe.nd rfl (Or.inl rfl) (pe_lst (pa_cons (pe_callB call_len_seq (by rfl) T.b_len PySem.boot_len (pa_cons (pe_fld (pv 0) rfl) pa_nil)) (pa_cons (pe_fld (pv 0) rfl) pa_nil))))
      (pss_cons (ps_for PassesOwn.never rfl (pi_list (pe_fld (pv 0) rfl)) (pg_name (i := 2) sc_M_describe.nd rfl (Or.inl rfl))
      (pss_cons (ps_expr (pe_bm PySem.F.plainAttrs_list PySem.F.slot_list_append PySem.F.type_list_append mt_append (pv 1) (pa_cons (pe_callB call_len_seq (by rfl) T.b_len PySem.boot_len (pa_cons (pv 2) pa_nil)) pa_nil)))
      (pss_one (ps_expr (pe_bm PySem.F.plainAttrs_list PySem.F.slot_list_extend PySem.F.type_list_extend mt_extend (pv 1) (pa_cons (pv 2) pa_nil))))))
      (pss_one (ps_ret (pv 1))))), ?_⟩
    refine ⟨_, rfl, _, _, _, _, _, rfl, h.ins, T.cl_M, T.n_M_preferences, mF_p _ _ _ _, P, _, rfl, .inl (SqL.of h.prf), _, rfl, _, _, _, _, _, rfl, h.ins, T.cl_M, T.n_M_house_total, mF_t _ _ _ _, (by show 2 ≤ sizeLine; decide), fun an nan => ?_⟩
    have s1 : Same H (upd H an (.lst [.int ((rs.map V.ref).length : Nat), .int s.tot])) := Same.up0 nan
    have h1 := h.same s1
    have bound : ∀ i, ((s.ps.take i).flatMap fun hs => (hs.length : Int) :: hs).length ≤ 30 := fun i => by
      have := flat_len (fun hs : List Int => (hs.length : Int) :: hs) 6 (s.ps.take i) fun x hx => by
        have := O.fine.small.m x (List.mem_of_mem_take hx)
        show (x.length + 1) ≤ 6
        omega
      have l5 := O.fine.small.n
      rw [List.length_take] at this
      omega
    refine ⟨_, rfl, _, _, _, _, _, rfl, h1.ins, T.cl_M, T.n_M_preferences, mF_p _ _ _ _, P, rfl, ⟨_, SqL.of h1.prf⟩, for_list (K := K) (a := P) (xs := rs.map V.ref) (fun i σ H' => ∃ v2 : Option V, σ = [some (.ref a), some (.ref an), v2] ∧ Same H H' ∧ IL H' an ((s.ps.length : Int) :: s.tot :: (s.ps.take i).flatMap fun hs => (hs.length : Int) :: hs))
      ⟨none, rfl, s1, upd_IL (by rw [List.length_map, hn]; rfl)⟩ (fun i σ H' _ ⟨_, _, s5, _⟩ => SqL.of (s5 _ _ h.prf)) ?_ ?_⟩
    · rintro i v σ H1 hi ⟨v2, rfl, s5, han⟩
      obtain ⟨r, er, rfl⟩ := map_get? hi
      obtain ⟨wi, ew, hw⟩ := h.rows.get er
      have hw1 := hw.same s5
      have nr : r ≠ an := fun z => by
        have : H r = none := by rw [z]; exact nan
        rw [hw] at this; cases this
      have b1 := bound i
      have b2 : wi.length ≤ 5 := O.fine.small.m wi (List.mem_of_getElem? ew)
      refine ⟨_, rfl, .inl ⟨rfl, _, han.sq⟩, _, rfl, r, _, rfl, .inl hw1.sq, an, _, _, rfl, rfl, han, ?_, ?_⟩
      · rw [List.length_map, List.length_cons, List.length_cons]
        exact line_lt (by omega)
      refine ⟨_, rfl, .inl ⟨rfl, _, SqL.of upd_same⟩, _, rfl, an, r, _, _, rfl, rfl, upd_same, by rw [upd_ne nr]; exact hw1, ?_, ⟨_, rfl, (s5.set nan).set nan, upd_IL ?_⟩⟩
      · rw [List.length_append, List.length_map, List.length_map, List.length_cons, List.length_cons]
        exact line_le (by simp only [List.length_cons, List.length_nil]; omega)
      · rw [take_snoc ew, flat_snoc, List.length_map]
        simp
    · rintro σ H1 ⟨v2, rfl, s5, han⟩
      rw [List.length_map, hn, List.take_length] at han
      exact ⟨_, rfl, k H1 an s5 nan han⟩
end Hl
/-! # R3. The market's calls that may change it -/
namespace Hl
open PySem PySem.Spec PyProof.Rows L2
/-- from what is owned to what is owned then: nothing else is changed, and what is owned anew was new -/
structure Step (H H' : Hp) (o o' : Addr → Prop) : Prop where
  kp : Keep H H' o
  nw : ∀ x, o' x → o x ∨ H x = none
  al : ∀ x, H' x = none → H x = none
theorem al_same {H H' : Hp} (s : Same H H') : ∀ x, H' x = none → H x = none := fun _ n => s.free n
theorem al_upd {H H1 : Hp} (s : ∀ x, H1 x = none → H x = none) {p : Addr} {o : HO} : ∀ x, (upd H1 p o) x = none → H x = none := fun x n => by
  by_cases c : x = p
  · rw [c, upd_same] at n; cases n
  · rw [upd_ne c] at n; exact s x n
theorem Step.same {H H' : Hp} {o : Addr → Prop} (s : Same H H') : Step H H' o o := ⟨Keep.of s, fun _ h => .inl h, al_same s⟩
theorem Step.trans {H H1 H2 : Hp} {o o1 o2 : Addr → Prop} (a : Step H H1 o o1) (b : Step H1 H2 o1 o2) : Step H H2 o o2 := by
  refine ⟨fun x v e hx => ?_, fun x hx => ?_, fun x n => a.al x (b.al x n)⟩
  · refine b.kp x v (a.kp x v e hx) fun z => ?_
    rcases a.nw x z with q | q
    · exact hx q
    · rw [e] at q; cases q
  · rcases b.nw x hx with q | q
    · exact a.nw x q
    · exact .inr (a.al x q)
section
variable {C : Addr} {H H1 : Hp} {a dx P c l : Addr} {rs es qs : List Addr} {s : M}
theorem MkAt.newCur (h : MkAt C H a dx P c l rs es qs s) (s1 : Same H H1) {c' : Addr} {cur' : List Int} (n : H c' = none) (hc : IL H1 c' cur') :
    MkAt C (upd H1 a (.ins C dx (putF "current" (.ref c') (mF s.tot P c l)))) a dx P c' l rs es qs { s with cur := cur' } ∧ Step H (upd H1 a (.ins C dx (putF "current" (.ref c') (mF s.tot P c l)))) (owns a P c l rs es qs) (owns a P c' l rs es qs) := by
  have h1 := h.same s1
  have ne : ∀ x, owns a P c l rs es qs x → x ≠ c' := fun x o z => h.has o (by rw [z]; exact n)
  have nca : c' ≠ a := fun z => ne a (.inl rfl) z.symm
  have kp : Keep H1 (upd H1 a (.ins C dx (putF "current" (.ref c') (mF s.tot P c l)))) (fun x => x = a) := Keep.mut Keep.refl rfl
  refine ⟨⟨by rw [upd_same, mF_putc], kp _ _ h1.prf h1.ap.symm, h1.rows.keep fun r hr o e => kp _ _ e (h1.ar r hr), kp _ _ hc nca, kp _ _ h1.lst h1.al.symm, h1.ents.keep (fun r hr o e => kp _ _ e (h1.ae r hr).1) (fun r hr o e => kp _ _ e (h1.aq r hr)), ne _ (.inr (.inl rfl)), h.pl,
    fun z => ne l (.inr (.inr (.inr (.inl rfl)))) z.symm, fun r hr => ⟨(h.rn r hr).1, ne r (.inr (.inr (.inr (.inr (.inl hr))))), (h.rn r hr).2.2⟩, fun r hr => ⟨(h.qn r hr).1, ne r (.inr (.inr (.inr (.inr (.inr (.inr hr)))))), (h.qn r hr).2.2⟩⟩, ?_, ?_, al_upd (al_same s1)⟩
  · exact Keep.mut (Keep.of s1) (.inl rfl)
  · rintro x (e | e | e | e | e | e | e)
    · exact .inl (.inl e)
    · exact .inl (.inr (.inl e))
    · exact .inr (by rw [e]; exact n)
    · exact .inl (.inr (.inr (.inr (.inl e))))
    · exact .inl (.inr (.inr (.inr (.inr (.inl e)))))
    · exact .inl (.inr (.inr (.inr (.inr (.inr (.inl e))))))
    · exact .inl (.inr (.inr (.inr (.inr (.inr (.inr e))))))
theorem MkAt.newLot (h : MkAt C H a dx P c l rs es qs s) (s1 : Same H H1) {l' : Addr} (n : H l' = none) (hl : H1 l' = some (.lst [])) :
    MkAt C (upd H1 a (.ins C dx (putF "lottery" (.ref l') (mF s.tot P c l)))) a dx P c l' rs [] [] { s with lot := [] } ∧ Step H (upd H1 a (.ins C dx (putF "lottery" (.ref l') (mF s.tot P c l)))) (owns a P c l rs es qs) (owns a P c l' rs [] []) := by
  have h1 := h.same s1
  have ne : ∀ x, owns a P c l rs es qs x → x ≠ l' := fun x o z => h.has o (by rw [z]; exact n)
  have nla : l' ≠ a := fun z => ne a (.inl rfl) z.symm
  have kp : Keep H1 (upd H1 a (.ins C dx (putF "lottery" (.ref l') (mF s.tot P c l)))) (fun x => x = a) := Keep.mut Keep.refl rfl
  refine ⟨⟨by rw [upd_same, mF_putl], kp _ _ h1.prf h1.ap.symm, h1.rows.keep fun r hr o e => kp _ _ e (h1.ar r hr), kp _ _ h1.cur h1.ac.symm, kp _ _ hl nla, .nil, h.pc, ne _ (.inr (.inl rfl)),
    ne _ (.inr (.inr (.inl rfl))), fun r hr => ⟨(h.rn r hr).1, (h.rn r hr).2.1, ne r (.inr (.inr (.inr (.inr (.inl hr)))))⟩, fun r hr => absurd hr List.not_mem_nil⟩, ?_, ?_, al_upd (al_same s1)⟩
  · exact Keep.mut (Keep.of s1) (.inl rfl)
  · rintro x (e | e | e | e | e | e | e)
    · exact .inl (.inl e)
    · exact .inl (.inr (.inl e))
    · exact .inl (.inr (.inr (.inl e)))
    · exact .inr (by rw [e]; exact n)
    · exact .inl (.inr (.inr (.inr (.inr (.inl e)))))
    · cases e
    · cases e
theorem Rows.set {H : Hp} {n : Addr} {hs : List Int} (hn : IL H n hs) : ∀ {rs : List Addr} {ws : List (List Int)} (j : Nat), Rows H rs ws → Rows H (rs.set j n) (ws.set j hs)
  | _, _, _, .nil => .nil
  | _, _, 0, .cons a t => .cons hn t
  | _, _, j + 1, .cons a t => .cons a (t.set hn j)
theorem MkAt.setRow (h : MkAt C H a dx P c l rs es qs s) (s1 : Same H H1) {n : Addr} {hs : List Int} (j : Nat) (nn : H n = none) (hn : IL H1 n hs) :
    MkAt C (upd H1 P (.lst ((rs.map V.ref).set j (.ref n)))) a dx P c l (rs.set j n) es qs { s with ps := s.ps.set j hs } ∧ Step H (upd H1 P (.lst ((rs.map V.ref).set j (.ref n)))) (owns a P c l rs es qs) (owns a P c l (rs.set j n) es qs) := by
  have h1 := h.same s1
  have ne : ∀ x, owns a P c l rs es qs x → x ≠ n := fun x o z => h.has o (by rw [z]; exact nn)
  have nnP : n ≠ P := fun z => ne P (.inr (.inl rfl)) z.symm
  have kp : Keep H1 (upd H1 P (.lst ((rs.map V.ref).set j (.ref n)))) (fun x => x = P) := Keep.mut Keep.refl rfl
  have mem : ∀ r ∈ rs.set j n, r ∈ rs ∨ r = n := fun r hr => List.mem_or_eq_of_mem_set hr
  refine ⟨⟨kp _ _ h1.ins h1.ap, by rw [upd_same, List.map_set], ?_, kp _ _ h1.cur h.pc.symm, kp _ _ h1.lst h.pl.symm, h1.ents.keep (fun r hr o e => kp _ _ e (h1.ae r hr).2.1) (fun r hr o e => kp _ _ e (h1.qn r hr).1), h.pc, h.pl, h.cl, fun r hr => ?_, h.qn⟩, ?_, ?_, al_upd (al_same s1)⟩
  · exact Rows.set (kp _ _ hn nnP) j (h1.rows.keep fun r hr o e => kp _ _ e (h1.rn r hr).1)
  · rcases mem r hr with q | q
    · exact h.rn r q
    · rw [q]
      exact ⟨nnP, fun z => ne c (.inr (.inr (.inl rfl))) z.symm, fun z => ne l (.inr (.inr (.inr (.inl rfl)))) z.symm⟩
  · exact Keep.mut (Keep.of s1) (.inr (.inl rfl))
  · rintro x (e | e | e | e | e | e | e)
    · exact .inl (.inl e)
    · exact .inl (.inr (.inl e))
    · exact .inl (.inr (.inr (.inl e)))
    · exact .inl (.inr (.inr (.inr (.inl e))))
    · rcases mem x e with q | q
      · exact .inl (.inr (.inr (.inr (.inr (.inl q)))))
      · exact .inr (by rw [q]; exact nn)
    · exact .inl (.inr (.inr (.inr (.inr (.inr (.inl e))))))
    · exact .inl (.inr (.inr (.inr (.inr (.inr (.inr e))))))
theorem MkAt.setCur (h : MkAt C H a dx P c l rs es qs s) (j : Nat) (z : Int) :
    MkAt C (upd H c (.lst ((s.cur.map V.int).set j (.int z)))) a dx P c l rs es qs { s with cur := s.cur.set j z } ∧ Step H (upd H c (.lst ((s.cur.map V.int).set j (.int z)))) (owns a P c l rs es qs) (owns a P c l rs es qs) := by
  have kp : Keep H (upd H c (.lst ((s.cur.map V.int).set j (.int z)))) (fun x => x = c) := Keep.mut Keep.refl rfl
  refine ⟨⟨kp _ _ h.ins h.ac, kp _ _ h.prf h.pc, h.rows.keep fun r hr o e => kp _ _ e (h.rn r hr).2.1, upd_IL (by rw [List.map_set]), kp _ _ h.lst h.cl.symm, h.ents.keep (fun r hr o e => kp _ _ e (h.ae r hr).2.2.1) (fun r hr o e => kp _ _ e (h.qn r hr).2.1), h.pc, h.pl, h.cl, h.rn, h.qn⟩, Keep.mut Keep.refl (.inr (.inr (.inl rfl))), fun _ o => .inl o, al_upd fun _ n => n⟩
theorem Ents.snoc {H : Hp} {e q : Addr} {z : Int} {x : List Int} (h1 : H e = some (.tup [.int z, .ref q])) (h2 : IL H q x) : ∀ {es qs : List Addr} {l : List (Int × List Int)}, Ents H es qs l → Ents H (es ++ [e]) (qs ++ [q]) (l ++ [(z, x)])
  | _, _, _, .nil => .cons h1 h2 .nil
  | _, _, _, .cons a b t => .cons a b (t.snoc h1 h2)
theorem MkAt.addLot (h : MkAt C H a dx P c l rs es qs s) (s1 : Same H H1) {e q : Addr} {z : Int} {x : List Int} (ne : H e = none) (nq : H q = none) (he : H1 e = some (.tup [.int z, .ref q])) (hq : IL H1 q x) :
    MkAt C (upd H1 l (.lst (es.map V.ref ++ [.ref e]))) a dx P c l rs (es ++ [e]) (qs ++ [q]) { s with lot := s.lot ++ [(z, x)] } ∧ Step H (upd H1 l (.lst (es.map V.ref ++ [.ref e]))) (owns a P c l rs es qs) (owns a P c l rs (es ++ [e]) (qs ++ [q])) := by
  have h1 := h.same s1
  have nn : ∀ y, H y = none → ∀ x, owns a P c l rs es qs x → y ≠ x := fun y n x o z => h.has o (by rw [← z]; exact n)
  have kp : Keep H1 (upd H1 l (.lst (es.map V.ref ++ [.ref e]))) (fun x => x = l) := Keep.mut Keep.refl rfl
  have ol : owns a P c l rs es qs l := .inr (.inr (.inr (.inl rfl)))
  refine ⟨⟨kp _ _ h1.ins h1.al, kp _ _ h1.prf h.pl, h1.rows.keep fun r hr o e => kp _ _ e (h1.rn r hr).2.2, kp _ _ h1.cur h.cl, by rw [upd_same, List.map_append]; rfl, ?_, h.pc, h.pl, h.cl, h.rn, fun r hr => ?_⟩, ?_, ?_, al_upd (al_same s1)⟩
  · exact (h1.ents.keep (fun r hr o e => kp _ _ e (h1.ae r hr).2.2.2) (fun r hr o e => kp _ _ e (h1.qn r hr).2.2)).snoc (kp _ _ he (nn e ne l ol)) (kp _ _ hq (nn q nq l ol))
  · rcases List.mem_append.mp hr with y | y
    · exact h.qn r y
    · rw [List.mem_singleton.mp y]
      exact ⟨nn q nq P (.inr (.inl rfl)), nn q nq c (.inr (.inr (.inl rfl))), nn q nq l ol⟩
  · exact Keep.mut (Keep.of s1) ol
  · rintro y (e' | e' | e' | e' | e' | e' | e')
    · exact .inl (.inl e')
    · exact .inl (.inr (.inl e'))
    · exact .inl (.inr (.inr (.inl e')))
    · exact .inl (.inr (.inr (.inr (.inl e'))))
    · exact .inl (.inr (.inr (.inr (.inr (.inl e')))))
    · rcases List.mem_append.mp e' with z | z
      · exact .inl (.inr (.inr (.inr (.inr (.inr (.inl z))))))
      · exact .inr (by rw [List.mem_singleton.mp z]; exact ne)
    · rcases List.mem_append.mp e' with z | z
      · exact .inl (.inr (.inr (.inr (.inr (.inr (.inr z))))))
      · exact .inr (by rw [List.mem_singleton.mp z]; exact nq)
/-- what a changing call comes to -/
def Chg (C : Addr) (H : Hp) (a : Addr) (o : Addr → Prop) (s' : M) (ans : List Int) (Q : V → Hp → Prop) : Prop :=
  ∀ (H' : Hp) (q dx P c l : Addr) (rs es qs : List Addr), MkAt C H' a dx P c l rs es qs s' → Step H H' o (owns a P c l rs es qs) → H q = none → IL H' q ans → Q (.ref q) H'
theorem Chg.no {ans : List Int} {Q : V → Hp → Prop} (h : MkAt C H a dx P c l rs es qs s) (k : Chg C H a (owns a P c l rs es qs) s ans Q) : NewIL H ans Q :=
  fun H' q s1 nq hq => k H' q dx P c l rs es qs (h.same s1) (Step.same s1) nq hq
end
variable {P : Program} {w : World} {K : PySem.W.Frag} {mg : Str → Option Value} {base : Heap} {CM CD : Addr}
theorem ixN_of {n : Nat} {i : Int} (h0 : 0 ≤ i) (h : i.toNat < n) : ixN n i = some i.toNat := by
  unfold ixN
  rw [if_pos h0, if_pos (by omega)]
theorem rep_ints (n : Nat) (z : Int) : (List.replicate n [V.int z]).flatten = (List.replicate n z).map V.int := by
  induction n with
  | zero => rfl
  | succ n ih => rw [List.replicate_succ, List.flatten_cons, ih, List.replicate_succ]; rfl
/-- an answer of one number behind a change -/
theorem Chg.fin {C : Addr} {H H1 : Hp} {a dx P c l : Addr} {rs es qs : List Addr} {s' : M} {o : Addr → Prop} {z : Int} {Q : V → Hp → Prop} (k : Chg C H a o s' [z] Q) (h : MkAt C H1 a dx P c l rs es qs s') (st : Step H H1 o (owns a P c l rs es qs)) {p : Addr} (np : H1 p = none) : Q (.ref p) (upd H1 p (.lst [.int z])) :=
  k _ p dx P c l rs es qs (h.same (Same.up0 np)) (st.trans (Step.same (Same.up0 np))) (st.al p np) (upd_IL rfl)
def spSetPref (C : Addr) : Sp := fun vs H Q _ => ∃ (a q : Addr) (i : Int) (s : M) (hs : List Int) (dx P c l : Addr) (rs es qs : List Addr), vs = [.ref a, .int i, .ref q] ∧ MkAt C H a dx P c l rs es qs s ∧ OkM s ∧ IL H q hs ∧ hs.length ≤ 4000 ∧ ¬ owns a P c l rs es qs q ∧
  Chg C H a (owns a P c l rs es qs) (s.setPref i hs).2 (s.setPref i hs).1 Q
theorem ok_M_set_preferences {f : Addr} {fd : FuncData} (F : Fun K "set_preferences" "Market.set_preferences" s_M_set_preferences f fd) (T : Ty K mg CM CD) (D_M_has_applicant : Mn P w K mg base CM "has_applicant" 1 ["self", "i"] (spHas CM))
    (D_M_is_preference_list : Mn P w K mg base CM "is_preference_list" 1 ["self", "houses"] (spIsPref CM)) : FnOk P w K mg base CX0 2 f fd ["self", "i", "houses"] (spSetPref CM) := by
  refine F.ok sc_M_set_preferences (fun vs H Q E h => ?_) (fun cdv A outer s H vs Q E hr h => ?_)
  · obtain ⟨a, q, i, s, hs, dx, P, c, l, rs, es, qs, rfl, _⟩ := h
    rfl
  · obtain ⟨a, q, i, s, hs, dx, P, c, l, rs, es, qs, rfl, h, O, hq, hl, nown, k⟩ := h
    refine ⟨_, (pss_cons (ps_if (pt_not (pt_val (pe_me (pv 0) T.cl_M D_M_has_applicant (hr.mono (by decide)) (pa_cons (pv 1) pa_nil)))) (pss_one (ps_ret (pe_lst (pa_cons (pe_globI T.g_NOT_THERE) pa_nil)))) pss_nil)
      (pss_cons (ps_if (pt_not (pt_val (pe_me (pv 0) T.cl_M D_M_is_preference_list (hr.mono (by decide)) (pa_cons (pv 2) pa_nil)))) (pss_one (ps_ret (pe_lst (pa_cons (pe_globI T.g_NOT_ALLOWED) pa_nil)))) pss_nil)
      (pss_cons (ps_asg (pe_callTy call_list_of (by rfl) T.b_list (by decide +kernel) (pa_cons (pv 2) pa_nil)) (pg_sub (pe_fld (pv 0) rfl) (pv 1) set_list))
      (pss_cons (ps_fld (pv 0) (pe_op op_rep (pe_lst (pa_cons (pe_globI T.g_NO_HOUSE) pa_nil)) (pe_callB call_len_seq (by rfl) T.b_len PySem.boot_len (pa_cons (pe_fld (pv 0) rfl) pa_nil))) rfl)
      (pss_cons (ps_fld (pv 0) (pe_lst pa_nil) rfl)
      (pss_one (ps_ret (pe_lst (pa_cons (pe_callB call_len_seq (by rfl) T.b_len PySem.boot_len (pa_cons (pv 2) pa_nil)) pa_nil))))))))), ?_⟩
    have hn := h.rows.length
    unfold M.setPref at k
    refine ⟨_, rfl, a, dx, _, rfl, h.ins, mF_none, _, rfl, a, i, s, rfl, ⟨_, _, _, _, _, _, _, h⟩, _, rfl, ?_⟩
    refine ite2 (fun c1 => ?_) fun c1 => ?_
    · rw [if_pos (by simpa using c1)] at k
      exact ⟨(by show 1 ≤ sizeLine; decide), fun p np => Chg.no h k _ p (Same.up0 np) np (upd_IL rfl)⟩
    have c1 : s.has i = true := by simpa using c1
    rw [if_neg (by rw [c1]; simp)] at k
    obtain ⟨i0, i1⟩ := has_of c1
    refine ⟨_, rfl, a, dx, _, rfl, h.ins, mF_none, _, rfl, a, q, s, hs, rfl, ⟨_, _, _, _, _, _, _, h⟩, hq, hl, _, rfl, ?_⟩
    refine ite2 (fun c2 => ?_) fun c2 => ?_
    · rw [if_pos (by simpa using c2)] at k
      exact ⟨(by show 1 ≤ sizeLine; decide), fun p np => Chg.no h k _ p (Same.up0 np) np (upd_IL rfl)⟩
    have c2 : isPref s.tot hs = true := by simpa using c2
    rw [if_neg (by rw [c2]; simp)] at k
    -- self.preferences[i] = list(houses)
    refine ⟨_, rfl, q, _, rfl, .inl hq.sq, fun n nn => ?_⟩
    have s1 : Same H (upd H n (.lst (hs.map V.int))) := Same.up0 nn
    have h1 := h.same s1
    refine ⟨_, rfl, _, _, _, _, _, rfl, h1.ins, T.cl_M, T.n_M_preferences, mF_p _ _ _ _, _, rfl, P, _, i, i.toNat, rfl, rfl, h1.prf, ixN_of i0 (by rw [List.length_map, hn]; exact i1), ?_⟩
    obtain ⟨g1, st1⟩ := h.setRow s1 i.toNat nn (hs := hs) upd_same
    have hq1 : IL (upd (upd H n (.lst (hs.map V.int))) P (.lst ((rs.map V.ref).set i.toNat (.ref n)))) q hs := st1.kp _ _ hq nown
    generalize (upd (upd H n (.lst (hs.map V.int))) P (.lst ((rs.map V.ref).set i.toNat (.ref n)))) = H2 at g1 st1 hq1
    -- self.current = [NO_HOUSE] * len(self.preferences)
    refine ⟨(by show 1 ≤ sizeLine; decide), fun t nt => ?_⟩
    have g2 := g1.same (Same.up0 nt (o := .lst [.int (-1)]))
    have ln : (((rs.set i.toNat n).map V.ref).length : Int) = (s.ps.length : Int) := by rw [List.length_map, List.length_set, hn]
    have n5 := O.fine.small.n
    refine ⟨_, rfl, _, _, _, _, _, rfl, g2.ins, T.cl_M, T.n_M_preferences, mF_p _ _ _ _, P, _, rfl, .inl (SqL.of g2.prf), t, _, _, rfl, rfl, upd_same, ?_, ?_, ?_, fun c' nc' => ?_⟩
    · rw [ln]; omega
    · rw [ln]; omega
    · rw [ln]
      show 1 * (s.ps.length : Int).toNat ≤ sizeLine
      exact line_le (by omega)
    rw [ln]
    have s3 : Same H2 (upd (upd H2 t (.lst [.int (-1)])) c' (.lst (List.replicate (s.ps.length : Int).toNat [V.int (-1)]).flatten)) := (Same.up0 nt).up nc'
    have hc' : IL (upd (upd H2 t (.lst [.int (-1)])) c' (.lst (List.replicate (s.ps.length : Int).toNat [V.int (-1)]).flatten)) c' (List.replicate s.ps.length (-1)) := upd_IL (rep_ints _ _)
    have nc2 : H2 c' = none := (Same.up0 nt).free nc'
    generalize (upd (upd H2 t (.lst [.int (-1)])) c' (.lst (List.replicate (s.ps.length : Int).toNat [V.int (-1)]).flatten)) = H3 at s3 hc'
    obtain ⟨g3, st3⟩ := g1.newCur s3 nc2 hc'
    refine ⟨_, rfl, a, CM, dx, _, rfl, (g1.same s3).ins, T.cl_M, T.n_M_current, (by show 4 < 1000; decide), ?_⟩
    have st13 := st1.trans st3
    have hq3 := st13.kp _ _ hq nown
    dsimp only at g3 st13 hq3 ⊢
    generalize (upd H3 a (.ins CM dx (putF "current" (.ref c') (mF s.tot P c l)))) = H4 at g3 st3 st13 hq3 ⊢
    -- self.lottery = []
    refine ⟨Nat.zero_le _, fun l' nl' => ?_⟩
    obtain ⟨g4, st4⟩ := g3.newLot (Same.up0 nl') nl' upd_same
    refine ⟨_, rfl, a, CM, dx, _, rfl, (g3.same (Same.up0 nl')).ins, T.cl_M, T.n_M_lottery, (by show 4 < 1000; decide), ?_⟩
    have st := st13.trans st4
    have hq4 := st.kp _ _ hq nown
    dsimp only at g4 st hq4 ⊢
    generalize (upd (upd H4 l' (.lst [])) a (.ins CM dx (putF "lottery" (.ref l') (mF s.tot P c' l)))) = H5 at g4 st st4 hq4 ⊢
    refine ⟨_, rfl, q, _, rfl, .inl (SqL.of hq4), (by show 1 ≤ sizeLine; decide), fun p np => ?_⟩
    rw [List.length_map]
    exact k.fin g4 st np
def spAssign (C : Addr) : Sp := fun vs H Q _ => ∃ (a : Addr) (i z : Int) (s : M) (dx P c l : Addr) (rs es qs : List Addr), vs = [.ref a, .int i, .int z] ∧ MkAt C H a dx P c l rs es qs s ∧ OkM s ∧
  Chg C H a (owns a P c l rs es qs) (s.assign i z).2 (s.assign i z).1 Q
theorem ok_M_assign {f : Addr} {fd : FuncData} (F : Fun K "assign" "Market.assign" s_M_assign f fd) (T : Ty K mg CM CD) (D_M_has_applicant : Mn P w K mg base CM "has_applicant" 1 ["self", "i"] (spHas CM))
    (D_count_housed : Dn P w K mg base "count_housed" 1 ["assignment"] spCount) : FnOk P w K mg base CX0 2 f fd ["self", "i", "h"] (spAssign CM) := by
  refine F.ok sc_M_assign (fun vs H Q E h => ?_) (fun cdv A outer s H vs Q E hr h => ?_)
  · obtain ⟨a, i, z, s, dx, P, c, l, rs, es, qs, rfl, _⟩ := h
    rfl
  · obtain ⟨a, i, z, s, dx, P, c, l, rs, es, qs, rfl, h, O, k⟩ := h
    refine ⟨_, (pss_cons (ps_if (pt_not (pt_val (pe_me (pv 0) T.cl_M D_M_has_applicant (hr.mono (by decide)) (pa_cons (pv 1) pa_nil)))) (pss_one (ps_ret (pe_lst (pa_cons (pe_globI T.g_NOT_THERE) pa_nil)))) pss_nil)
      (pss_cons (ps_if (pt_cmpR op_notIn_seq (pv 2) (pe_ix ix_list (pe_fld (pv 0) rfl) (pv 1) (fun _ _ => rfl)) (by rfl)) (pss_one (ps_ret (pe_lst (pa_cons (pe_globI T.g_NOT_ALLOWED) pa_nil)))) pss_nil)
      (pss_cons (ps_if (PW.pt (pw_and (pt_cmpR op_in_seq (pv 2) (pe_fld (pv 0) rfl) (by rfl)) (pw_and1 (pt_cmpR op_ne (pe_ix ix_list (pe_fld (pv 0) rfl) (pv 1) (fun _ _ => rfl)) (pv 2) (nomark _))))) (pss_one (ps_ret (pe_lst (pa_cons (pe_globI T.g_TAKEN) pa_nil)))) pss_nil)
      (pss_cons (ps_asg (pv 2) (pg_sub (pe_fld (pv 0) rfl) (pv 1) set_list))
      (pss_one (ps_ret (pe_lst (pa_cons (pe_fn D_count_housed (hr.mono (by decide)) (pa_cons (pe_fld (pv 0) rfl) pa_nil)) pa_nil)))))))), ?_⟩
    have hn := h.rows.length
    unfold M.assign at k
    refine ⟨_, rfl, a, dx, _, rfl, h.ins, mF_none, _, rfl, a, i, s, rfl, ⟨_, _, _, _, _, _, _, h⟩, _, rfl, ?_⟩
    refine ite2 (fun c1 => ?_) fun c1 => ?_
    · rw [if_pos (by simpa using c1)] at k
      exact ⟨(by show 1 ≤ sizeLine; decide), fun p np => Chg.no h k _ p (Same.up0 np) np (upd_IL rfl)⟩
    have c1 : s.has i = true := by simpa using c1
    rw [if_neg (by rw [c1]; simp)] at k
    obtain ⟨i0, i1⟩ := has_of c1
    obtain ⟨r, er, hw⟩ := h.rows.get' (get_of_lt i1 [])
    refine ⟨_, rfl, _, rfl, _, _, _, _, _, rfl, h.ins, T.cl_M, T.n_M_preferences, mF_p _ _ _ _, _, rfl, P, _, _, _, rfl, rfl, SqL.of h.prf, ix_ref' i0 er, r, _, rfl, .inl hw.sq, rfl, flat_ints _, _, rfl, ?_⟩
    rw [inV_int]
    show (if (!(s.ps.getD i.toNat []).contains z) = true then _ else _)
    refine ite2 (fun c2 => ?_) fun c2 => ?_
    · rw [if_pos (by simpa using c2)] at k
      exact ⟨(by show 1 ≤ sizeLine; decide), fun p np => Chg.no h k _ p (Same.up0 np) np (upd_IL rfl)⟩
    have c2 : (s.ps.getD i.toNat []).contains z = true := by
      cases e : (s.ps.getD i.toNat []).contains z with
      | true => rfl
      | false => rw [e] at c2; exact absurd rfl c2
    rw [if_neg (by rw [c2]; simp)] at k
    have ci : i.toNat < s.cur.length := by rw [O.cur.1]; exact i1
    have go : ¬ (s.cur.contains z && s.cur.getD i.toNat 0 != z) = true → tSeq (tAsg (tVar 2) (gSub (tFld K (tVar 0) "current") (tVar 1) rSetL)) (tRet (tLst (tCons (tCall spCount [] E0 (tCons (tFld K (tVar 0) "current") tNil)) tNil))) { nx := fun _ H' => Q .non H', rt := Q } [some (.ref a), some (.int i), some (.int z)] H := fun c3 => by
      rw [if_neg c3] at k
      refine ⟨_, rfl, _, rfl, _, _, _, _, _, rfl, h.ins, T.cl_M, T.n_M_current, mF_c _ _ _ _, _, rfl, c, _, i, i.toNat, rfl, rfl, h.cur, ixN_of i0 (by rw [List.length_map]; exact ci), ?_⟩
      obtain ⟨g1, st1⟩ := h.setCur i.toNat z
      refine ⟨_, rfl, _, _, _, _, _, rfl, g1.ins, T.cl_M, T.n_M_current, mF_c _ _ _ _, c, _, rfl, g1.cur, (by show 1 ≤ sizeLine; decide), fun p np => ?_⟩
      exact k.fin g1 st1 np
    refine ⟨_, rfl, _, rfl, _, _, _, _, _, rfl, h.ins, T.cl_M, T.n_M_current, mF_c _ _ _ _, c, _, rfl, .inl h.cur.sq, rfl, flat_ints _, _, rfl, ?_⟩
    rw [inV_int]
    show (if s.cur.contains z = true then _ else _)
    refine ite2 (fun c3 => ?_) fun c3 => ?_
    · refine ⟨_, rfl, _, _, _, _, _, rfl, h.ins, T.cl_M, T.n_M_current, mF_c _ _ _ _, _, rfl, c, _, _, _, rfl, rfl, h.cur.sq, ix_int' i0 ci, _, rfl, rfl, _, rfl, ?_⟩
      rw [dI]
      refine ite2 (fun c4 => ?_) fun c4 => ?_
      · have c4 : s.cur.getD i.toNat 0 ≠ z := fun q => by rw [decide_eq_true q] at c4; cases c4
        rw [if_pos (by rw [c3, Bool.true_and]; simpa using c4)] at k
        exact ⟨(by show 1 ≤ sizeLine; decide), fun p np => Chg.no h k _ p (Same.up0 np) np (upd_IL rfl)⟩
      · have c4 : s.cur.getD i.toNat 0 = z := Decidable.byContradiction fun q => c4 (by rw [decide_eq_false q]; rfl)
        refine go ?_
        rw [c4]
        simp
    · refine iteF (go ?_)
      intro q
      rw [Bool.and_eq_true] at q
      exact c3 q.1
def spUnassign (C : Addr) : Sp := fun vs H Q _ => ∃ (a : Addr) (i : Int) (s : M) (dx P c l : Addr) (rs es qs : List Addr), vs = [.ref a, .int i] ∧ MkAt C H a dx P c l rs es qs s ∧ OkM s ∧
  Chg C H a (owns a P c l rs es qs) (s.unassign i).2 (s.unassign i).1 Q
theorem ok_M_unassign {f : Addr} {fd : FuncData} (F : Fun K "unassign" "Market.unassign" s_M_unassign f fd) (T : Ty K mg CM CD) (D_M_has_applicant : Mn P w K mg base CM "has_applicant" 1 ["self", "i"] (spHas CM)) : FnOk P w K mg base CX0 2 f fd ["self", "i"] (spUnassign CM) := by
  refine F.ok sc_M_unassign (fun vs H Q E h => ?_) (fun cdv A outer s H vs Q E hr h => ?_)
  · obtain ⟨a, i, s, dx, P, c, l, rs, es, qs, rfl, _⟩ := h
    rfl
  · obtain ⟨a, i, s, dx, P, c, l, rs, es, qs, rfl, h, O, k⟩ := h
    refine ⟨_, (pss_cons (ps_if (pt_not (pt_val (pe_me (pv 0) T.cl_M D_M_has_applicant (hr.mono (by decide)) (pa_cons (pv 1) pa_nil)))) (pss_one (ps_ret (pe_lst (pa_cons (pe_globI T.g_NOT_THERE) pa_nil)))) pss_nil)
      (pss_cons (ps_set (i := 2) sc_M_unassign.nd rfl (Or.inl rfl) (pe_ix ix_list (pe_fld (pv 0) rfl) (pv 1) (fun _ _ => rfl)))
      (pss_cons (ps_if (pt_cmpR op_eq (pv 2) (pe_globI T.g_NO_HOUSE) (nomark _)) (pss_one (ps_ret (pe_lst (pa_cons (pe_globI T.g_NOTHING_HELD) pa_nil)))) pss_nil)
      (pss_cons (ps_asg (pe_globI T.g_NO_HOUSE) (pg_sub (pe_fld (pv 0) rfl) (pv 1) set_list))
      (pss_one (ps_ret (pe_lst (pa_cons (pv 2) pa_nil)))))))), ?_⟩
    unfold M.unassign at k
    refine ⟨_, rfl, a, dx, _, rfl, h.ins, mF_none, _, rfl, a, i, s, rfl, ⟨_, _, _, _, _, _, _, h⟩, _, rfl, ?_⟩
    refine ite2 (fun c1 => ?_) fun c1 => ?_
    · rw [if_pos (by simpa using c1)] at k
      exact ⟨(by show 1 ≤ sizeLine; decide), fun p np => Chg.no h k _ p (Same.up0 np) np (upd_IL rfl)⟩
    have c1 : s.has i = true := by simpa using c1
    rw [if_neg (by rw [c1]; simp)] at k
    obtain ⟨i0, i1⟩ := has_of c1
    have ci : i.toNat < s.cur.length := by rw [O.cur.1]; exact i1
    refine ⟨_, rfl, _, _, _, _, _, rfl, h.ins, T.cl_M, T.n_M_current, mF_c _ _ _ _, _, rfl, c, _, _, _, rfl, rfl, h.cur.sq, ix_int' i0 ci, ?_⟩
    refine ⟨_, rfl, rfl, _, rfl, ?_⟩
    rw [dI]
    refine ite2 (fun c2 => ?_) fun c2 => ?_
    · rw [if_pos (of_decide_eq_true c2)] at k
      exact ⟨(by show 1 ≤ sizeLine; decide), fun p np => Chg.no h k _ p (Same.up0 np) np (upd_IL rfl)⟩
    rw [if_neg (fun z => c2 (decide_eq_true z))] at k
    refine ⟨_, rfl, _, _, _, _, _, rfl, h.ins, T.cl_M, T.n_M_current, mF_c _ _ _ _, _, rfl, c, _, i, i.toNat, rfl, rfl, h.cur, ixN_of i0 (by rw [List.length_map]; exact ci), ?_⟩
    obtain ⟨g1, st1⟩ := h.setCur i.toNat (-1)
    exact ⟨_, rfl, (by show 1 ≤ sizeLine; decide), fun p np => k.fin g1 st1 np⟩
def spSetAsg (C : Addr) : Sp := fun vs H Q _ => ∃ (a q : Addr) (s : M) (ns : List Int) (dx P c l : Addr) (rs es qs : List Addr), vs = [.ref a, .ref q] ∧ MkAt C H a dx P c l rs es qs s ∧ OkM s ∧ IL H q ns ∧ ns.length ≤ 4000 ∧
  Chg C H a (owns a P c l rs es qs) (s.setAsg ns).2 (s.setAsg ns).1 Q
theorem ok_M_set_assignment {f : Addr} {fd : FuncData} (F : Fun K "set_assignment" "Market.set_assignment" s_M_set_assignment f fd) (T : Ty K mg CM CD) (D_is_assignment : Dn P w K mg base "is_assignment" 1 ["preferences", "numbers"] spIsA)
    (D_count_housed : Dn P w K mg base "count_housed" 1 ["assignment"] spCount) : FnOk P w K mg base CX0 2 f fd ["self", "a"] (spSetAsg CM) := by
  refine F.ok sc_M_set_assignment (fun vs H Q E h => ?_) (fun cdv A outer s H vs Q E hr h => ?_)
  · obtain ⟨a, q, s, ns, dx, P, c, l, rs, es, qs, rfl, _⟩ := h
    rfl
  · obtain ⟨a, q, s, ns, dx, P, c, l, rs, es, qs, rfl, h, O, hq, hl, k⟩ := h
    refine ⟨_, (pss_cons (ps_if (pt_not (pt_val (pe_fn D_is_assignment (hr.mono (by decide)) (pa_cons (pe_fld (pv 0) rfl) (pa_cons (pv 1) pa_nil))))) (pss_one (ps_ret (pe_lst (pa_cons (pe_globI T.g_NOT_ALLOWED) pa_nil)))) pss_nil)
      (pss_cons (ps_fld (pv 0) (pe_callTy call_list_of (by rfl) T.b_list (by decide +kernel) (pa_cons (pv 1) pa_nil)) rfl)
      (pss_one (ps_ret (pe_lst (pa_cons (pe_fn D_count_housed (hr.mono (by decide)) (pa_cons (pe_fld (pv 0) rfl) pa_nil)) pa_nil)))))), ?_⟩
    unfold M.setAsg at k
    refine ⟨_, rfl, _, _, _, _, _, rfl, h.ins, T.cl_M, T.n_M_preferences, mF_p _ _ _ _, _, rfl, P, q, _, _, rfl, h.ll, hq, hl, fun H1 s1 => ⟨_, rfl, ?_⟩⟩
    refine ite2 (fun c1 => ?_) fun c1 => ?_
    · rw [if_pos (by simpa using c1)] at k
      exact ⟨(by show 1 ≤ sizeLine; decide), fun p np => Chg.no h k _ p (s1.up np) (s1.free np) (upd_IL rfl)⟩
    have c1 : isAsg s.ps ns = true := by simpa using c1
    rw [if_neg (by rw [c1]; simp)] at k
    refine ⟨_, rfl, q, _, rfl, .inl (hq.same s1).sq, fun c' nc' => ?_⟩
    have s2 : Same H (upd H1 c' (.lst (ns.map V.int))) := s1.up nc'
    obtain ⟨g1, st1⟩ := h.newCur s2 (s1.free nc') (cur' := ns) upd_same
    refine ⟨_, rfl, a, CM, dx, _, rfl, (h.same s2).ins, T.cl_M, T.n_M_current, (by show 4 < 1000; decide), ?_⟩
    exact ⟨_, rfl, _, _, _, _, _, rfl, g1.ins, T.cl_M, T.n_M_current, mF_c _ _ _ _, c', _, rfl, g1.cur, (by show 1 ≤ sizeLine; decide), fun p np => k.fin g1 st1 np⟩
def spUseFirst (C : Addr) : Sp := fun vs H Q _ => ∃ (a : Addr) (s : M) (dx P c l : Addr) (rs es qs : List Addr), vs = [.ref a] ∧ MkAt C H a dx P c l rs es qs s ∧ OkM s ∧ Chg C H a (owns a P c l rs es qs) s.useFirst.2 s.useFirst.1 Q
theorem ok_M_use_first_popular {f : Addr} {fd : FuncData} (F : Fun K "use_first_popular" "Market.use_first_popular" s_M_use_first_popular f fd) (T : Ty K mg CM CD) (D_popular_assignments : Dn P w K mg base "popular_assignments" 3 ["preferences"] spPopular)
    (D_count_housed : Dn P w K mg base "count_housed" 1 ["assignment"] spCount) : FnOk P w K mg base CX0 4 f fd ["self"] (spUseFirst CM) := by
  refine F.ok sc_M_use_first_popular (fun vs H Q E h => ?_) (fun cdv A outer s H vs Q E hr h => ?_)
  · obtain ⟨a, s, dx, P, c, l, rs, es, qs, rfl, _⟩ := h
    rfl
  · obtain ⟨a, s, dx, P, c, l, rs, es, qs, rfl, h, O, k⟩ := h
    refine ⟨_, (pss_cons (ps_set (i := 1) sc_M_use_first_popular.nd rfl (Or.inl rfl) (pe_fn D_popular_assignments (hr.mono (by decide)) (pa_cons (pe_fld (pv 0) rfl) pa_nil)))
      (pss_cons (ps_if (pt_not (pt_truth (pv 1) (by intro _; rfl))) (pss_one (ps_ret (pe_lst (pa_cons (pe_globI T.g_NONE_EXISTS) pa_nil)))) pss_nil)
      (pss_cons (ps_fld (pv 0) (pe_ix ix_list (pv 1) pe_int (fun _ _ => rfl)) rfl)
      (pss_one (ps_ret (pe_lst (pa_cons (pe_fn D_count_housed (hr.mono (by decide)) (pa_cons (pe_fld (pv 0) rfl) pa_nil)) pa_nil))))))), ?_⟩
    unfold M.useFirst at k
    refine ⟨_, rfl, _, _, _, _, _, rfl, h.ins, T.cl_M, T.n_M_preferences, mF_p _ _ _ _, P, s.ps, rfl, h.ll, O.fine.small, fun H1 q1 prs s1 nq1 hq1 nrs hR => ?_⟩
    refine ⟨_, rfl, !(prs.map V.ref).isEmpty, .inl ⟨_, SqL.of hq1, rfl⟩, ?_⟩
    generalize popular s.ps = ws at k hR
    cases hR with
    | nil =>
      exact iteT ⟨(by show 1 ≤ sizeLine; decide), fun p np => Chg.no h k _ p (s1.up np) (s1.free np) (upd_IL rfl)⟩
    | @cons r x rs' ws' hr' ht =>
      refine iteF ?_
      refine ⟨_, rfl, q1, _, 0, _, rfl, rfl, SqL.of hq1, at_of (j := 0) rfl rfl, ?_⟩
      obtain ⟨g1, st1⟩ := h.newCur s1 (nrs r (List.mem_cons_self ..)) hr'
      refine ⟨_, rfl, a, CM, dx, _, rfl, (h.same s1).ins, T.cl_M, T.n_M_current, (by show 4 < 1000; decide), ?_⟩
      exact ⟨_, rfl, _, _, _, _, _, rfl, g1.ins, T.cl_M, T.n_M_current, mF_c _ _ _ _, r, _, rfl, g1.cur, (by show 1 ≤ sizeLine; decide), fun p np => k.fin g1 st1 np⟩
def spAddLot (C : Addr) : Sp := fun vs H Q _ => ∃ (a : Addr) (z : Int) (s : M) (dx P c l : Addr) (rs es qs : List Addr), vs = [.ref a, .int z] ∧ MkAt C H a dx P c l rs es qs s ∧ OkM s ∧ Chg C H a (owns a P c l rs es qs) (s.addLot z).2 (s.addLot z).1 Q
theorem ok_M_add_to_lottery {f : Addr} {fd : FuncData} (F : Fun K "add_to_lottery" "Market.add_to_lottery" s_M_add_to_lottery f fd) (T : Ty K mg CM CD) (D_M_total_weight : Mn P w K mg base CM "total_weight" 1 ["self"] (spTotal CM)) : FnOk P w K mg base CX0 2 f fd ["self", "weight"] (spAddLot CM) := by
  refine F.ok sc_M_add_to_lottery (fun vs H Q E h => ?_) (fun cdv A outer s H vs Q E hr h => ?_)
  · obtain ⟨a, z, s, dx, P, c, l, rs, es, qs, rfl, _⟩ := h
    rfl
  · obtain ⟨a, z, s, dx, P, c, l, rs, es, qs, rfl, h, O, k⟩ := h
    refine ⟨_, (pss_cons (ps_if (pt_not (pt_chain op_le op_le pe_int (pv 1) (pe_globI T.g_GREATEST_WEIGHT))) (pss_one (ps_ret (pe_lst (pa_cons (pe_globI T.g_NOT_ALLOWED) pa_nil)))) pss_nil)
      (pss_cons (ps_if (pt_cmpR op_ge (pe_callB call_len_seq (by rfl) T.b_len PySem.boot_len (pa_cons (pe_fld (pv 0) rfl) pa_nil)) (pe_globI T.g_MOST_ENTRIES) (nomark _)) (pss_one (ps_ret (pe_lst (pa_cons (pe_globI T.g_LOTTERY_FULL) pa_nil)))) pss_nil)
      (pss_cons (ps_expr (pe_bm PySem.F.plainAttrs_list PySem.F.slot_list_append PySem.F.type_list_append mt_append (pe_fld (pv 0) rfl) (pa_cons (pe_tup (pa_cons (pv 1) (pa_cons (pe_callTy call_list_of (by rfl) T.b_list (by decide +kernel) (pa_cons (pe_fld (pv 0) rfl) pa_nil)) pa_nil))) pa_nil)))
      (pss_one (ps_ret (pe_lst (pa_cons (pe_me0 (pv 0) T.cl_M D_M_total_weight (hr.mono (by decide))) pa_nil))))))), ?_⟩
    have hn := h.ents.length
    unfold M.addLot at k
    have bad : (decide (1 ≤ z) && decide (z ≤ 99)) = false → tRet (tLst (tCons (tC (.int (-22))) tNil)) { nx := fun _ H' => Q .non H', rt := Q } [some (.ref a), some (.int z)] H := fun e => by
      rw [if_pos e] at k
      exact ⟨(by show 1 ≤ sizeLine; decide), fun p np => Chg.no h k _ p (Same.up0 np) np (upd_IL rfl)⟩
    refine ⟨_, rfl, _, _, rfl, rfl, _, rfl, ?_⟩
    refine ite2 (fun c1 => ?_) fun c1 => ?_
    · refine ⟨_, _, rfl, rfl, _, rfl, ?_⟩
      refine ite2 (fun c2 => ?_) fun c2 => ?_
      · refine bad ?_
        rw [c1, Bool.true_and]
        simpa using c2
      have c2 : decide (z ≤ 99) = true := by
        cases e : decide (z ≤ 99) with
        | true => rfl
        | false => rw [e] at c2; exact absurd rfl c2
      rw [if_neg (by rw [c1, c2]; simp)] at k
      refine ⟨_, rfl, _, _, _, _, _, rfl, h.ins, T.cl_M, T.n_M_lottery, mF_l _ _ _ _, l, _, rfl, .inl (SqL.of h.lst), _, _, rfl, rfl, _, rfl, ?_⟩
      rw [List.length_map, hn]
      refine ite2 (fun c3 => ?_) fun c3 => ?_
      · have c3 : 12 ≤ s.lot.length := by
          have := of_decide_eq_true c3; omega
        rw [if_pos c3] at k
        exact ⟨(by show 1 ≤ sizeLine; decide), fun p np => Chg.no h k _ p (Same.up0 np) np (upd_IL rfl)⟩
      have c3 : ¬ 12 ≤ s.lot.length := fun y => c3 (decide_eq_true (by omega))
      rw [if_neg c3] at k
      refine ⟨_, rfl, _, _, _, _, _, rfl, h.ins, T.cl_M, T.n_M_lottery, mF_l _ _ _ _, .inl ⟨rfl, _, SqL.of h.lst⟩, _, rfl, _, rfl, _, _, _, _, _, rfl, h.ins, T.cl_M, T.n_M_current, mF_c _ _ _ _, c, _, rfl, .inl h.cur.sq, fun q nq => ?_⟩
      have s1 : Same H (upd H q (.lst (s.cur.map V.int))) := Same.up0 nq
      refine ⟨(by show 2 ≤ sizeLine; decide), fun e ne => ?_⟩
      have s2 := s1.up ne (o := .tup [.int z, .ref q])
      have hq2 := (Same.up0 ne (o := .tup [.int z, .ref q])) _ _ (upd_same (H := H) (a := q) (o := .lst (s.cur.map V.int)))
      refine ⟨l, _, _, rfl, rfl, (h.same s2).lst, ?_, ?_⟩
      · rw [List.length_map, hn]
        exact line_lt (by omega)
      obtain ⟨g1, st1⟩ := h.addLot s2 (s1.free ne) nq upd_same hq2
      refine ⟨_, rfl, a, dx, _, rfl, g1.ins, mF_none, a, _, rfl, ⟨_, _, _, _, _, _, _, g1⟩, ?_, fun H3 s3 => ⟨(by show 1 ≤ sizeLine; decide), fun p np => ?_⟩⟩
      · show (s.lot ++ [(z, s.cur)]).length ≤ 1000
        rw [List.length_append]
        simp
        omega
      · exact k.fin (g1.same s3) (st1.trans (Step.same s3)) np
    · refine ⟨_, rfl, iteT (bad ?_)⟩
      have c1 : decide (1 ≤ z) = false := by simpa using c1
      rw [c1, Bool.false_and]
def spClear (C : Addr) : Sp := fun vs H Q _ => ∃ (a : Addr) (s : M) (dx P c l : Addr) (rs es qs : List Addr), vs = [.ref a] ∧ MkAt C H a dx P c l rs es qs s ∧ OkM s ∧ Chg C H a (owns a P c l rs es qs) s.clear.2 s.clear.1 Q
theorem ok_M_clear_lottery {f : Addr} {fd : FuncData} (F : Fun K "clear_lottery" "Market.clear_lottery" s_M_clear_lottery f fd) (T : Ty K mg CM CD) : FnOk P w K mg base CX0 1 f fd ["self"] (spClear CM) := by
  refine F.ok sc_M_clear_lottery (fun vs H Q E h => ?_) (fun cdv A outer s H vs Q E hr h => ?_)
  · obtain ⟨a, s, dx, P, c, l, rs, es, qs, rfl, _⟩ := h
    rfl
  · obtain ⟨a, s, dx, P, c, l, rs, es, qs, rfl, h, O, k⟩ := h
    refine ⟨_, (pss_cons (ps_set (i := 1) sc_M_clear_lottery.nd rfl (Or.inl rfl) (pe_callB call_len_seq (by rfl) T.b_len PySem.boot_len (pa_cons (pe_fld (pv 0) rfl) pa_nil)))
      (pss_cons (ps_fld (pv 0) (pe_lst pa_nil) rfl)
      (pss_one (ps_ret (pe_lst (pa_cons (pv 1) pa_nil)))))), ?_⟩
    have hn := h.ents.length
    refine ⟨_, rfl, _, _, _, _, _, rfl, h.ins, T.cl_M, T.n_M_lottery, mF_l _ _ _ _, l, _, rfl, .inl (SqL.of h.lst), ?_⟩
    rw [List.length_map, hn]
    refine ⟨Nat.zero_le _, fun l' nl' => ?_⟩
    obtain ⟨g1, st1⟩ := h.newLot (Same.up0 nl') nl' upd_same
    refine ⟨_, rfl, a, CM, dx, _, rfl, (h.same (Same.up0 nl')).ins, T.cl_M, T.n_M_lottery, (by show 4 < 1000; decide), ?_⟩
    exact ⟨_, rfl, (by show 1 ≤ sizeLine; decide), fun p np => k.fin g1 st1 np⟩
end Hl
/-! # R4. A new market; which call is which -/
namespace Hl
open PySem PySem.Spec PyProof.Rows L2
variable {P : Program} {w : World} {K : PySem.W.Frag} {mg : Str → Option Value} {base : Heap} {CM CD : Addr}
def te_M_init : TE := tLst tNil
theorem mF_new (tot : Int) (P c l : Addr) : putF "lottery" (.ref l) (putF "current" (.ref c) (putF "preferences" (.ref P) (putF "house_total" (.int tot) []))) = mF tot P c l := by
  have e1 : putF "preferences" (.ref P) (putF "house_total" (.int tot) []) = ([("house_total", .int tot), ("preferences", .ref P)] : List (Str × V)) := (put_past (by decide +kernel)).trans rfl
  have e2 : putF "current" (.ref c) ([("house_total", .int tot), ("preferences", .ref P)] : List (Str × V)) = ([("house_total", .int tot), ("preferences", .ref P), ("current", .ref c)] : List (Str × V)) := (put_past (by decide +kernel)).trans (congrArg _ ((put_past (by decide +kernel)).trans rfl))
  have e3 : putF "lottery" (.ref l) ([("house_total", .int tot), ("preferences", .ref P), ("current", .ref c)] : List (Str × V)) = mF tot P c l := (put_past (by decide +kernel)).trans (congrArg _ ((put_past (by decide +kernel)).trans (congrArg _ ((put_past (by decide +kernel)).trans rfl))))
  rw [e1, e2, e3]
theorem putF_len (f : Str) (v : V) : ∀ fs : List (Str × V), (putF f v fs).length ≤ fs.length + 1
  | [] => Nat.le_refl _
  | (g, x) :: r => by
    by_cases c : g = f
    · have e : putF f v ((g, x) :: r) = (g, v) :: r := if_pos c
      rw [e]; simp
    · have e : putF f v ((g, x) :: r) = (g, x) :: putF f v r := if_neg c
      rw [e, List.length_cons, List.length_cons]
      have := putF_len f v r
      omega
def spInitM (C : Addr) : Sp := fun vs H Q _ => ∃ (a dx : Addr) (n m : Int), vs = [.ref a, .int n, .int m] ∧ H a = some (.ins C dx []) ∧ 1 ≤ n ∧ n ≤ 5 ∧
  ∀ (H' : Hp) (P c l : Addr) (rs : List Addr), MkAt C H' a dx P c l rs [] [] (M.fresh n m) → Step H H' (fun x => x = a) (owns a P c l rs [] []) → Q .non H'
theorem ok_M_init {f : Addr} {fd : FuncData} (F : Fun K "__init__" "Market.__init__" s_M_init f fd) (T : Ty K mg CM CD) : FnOk P w K mg base CX0 1 f fd ["self", "n", "m"] (spInitM CM) := by
  refine F.ok sc_M_init (fun vs H Q E h => ?_) (fun cdv A outer s H vs Q E hr h => ?_)
  · obtain ⟨a, dx, n, m, rfl, _⟩ := h
    rfl
  · obtain ⟨a, dx, n, m, rfl, ha, n1, n5, k⟩ := h
    refine ⟨_, (pss_cons (ps_fld (pv 0) (pv 2) rfl)
      (pss_cons (ps_fld (pv 0) (pe_lc (own := [("applicant", 3)]) (g := (gName 3)) (tt := tYes) (te := te_M_init) rfl sc_M_init.nd (pi_range1 rfl T.b_range (pa_cons (pv 1) pa_nil)) (blkOk_by (own := [("applicant", 3)]) (N := ["self", "n", "m", "applicant"]) (sc := defScope s_M_init) (by decide +kernel)) (fun _ _ _ _ _ => (pg_name (i := 3) sc_M_init.nd rfl (Or.inl rfl))) (fun _ _ _ _ _ => pts_nil) (fun _ _ _ _ _ => (pe_lst pa_nil))) rfl)
      (pss_cons (ps_fld (pv 0) (pe_op op_rep (pe_lst (pa_cons (pe_globI T.g_NO_HOUSE) pa_nil)) (pv 1)) rfl)
      (pss_one (ps_fld (pv 0) (pe_lst pa_nil) rfl))))), ?_⟩
    -- self.house_total = m
    refine ⟨_, rfl, _, rfl, a, CM, dx, [], rfl, ha, T.cl_M, T.n_M_house_total, (by show 0 < 1000; decide), ?_⟩
    have k1 : Keep H (upd H a (.ins CM dx (putF "house_total" (.int m) []))) (fun x => x = a) := Keep.mut Keep.refl rfl
    have a1 : ∀ x, (upd H a (.ins CM dx (putF "house_total" (.int m) []))) x = none → H x = none := al_upd fun _ h => h
    have h1 : (upd H a (.ins CM dx (putF "house_total" (.int m) []))) a = some (.ins CM dx (putF "house_total" (.int m) [])) := upd_same
    generalize (upd H a (.ins CM dx (putF "house_total" (.int m) []))) = H1 at k1 a1 h1 ⊢
    -- self.preferences = [[] for applicant in range(n)]
    refine ⟨_, rfl, n, rfl, by omega, by omega, fun D nD => lc_range (lo := 0) (n := n.toNat) (fun i H' => Same H1 H' ∧ ∃ rs : List Addr, H' D = some (.lst (rs.map V.ref)) ∧ rs.length = i ∧ Rows H' rs (List.replicate i []) ∧ ∀ r ∈ rs, H1 r = none ∧ r ≠ D)
      ⟨Same.up0 nD, [], upd_same, rfl, .nil, fun r hr => absurd hr List.not_mem_nil⟩ ?_ ?_⟩
    · rintro i H' hi ⟨s1, rs, hD, hl, hR, hn⟩
      refine ⟨rfl, yes_ (iteT ⟨Nat.zero_le _, fun r nr => ?_⟩)⟩
      have ne : r ≠ D := fun z => by rw [z, hD] at nr; cases nr
      refine ⟨_, (Same.up0 nr) _ _ hD, ?_, (s1.up nr).set nD, rs ++ [r], by rw [upd_same, List.map_append]; rfl, by rw [List.length_append, hl]; rfl, ?_, fun x hx => ?_⟩
      · rw [List.length_map]
        exact line_lt (by omega)
      · rw [List.replicate_succ']
        refine Rows.snoc (show IL _ r [] from by show upd _ D _ r = _; rw [upd_ne ne, upd_same]; rfl) ?_
        refine hR.exc (l := D) (fun b o e hb => by rw [upd_ne hb]; exact (Same.up0 nr) _ _ e) fun x hx => (hn x hx).2
      · rcases List.mem_append.mp hx with q | q
        · exact hn x q
        · rw [List.mem_singleton.mp q]
          exact ⟨s1.free nr, ne⟩
    · rintro H2 ⟨s1, rs, hD, hl, hR, hn⟩
      have naD : a ≠ D := ne_of_none h1 nD
      refine ⟨_, rfl, a, CM, dx, _, rfl, s1 _ _ h1, T.cl_M, T.n_M_preferences, Nat.lt_of_le_of_lt (putF_len _ _ _) (by show 0 + 1 < 1000; decide), ?_⟩
      have k2 : Keep H (upd H2 a (.ins CM dx (putF "preferences" (.ref D) (putF "house_total" (.int m) [])))) (fun x => x = a) := (k1.then s1).mut rfl
      have a2 : ∀ x, (upd H2 a (.ins CM dx (putF "preferences" (.ref D) (putF "house_total" (.int m) [])))) x = none → H x = none := al_upd fun x h => a1 x (s1.free h)
      have h2 : (upd H2 a (.ins CM dx (putF "preferences" (.ref D) (putF "house_total" (.int m) [])))) a = some (.ins CM dx (putF "preferences" (.ref D) (putF "house_total" (.int m) []))) := upd_same
      have hD2 : (upd H2 a (.ins CM dx (putF "preferences" (.ref D) (putF "house_total" (.int m) [])))) D = some (.lst (rs.map V.ref)) := by rw [upd_ne naD.symm]; exact hD
      have nra : ∀ r ∈ rs, r ≠ a := fun r hr z => by
        have := (hn r hr).1
        rw [z, h1] at this; cases this
      have hR2 : Rows (upd H2 a (.ins CM dx (putF "preferences" (.ref D) (putF "house_total" (.int m) [])))) rs (List.replicate n.toNat []) := hR.exc (l := a) (fun b o e hb => by rw [upd_ne hb]; exact e) nra
      have nH : ∀ x, H1 x = none → H x = none := a1
      generalize (upd H2 a (.ins CM dx (putF "preferences" (.ref D) (putF "house_total" (.int m) [])))) = H3 at k2 a2 h2 hD2 hR2 ⊢
      -- self.current = [NO_HOUSE] * n
      refine ⟨(by show 1 ≤ sizeLine; decide), fun t nt => ⟨_, rfl, t, n, _, rfl, rfl, upd_same, by omega, by omega, ?_, fun c nc => ?_⟩⟩
      · show 1 * n.toNat ≤ sizeLine
        exact line_le (by omega)
      have s4 : Same H3 (upd (upd H3 t (.lst [.int (-1)])) c (.lst (List.replicate n.toNat [V.int (-1)]).flatten)) := (Same.up0 nt).up nc
      have hc4 : IL (upd (upd H3 t (.lst [.int (-1)])) c (.lst (List.replicate n.toNat [V.int (-1)]).flatten)) c (List.replicate n.toNat (-1)) := upd_IL (rep_ints _ _)
      have nc3 : H3 c = none := (Same.up0 nt).free nc
      generalize (upd (upd H3 t (.lst [.int (-1)])) c (.lst (List.replicate n.toNat [V.int (-1)]).flatten)) = H4 at s4 hc4 ⊢
      have nac : a ≠ c := ne_of_none h2 nc3
      have nDc : D ≠ c := ne_of_none hD2 nc3
      have nrc : ∀ r ∈ rs, r ≠ c := fun r hr z => by
        obtain ⟨x, e⟩ := hR2.at r hr
        rw [z, nc3] at e; cases e
      refine ⟨_, rfl, a, CM, dx, _, rfl, s4 _ _ h2, T.cl_M, T.n_M_current, Nat.lt_of_le_of_lt (putF_len _ _ _) (by have := putF_len "house_total" (V.int m) []; have l0 : ([] : List (Str × V)).length = 0 := rfl; omega), ?_⟩
      -- self.lottery = []
      refine ⟨Nat.zero_le _, fun l nl => ?_⟩
      have k5 := (((k2.then s4).mut rfl : Keep H (upd H4 a (.ins CM dx (putF "current" (.ref c) (putF "preferences" (.ref D) (putF "house_total" (.int m) []))))) (fun x => x = a)).new nl (o := .lst []))
      have k45 : Keep H4 (upd (upd H4 a (.ins CM dx (putF "current" (.ref c) (putF "preferences" (.ref D) (putF "house_total" (.int m) []))))) l (.lst [])) (fun x => x = a) := (Keep.mut (S := fun x => x = a) Keep.refl rfl).new nl
      have nl4 : H4 l = none := al_upd (fun _ h => h) l nl
      have a5 : ∀ x, (upd (upd H4 a (.ins CM dx (putF "current" (.ref c) (putF "preferences" (.ref D) (putF "house_total" (.int m) []))))) l (.lst [])) x = none → H x = none := al_upd (al_upd fun x h => a2 x (s4.free h))
      have nla : l ≠ a := fun z => by rw [z, s4 _ _ h2] at nl4; cases nl4
      have h5 : (upd (upd H4 a (.ins CM dx (putF "current" (.ref c) (putF "preferences" (.ref D) (putF "house_total" (.int m) []))))) l (.lst [])) a = some (.ins CM dx (putF "current" (.ref c) (putF "preferences" (.ref D) (putF "house_total" (.int m) [])))) := by rw [upd_ne nla.symm, upd_same]
      have hl5 : (upd (upd H4 a (.ins CM dx (putF "current" (.ref c) (putF "preferences" (.ref D) (putF "house_total" (.int m) []))))) l (.lst [])) l = some (.lst []) := upd_same
      generalize (upd (upd H4 a (.ins CM dx (putF "current" (.ref c) (putF "preferences" (.ref D) (putF "house_total" (.int m) []))))) l (.lst [])) = H5 at k5 k45 a5 h5 hl5 ⊢
      have few : (putF "current" (.ref c) (putF "preferences" (.ref D) (putF "house_total" (.int m) []))).length < 1000 := by
        have q1 := putF_len "house_total" (V.int m) []
        have q2 := putF_len "preferences" (V.ref D) (putF "house_total" (.int m) [])
        have q3 := putF_len "current" (V.ref c) (putF "preferences" (.ref D) (putF "house_total" (.int m) []))
        have l0 : ([] : List (Str × V)).length = 0 := rfl
        omega
      refine ⟨_, rfl, a, CM, dx, _, rfl, h5, T.cl_M, T.n_M_lottery, few, ?_⟩
      have kp : Keep H5 (upd H5 a (.ins CM dx (putF "lottery" (.ref l) (putF "current" (.ref c) (putF "preferences" (.ref D) (putF "house_total" (.int m) [])))))) (fun x => x = a) := Keep.mut Keep.refl rfl
      have k46 := k45.trans kp
      have nn : ∀ x o, H4 x = some o → x ≠ l := fun x o e z => by rw [z, nl4] at e; cases e
      refine k _ D c l rs ⟨by rw [upd_same, mF_new]; rfl, k46 _ _ (s4 _ _ hD2) naD.symm, (hR2.same s4).keep fun r hr o e => k46 _ _ e (nra r hr), k46 _ _ hc4 nac.symm, kp _ _ hl5 nla, .nil, nDc, nn _ _ (s4 _ _ hD2), nn _ _ hc4, fun r hr => ⟨(hn r hr).2, nrc r hr, ?_⟩, fun r hr => absurd hr List.not_mem_nil⟩ ⟨k5.mut rfl, ?_, al_upd a5⟩
      · obtain ⟨x, e⟩ := (hR2.same s4).at r hr
        exact nn _ _ e
      · rintro x (e | e | e | e | e | e | e)
        · exact .inl e
        · exact .inr (by rw [e]; exact a1 D nD)
        · exact .inr (by rw [e]; exact a2 c nc3)
        · exact .inr (by rw [e]; exact a2 l (s4.free nl4))
        · exact .inr (a1 x (hn x e).1)
        · cases e
        · cases e
/-! ### which call is which -/
theorem if_int {i j : Int} {A B : Prop} (h1 : i = j → A) (h2 : i ≠ j → B) : if decide (V.int i = V.int j) = true then A else B := by
  rw [dI]
  exact ite2 (fun c => h1 (of_decide_eq_true c)) fun c => h2 fun z => c (decide_eq_true z)
structure Calls (P : Program) (w : World) (K : PySem.W.Frag) (mg : Str → Option Value) (base : Heap) (CM : Addr) : Prop where
  c1 : Mn P w K mg base CM "set_preferences" 2 ["self", "i", "houses"] (spSetPref CM)
  c2 : Mn P w K mg base CM "assign" 2 ["self", "i", "h"] (spAssign CM)
  c3 : Mn P w K mg base CM "unassign" 2 ["self", "i"] (spUnassign CM)
  c4 : Mn P w K mg base CM "set_assignment" 2 ["self", "a"] (spSetAsg CM)
  c12 : Mn P w K mg base CM "use_first_popular" 4 ["self"] (spUseFirst CM)
  c15 : Mn P w K mg base CM "add_to_lottery" 2 ["self", "weight"] (spAddLot CM)
  c17 : Mn P w K mg base CM "clear_lottery" 1 ["self"] (spClear CM)
  c5 : Mn P w K mg base CM "assignment" 2 ["self"] (spAssignment CM)
  c6 : Mn P w K mg base CM "compare" 4 ["self", "a"] (spCompare CM)
  c7 : Mn P w K mg base CM "is_popular" 5 ["self"] (spIsPop CM)
  c8 : Mn P w K mg base CM "strongest_challenger" 5 ["self"] (spStrongest CM)
  c9 : Mn P w K mg base CM "unpopularity_factor" 5 ["self"] (spUnpop CM)
  c10 : Mn P w K mg base CM "count_assignments" 4 ["self"] (spCountAsg CM)
  c11 : Mn P w K mg base CM "popular_assignment" 4 ["self", "k"] (spPopAsg CM)
  c13 : Mn P w K mg base CM "choices" 3 ["self", "i"] (spChoices CM)
  c14 : Mn P w K mg base CM "check_characterization" 4 ["self"] (spCheck CM)
  c16 : Mn P w K mg base CM "evaluate_lottery" 5 ["self"] (spEval CM)
  c18 : Mn P w K mg base CM "describe" 1 ["self"] (spDescribe CM)
def spChange (C : Addr) : Sp := fun vs H Q _ => ∃ (a nm ro : Addr) (z : Int) (s : M) (ns row : List Int) (dx P c l : Addr) (rs es qs : List Addr), vs = [.ref a, .int z, .ref nm, .ref ro] ∧ MkAt C H a dx P c l rs es qs s ∧ OkM s ∧ IL H nm ns ∧ IL H ro row ∧ row.length ≤ 4000 ∧
  ¬ owns a P c l rs es qs ro ∧ ((z = 1 ∨ z = 2 ∨ z = 3 ∨ z = 15) → 0 < ns.length) ∧ (z = 2 → 1 < ns.length) ∧ Chg C H a (owns a P c l rs es qs) (s.change z ns row).2 (s.change z ns row).1 Q
theorem ix0 {ns : List Int} (h : 0 < ns.length) : atI (ns.map V.int) 0 = some (V.int (ns.getD 0 0)) := ix_int (i := 0) h
theorem ix1 {ns : List Int} (h : 1 < ns.length) : atI (ns.map V.int) 1 = some (V.int (ns.getD 1 0)) := ix_int (i := 1) h
theorem ok_change {f : Addr} {fd : FuncData} (F : Fun K "change" "change" s_change f fd) (T : Ty K mg CM CD) (cs : Calls P w K mg base CM) : FnOk P w K mg base CX0 5 f fd ["market", "call", "numbers", "row"] (spChange CM) := by
  obtain ⟨D_M_set_preferences, D_M_assign, D_M_unassign, D_M_set_assignment, D_M_use_first_popular, D_M_add_to_lottery, D_M_clear_lottery, _⟩ := cs
  refine F.ok sc_change (fun vs H Q E h => ?_) (fun cdv A outer s H vs Q E hr h => ?_)
  · obtain ⟨a, nm, ro, z, s, ns, row, dx, P, c, l, rs, es, qs, rfl, _⟩ := h
    rfl
  · obtain ⟨a, nm, ro, z, s, ns, row, dx, P, c, l, rs, es, qs, rfl, h, O, hn, hw, hwl, now, z0, z1, k⟩ := h
    refine ⟨_, (pss_cons (ps_if (pt_cmpR op_eq (pv 1) pe_int (nomark _)) (pss_one (ps_ret (pe_me (pv 0) T.cl_M D_M_set_preferences (hr.mono (by decide)) (pa_cons (pe_ix ix_list (pv 2) pe_int (fun _ _ => rfl)) (pa_cons (pv 3) pa_nil))))) pss_nil)
      (pss_cons (ps_if (pt_cmpR op_eq (pv 1) pe_int (nomark _)) (pss_one (ps_ret (pe_me (pv 0) T.cl_M D_M_assign (hr.mono (by decide)) (pa_cons (pe_ix ix_list (pv 2) pe_int (fun _ _ => rfl)) (pa_cons (pe_ix ix_list (pv 2) pe_int (fun _ _ => rfl)) pa_nil))))) pss_nil)
      (pss_cons (ps_if (pt_cmpR op_eq (pv 1) pe_int (nomark _)) (pss_one (ps_ret (pe_me (pv 0) T.cl_M D_M_unassign (hr.mono (by decide)) (pa_cons (pe_ix ix_list (pv 2) pe_int (fun _ _ => rfl)) pa_nil)))) pss_nil)
      (pss_cons (ps_if (pt_cmpR op_eq (pv 1) pe_int (nomark _)) (pss_one (ps_ret (pe_me (pv 0) T.cl_M D_M_set_assignment (hr.mono (by decide)) (pa_cons (pv 3) pa_nil)))) pss_nil)
      (pss_cons (ps_if (pt_cmpR op_eq (pv 1) pe_int (nomark _)) (pss_one (ps_ret (pe_me0 (pv 0) T.cl_M D_M_use_first_popular (hr.mono (by decide))))) pss_nil)
      (pss_cons (ps_if (pt_cmpR op_eq (pv 1) pe_int (nomark _)) (pss_one (ps_ret (pe_me (pv 0) T.cl_M D_M_add_to_lottery (hr.mono (by decide)) (pa_cons (pe_ix ix_list (pv 2) pe_int (fun _ _ => rfl)) pa_nil)))) pss_nil)
      (pss_one (ps_ret (pe_me0 (pv 0) T.cl_M D_M_clear_lottery (hr.mono (by decide))))))))))), ?_⟩
    unfold M.change at k
    refine ⟨_, rfl, rfl, _, rfl, if_int (fun e => ?_) fun e1 => ?_⟩
    · rw [if_pos e] at k
      exact ⟨_, rfl, a, dx, _, rfl, h.ins, mF_none, _, rfl, nm, _, _, _, rfl, rfl, hn.sq, ix0 (z0 (.inl e)), _, rfl, a, ro, _, s, row, _, _, _, _, _, _, _, rfl, h, O, hw, hwl, now, k⟩
    rw [if_neg e1] at k
    refine ⟨_, rfl, rfl, _, rfl, if_int (fun e => ?_) fun e2 => ?_⟩
    · rw [if_pos e] at k
      exact ⟨_, rfl, a, dx, _, rfl, h.ins, mF_none, _, rfl, nm, _, _, _, rfl, rfl, hn.sq, ix0 (z0 (.inr (.inl e))), _, rfl, nm, _, _, _, rfl, rfl, hn.sq, ix1 (z1 e), a, _, _, s, _, _, _, _, _, _, _, rfl, h, O, k⟩
    rw [if_neg e2] at k
    refine ⟨_, rfl, rfl, _, rfl, if_int (fun e => ?_) fun e3 => ?_⟩
    · rw [if_pos e] at k
      exact ⟨_, rfl, a, dx, _, rfl, h.ins, mF_none, _, rfl, nm, _, _, _, rfl, rfl, hn.sq, ix0 (z0 (.inr (.inr (.inl e)))), a, _, s, _, _, _, _, _, _, _, rfl, h, O, k⟩
    rw [if_neg e3] at k
    refine ⟨_, rfl, rfl, _, rfl, if_int (fun e => ?_) fun e4 => ?_⟩
    · rw [if_pos e] at k
      exact ⟨_, rfl, a, dx, _, rfl, h.ins, mF_none, _, rfl, a, ro, s, row, _, _, _, _, _, _, _, rfl, h, O, hw, hwl, k⟩
    rw [if_neg e4] at k
    refine ⟨_, rfl, rfl, _, rfl, if_int (fun e => ?_) fun e12 => ?_⟩
    · rw [if_pos e] at k
      exact ⟨_, rfl, a, dx, _, rfl, h.ins, mF_none, a, s, _, _, _, _, _, _, _, rfl, h, O, k⟩
    rw [if_neg e12] at k
    refine ⟨_, rfl, rfl, _, rfl, if_int (fun e => ?_) fun e15 => ?_⟩
    · rw [if_pos e] at k
      exact ⟨_, rfl, a, dx, _, rfl, h.ins, mF_none, _, rfl, nm, _, _, _, rfl, rfl, hn.sq, ix0 (z0 (.inr (.inr (.inr e)))), a, _, s, _, _, _, _, _, _, _, rfl, h, O, k⟩
    rw [if_neg e15] at k
    exact ⟨_, rfl, a, dx, _, rfl, h.ins, mF_none, a, s, _, _, _, _, _, _, _, rfl, h, O, k⟩
def spAsk (C : Addr) : Sp := fun vs H Q _ => ∃ (a nm ro : Addr) (z : Int) (s : M) (ns row : List Int), vs = [.ref a, .int z, .ref nm, .ref ro] ∧ Mkt C H a s ∧ OkM s ∧ IL H nm ns ∧ IL H ro row ∧ row.length ≤ 4000 ∧ ((z = 11 ∨ z = 13) → 0 < ns.length) ∧ NewIL H (s.ask z ns row) Q
theorem ok_ask {f : Addr} {fd : FuncData} (F : Fun K "ask" "ask" s_ask f fd) (T : Ty K mg CM CD) (cs : Calls P w K mg base CM) : FnOk P w K mg base CX0 6 f fd ["market", "call", "numbers", "row"] (spAsk CM) := by
  obtain ⟨_, _, _, _, _, _, _, D_M_assignment, D_M_compare, D_M_is_popular, D_M_strongest_challenger, D_M_unpopularity_factor, D_M_count_assignments, D_M_popular_assignment, D_M_choices, D_M_check_characterization, D_M_evaluate_lottery, D_M_describe⟩ := cs
  refine F.ok sc_ask (fun vs H Q E h => ?_) (fun cdv A outer s H vs Q E hr h => ?_)
  · obtain ⟨a, nm, ro, z, s, ns, row, rfl, _⟩ := h
    rfl
  · obtain ⟨a, nm, ro, z, s, ns, row, rfl, hM, O, hn, hw, hwl, z0, k⟩ := h
    have hM' := hM
    obtain ⟨dx, P, c, l, rs, es, qs, h⟩ := hM'
    refine ⟨_, (pss_cons (ps_if (pt_cmpR op_eq (pv 1) pe_int (nomark _)) (pss_one (ps_ret (pe_me0 (pv 0) T.cl_M D_M_assignment (hr.mono (by decide))))) pss_nil)
      (pss_cons (ps_if (pt_cmpR op_eq (pv 1) pe_int (nomark _)) (pss_one (ps_ret (pe_me (pv 0) T.cl_M D_M_compare (hr.mono (by decide)) (pa_cons (pv 3) pa_nil)))) pss_nil)
      (pss_cons (ps_if (pt_cmpR op_eq (pv 1) pe_int (nomark _)) (pss_one (ps_ret (pe_me0 (pv 0) T.cl_M D_M_is_popular (hr.mono (by decide))))) pss_nil)
      (pss_cons (ps_if (pt_cmpR op_eq (pv 1) pe_int (nomark _)) (pss_one (ps_ret (pe_me0 (pv 0) T.cl_M D_M_strongest_challenger (hr.mono (by decide))))) pss_nil)
      (pss_cons (ps_if (pt_cmpR op_eq (pv 1) pe_int (nomark _)) (pss_one (ps_ret (pe_me0 (pv 0) T.cl_M D_M_unpopularity_factor (hr.mono (by decide))))) pss_nil)
      (pss_cons (ps_if (pt_cmpR op_eq (pv 1) pe_int (nomark _)) (pss_one (ps_ret (pe_me0 (pv 0) T.cl_M D_M_count_assignments (hr.mono (by decide))))) pss_nil)
      (pss_cons (ps_if (pt_cmpR op_eq (pv 1) pe_int (nomark _)) (pss_one (ps_ret (pe_me (pv 0) T.cl_M D_M_popular_assignment (hr.mono (by decide)) (pa_cons (pe_ix ix_list (pv 2) pe_int (fun _ _ => rfl)) pa_nil)))) pss_nil)
      (pss_cons (ps_if (pt_cmpR op_eq (pv 1) pe_int (nomark _)) (pss_one (ps_ret (pe_me (pv 0) T.cl_M D_M_choices (hr.mono (by decide)) (pa_cons (pe_ix ix_list (pv 2) pe_int (fun _ _ => rfl)) pa_nil)))) pss_nil)
      (pss_cons (ps_if (pt_cmpR op_eq (pv 1) pe_int (nomark _)) (pss_one (ps_ret (pe_me0 (pv 0) T.cl_M D_M_check_characterization (hr.mono (by decide))))) pss_nil)
      (pss_cons (ps_if (pt_cmpR op_eq (pv 1) pe_int (nomark _)) (pss_one (ps_ret (pe_me0 (pv 0) T.cl_M D_M_evaluate_lottery (hr.mono (by decide))))) pss_nil)
      (pss_one (ps_ret (pe_me0 (pv 0) T.cl_M D_M_describe (hr.mono (by decide))))))))))))))), ?_⟩
    unfold M.ask at k
    refine ⟨_, rfl, rfl, _, rfl, if_int (fun e => ?_) fun e5 => ?_⟩
    · rw [if_pos e] at k
      exact ⟨_, rfl, a, dx, _, rfl, h.ins, mF_none, a, s, rfl, hM, O, k⟩
    rw [if_neg e5] at k
    refine ⟨_, rfl, rfl, _, rfl, if_int (fun e => ?_) fun e6 => ?_⟩
    · rw [if_pos e] at k
      exact ⟨_, rfl, a, dx, _, rfl, h.ins, mF_none, _, rfl, a, ro, s, row, rfl, hM, O, hw, hwl, k⟩
    rw [if_neg e6] at k
    refine ⟨_, rfl, rfl, _, rfl, if_int (fun e => ?_) fun e7 => ?_⟩
    · rw [if_pos e] at k
      exact ⟨_, rfl, a, dx, _, rfl, h.ins, mF_none, a, s, rfl, hM, O, k⟩
    rw [if_neg e7] at k
    refine ⟨_, rfl, rfl, _, rfl, if_int (fun e => ?_) fun e8 => ?_⟩
    · rw [if_pos e] at k
      exact ⟨_, rfl, a, dx, _, rfl, h.ins, mF_none, a, s, rfl, hM, O, k⟩
    rw [if_neg e8] at k
    refine ⟨_, rfl, rfl, _, rfl, if_int (fun e => ?_) fun e9 => ?_⟩
    · rw [if_pos e] at k
      exact ⟨_, rfl, a, dx, _, rfl, h.ins, mF_none, a, s, rfl, hM, O, k⟩
    rw [if_neg e9] at k
    refine ⟨_, rfl, rfl, _, rfl, if_int (fun e => ?_) fun e10 => ?_⟩
    · rw [if_pos e] at k
      exact ⟨_, rfl, a, dx, _, rfl, h.ins, mF_none, a, s, rfl, hM, O, k⟩
    rw [if_neg e10] at k
    refine ⟨_, rfl, rfl, _, rfl, if_int (fun e => ?_) fun e11 => ?_⟩
    · rw [if_pos e] at k
      exact ⟨_, rfl, a, dx, _, rfl, h.ins, mF_none, _, rfl, nm, _, _, _, rfl, rfl, hn.sq, ix0 (z0 (.inl e)), a, _, s, rfl, hM, O, k⟩
    rw [if_neg e11] at k
    refine ⟨_, rfl, rfl, _, rfl, if_int (fun e => ?_) fun e13 => ?_⟩
    · rw [if_pos e] at k
      exact ⟨_, rfl, a, dx, _, rfl, h.ins, mF_none, _, rfl, nm, _, _, _, rfl, rfl, hn.sq, ix0 (z0 (.inr e)), a, _, s, rfl, hM, O, k⟩
    rw [if_neg e13] at k
    refine ⟨_, rfl, rfl, _, rfl, if_int (fun e => ?_) fun e14 => ?_⟩
    · rw [if_pos e] at k
      exact ⟨_, rfl, a, dx, _, rfl, h.ins, mF_none, a, s, rfl, hM, O, k⟩
    rw [if_neg e14] at k
    refine ⟨_, rfl, rfl, _, rfl, if_int (fun e => ?_) fun e16 => ?_⟩
    · rw [if_pos e] at k
      exact ⟨_, rfl, a, dx, _, rfl, h.ins, mF_none, a, s, rfl, hM, O, k⟩
    rw [if_neg e16] at k
    exact ⟨_, rfl, a, dx, _, rfl, h.ins, mF_none, a, s, rfl, hM, O, k⟩
end Hl
/-! # R5. The desk -/
namespace Hl
open PySem PySem.Spec PyProof.Rows L2
variable {P : Program} {w : World} {K : PySem.W.Frag} {mg : Str → Option Value} {base : Heap} {CM CD : Addr}
def dF (v : V) : List (Str × V) := [("market", v)]
theorem dF_get (v : V) : (dF v).lookup ("market" : Str) = some v := lk_here
theorem dF_put (v u : V) : putF "market" u (dF v) = dF u := put_here
theorem dF_none {m : Str} {v : V} (h : (m == "market") = false := by decide +kernel) : (dF v).lookup m = none := (lk_past h).trans rfl
inductive DeskAt (CM CD : Addr) (H : Hp) (D dD : Addr) : Option M → (Addr → Prop) → Prop
  | none : H D = some (.ins CD dD (dF .non)) → DeskAt CM CD H D dD none (fun x => x = D)
  | some {a dx P c l : Addr} {rs es qs : List Addr} {s : M} : H D = some (.ins CD dD (dF (.ref a))) → MkAt CM H a dx P c l rs es qs s → DeskAt CM CD H D dD (some s) (fun x => x = D ∨ owns a P c l rs es qs x)
theorem not_own {H : Hp} {D dD a dx P c l : Addr} {rs es qs : List Addr} {s : M} {v : V} (hD : H D = some (.ins CD dD (dF v))) (h : MkAt CM H a dx P c l rs es qs s) : ¬ owns a P c l rs es qs D := by
  rintro (e | e | e | e | e | e | e)
  · rw [e, h.ins] at hD
    have := Option.some.inj hD
    injection this with _ _ e3
    have := congrArg List.length e3
    cases this
  · rw [e, h.prf] at hD; cases hD
  · rw [e, h.cur] at hD; cases hD
  · rw [e, h.lst] at hD; cases hD
  · obtain ⟨x, q⟩ := h.rows.at D e
    rw [q] at hD; cases hD
  · obtain ⟨x, q⟩ := h.ents.at.1 D e
    rw [q] at hD; cases hD
  · obtain ⟨x, q⟩ := h.ents.at.2 D e
    rw [q] at hD; cases hD
theorem DeskAt.own {H : Hp} {D dD : Addr} {o : Option M} {own : Addr → Prop} (h : DeskAt CM CD H D dD o own) : own D := by
  cases h with
  | none _ => exact rfl
  | some _ _ => exact .inl rfl
theorem DeskAt.fld {H : Hp} {D dD : Addr} {o : Option M} {own : Addr → Prop} (h : DeskAt CM CD H D dD o own) : ∃ v, H D = Option.some (.ins CD dD (dF v)) := by
  cases h with
  | none e => exact ⟨_, e⟩
  | some e _ => exact ⟨_, e⟩
theorem DeskAt.keep {H H' : Hp} {S : Addr → Prop} {D dD : Addr} {o : Option M} {own : Addr → Prop} (h : DeskAt CM CD H D dD o own) (k : Keep H H' S) (hs : ∀ x, own x → ¬ S x) : DeskAt CM CD H' D dD o own := by
  cases h with
  | none e => exact .none (k _ _ e (hs D rfl))
  | some e m => exact .some (k _ _ e (hs D (.inl rfl))) (m.keep k fun x hx => hs x (.inr hx))
def DGo (CM CD : Addr) (H : Hp) (D dD : Addr) (own : Addr → Prop) (o' : Option M) (ans : List Int) (Q : V → Hp → Prop) : Prop :=
  ∀ (H' : Hp) (q : Addr) (own' : Addr → Prop), DeskAt CM CD H' D dD o' own' → Step H H' own own' → H q = none → IL H' q ans → Q (.ref q) H'
theorem DGo.no {H : Hp} {D dD : Addr} {o : Option M} {own : Addr → Prop} {ans : List Int} {Q : V → Hp → Prop} (h : DeskAt CM CD H D dD o own) (k : DGo CM CD H D dD own o ans Q) : NewIL H ans Q :=
  fun H' q s nq hq => k H' q own (h.keep (S := fun _ => False) (Keep.of s) fun _ _ z => z) (Step.same s) nq hq
/-! ### Desk.__init__ -/
def spInitD (C : Addr) : Sp := fun vs H Q _ => ∃ (a dx : Addr), vs = [.ref a] ∧ H a = some (.ins C dx []) ∧ Q .non (upd H a (.ins C dx (dF .non)))
theorem ok_D_init {f : Addr} {fd : FuncData} (F : Fun K "__init__" "Desk.__init__" s_D_init f fd) (T : Ty K mg CM CD) : FnOk P w K mg base CX0 1 f fd ["self"] (spInitD CD) := by
  refine F.ok sc_D_init (fun vs H Q E h => ?_) (fun cdv A outer s H vs Q E hr h => ?_)
  · obtain ⟨a, dx, rfl, _⟩ := h
    rfl
  · obtain ⟨a, dx, rfl, ha, k⟩ := h
    refine ⟨_, (pss_one (ps_fld (pv 0) pe_non rfl)), ?_⟩
    exact ⟨_, rfl, a, CD, dx, [], rfl, ha, T.cl_D, T.n_D_market, (by show 0 < 1000; decide), k⟩
theorem nb {b : Bool} (h : (!b) = true) : b = false := by
  cases b
  · rfl
  · cases h
/-! ### create -/
theorem chain5 {σ : L2.St} {H : Hp} {Q : Bool → Hp → Prop} {i : Nat} {z lo hi : Int} (e : σ[i]? = some (some (.int z))) (q : Q (decide (lo ≤ z) && decide (z ≤ hi)) H) :
    tTest (tChain (rI0 fun i j => .bl (decide (i ≤ j))) (rI0 fun i j => .bl (decide (i ≤ j))) (tC (.int lo)) (tVar i) (tC (.int hi))) σ H Q := by
  refine ⟨_, e, _, _, rfl, rfl, _, rfl, ?_⟩
  refine ite2 (fun c => ?_) fun c => ?_
  · rw [c, Bool.true_and] at q
    exact ⟨_, _, rfl, rfl, _, rfl, q⟩
  · have c : decide (lo ≤ z) = false := by simpa using c
    rw [c, Bool.false_and] at q
    exact ⟨_, rfl, q⟩
def spCreate (CM CD : Addr) : Sp := fun vs H Q _ => ∃ (D dD : Addr) (n m : Int) (o : Option M) (own : Addr → Prop), vs = [.ref D, .int n, .int m] ∧ DeskAt CM CD H D dD o own ∧ DGo CM CD H D dD own (create o n m).2 (create o n m).1 Q
theorem ok_D_create {f : Addr} {fd : FuncData} (F : Fun K "create" "Desk.create" s_D_create f fd) (T : Ty K mg CM CD) (D_Market : Cn P w K mg base "Market" CM 1 ["self", "n", "m"] (spInitM CM)) : FnOk P w K mg base CX0 3 f fd ["self", "n", "m"] (spCreate CM CD) := by
  refine F.ok sc_D_create (fun vs H Q E h => ?_) (fun cdv A outer s H vs Q E hr h => ?_)
  · obtain ⟨D, dD, n, m, o, own, rfl, _⟩ := h
    rfl
  · obtain ⟨D, dD, n, m, o, own, rfl, h, k⟩ := h
    refine ⟨_, (pss_cons (ps_if (PW.pt (pw_or (pt_not (pt_chain op_le op_le pe_int (pv 1) (pe_globI T.g_GREATEST_SIZE))) (pw_or1 (pt_not (pt_chain op_le op_le pe_int (pv 2) (pe_globI T.g_GREATEST_SIZE)))))) (pss_one (ps_ret (pe_lst (pa_cons (pe_globI T.g_NOT_ALLOWED) pa_nil)))) pss_nil)
      (pss_cons (ps_fld (pv 0) (pe_mk D_Market (hr.mono (by decide)) (pa_cons (pv 1) (pa_cons (pv 2) pa_nil))) rfl)
      (pss_one (ps_ret (pe_lst (pa_cons pe_int pa_nil)))))), ?_⟩
    unfold create at k
    have bad : ((decide (1 ≤ n) && decide (n ≤ 5)) = false ∨ (decide (1 ≤ m) && decide (m ≤ 5)) = false) → tRet (tLst (tCons (tC (.int (-22))) tNil)) { nx := fun _ H' => Q .non H', rt := Q } [some (.ref D), some (.int n), some (.int m)] H := fun e => by
      rw [if_pos e] at k
      exact ⟨(by show 1 ≤ sizeLine; decide), fun p np => DGo.no h k _ p (Same.up0 np) np (upd_IL rfl)⟩
    refine chain5 rfl ?_
    refine ite2 (fun c1 => ?_) fun c1 => ?_
    · exact iteT (bad (.inl (nb c1)))
    have c1 : (decide (1 ≤ n) && decide (n ≤ 5)) = true := by
      cases e : (decide (1 ≤ n) && decide (n ≤ 5)) with
      | true => rfl
      | false => rw [e] at c1; exact absurd rfl c1
    refine chain5 rfl ?_
    refine ite2 (fun c2 => ?_) fun c2 => ?_
    · exact bad (.inr (nb c2))
    have c2 : (decide (1 ≤ m) && decide (m ≤ 5)) = true := by
      cases e : (decide (1 ≤ m) && decide (m ≤ 5)) with
      | true => rfl
      | false => rw [e] at c2; exact absurd rfl c2
    rw [if_neg (by rw [c1, c2]; simp)] at k
    have n15 : 1 ≤ n ∧ n ≤ 5 := by simpa using c1
    obtain ⟨v, hD⟩ := h.fld
    refine ⟨_, rfl, _, rfl, fun x dx nx ndx nex => ?_⟩
    have k1 : Same H (upd (upd H dx (.own x)) x (.ins CM dx [])) := by
      intro b o e
      have b1 : b ≠ dx := ne_of_none e ndx
      have b2 : b ≠ x := ne_of_none e nx
      rw [upd_ne b2, upd_ne b1]; exact e
    have a1 : ∀ y, (upd (upd H dx (.own x)) x (.ins CM dx [])) y = none → H y = none := al_same k1
    have hD1 := k1 _ _ hD
    have nDx : D ≠ x := ne_of_none hD nx
    refine ⟨x, dx, n, m, rfl, upd_same, n15.1, n15.2, fun H' P c l rs hM st => ⟨rfl, ?_⟩⟩
    have hD' := st.kp _ _ hD1 nDx
    refine ⟨_, rfl, D, CD, dD, _, rfl, hD', T.cl_D, T.n_D_market, (by show 1 < 1000; decide), ?_⟩
    have nown := not_own hD' hM
    have kp : Keep H' (upd H' D (.ins CD dD (putF "market" (.ref x) (dF v)))) (fun y => y = D) := Keep.mut Keep.refl rfl
    have desk : DeskAt CM CD (upd H' D (.ins CD dD (putF "market" (.ref x) (dF v)))) D dD (some (M.fresh n m)) (fun y => y = D ∨ owns x P c l rs [] [] y) :=
      .some (by rw [upd_same, dF_put]) (hM.keep kp fun y hy z => nown (by rw [← z]; exact hy))
    have st2 : Step H (upd H' D (.ins CD dD (putF "market" (.ref x) (dF v)))) own (fun y => y = D ∨ owns x P c l rs [] [] y) := by
      refine ⟨fun b o e hb => ?_, fun y hy => ?_, al_upd fun y hy => a1 y (st.al y hy)⟩
      · have bD : b ≠ D := fun z => hb (by rw [z]; exact h.own)
        rw [upd_ne bD]
        exact st.kp _ _ (k1 _ _ e) (ne_of_none e nx)
      · rcases hy with z | z
        · exact .inl (by rw [z]; exact h.own)
        · rcases st.nw y z with q | q
          · exact .inr (by rw [q]; exact nx)
          · exact .inr (a1 y q)
    generalize (upd H' D (.ins CD dD (putF "market" (.ref x) (dF v)))) = H2 at desk st2 ⊢
    exact ⟨(by show 1 ≤ sizeLine; decide), fun p np => k _ p _ (desk.keep (S := fun _ => False) (Keep.of (Same.up0 np)) fun _ _ z => z) (st2.trans (Step.same (Same.up0 np))) (st2.al p np) (upd_IL rfl)⟩
/-! ### carry_out -/
def NsOk (z : Int) (ns : List Int) : Prop := ((z = 0 ∨ z = 2) → 1 < ns.length) ∧ ((z = 1 ∨ z = 2 ∨ z = 3 ∨ z = 15 ∨ z = 11 ∨ z = 13) → 0 < ns.length)
def spCarry (CM CD : Addr) : Sp := fun vs H Q _ => ∃ (D dD nm ro : Addr) (z : Int) (ns row : List Int) (o : Option M) (own : Addr → Prop), vs = [.ref D, .int z, .ref nm, .ref ro] ∧ DeskAt CM CD H D dD o own ∧ (∀ s, o = some s → OkM s) ∧ IL H nm ns ∧ IL H ro row ∧ row.length ≤ 4000 ∧
  ¬ own ro ∧ NsOk z ns ∧ DGo CM CD H D dD own (step o (z, ns, row)).2 (step o (z, ns, row)).1 Q
def CHANGES : List Int := [1, 2, 3, 4, 12, 15, 17]
theorem ok_D_carry_out {f : Addr} {fd : FuncData} (F : Fun K "carry_out" "Desk.carry_out" s_D_carry_out f fd) (T : Ty K mg CM CD) (tC : ∃ p, mg "CHANGES" = some (.ref p) ∧ ∀ H : Hp, SqT K H p (CHANGES.map V.int))
    (D_D_create : Mn P w K mg base CD "create" 3 ["self", "n", "m"] (spCreate CM CD)) (D_change : Dn P w K mg base "change" 5 ["market", "call", "numbers", "row"] (spChange CM)) (D_ask : Dn P w K mg base "ask" 6 ["market", "call", "numbers", "row"] (spAsk CM)) :
    FnOk P w K mg base CX0 7 f fd ["self", "call", "numbers", "row"] (spCarry CM CD) := by
  obtain ⟨p_CHANGES, g_CHANGES, q_CHANGES⟩ := tC
  refine F.ok sc_D_carry_out (fun vs H Q E h => ?_) (fun cdv A outer s H vs Q E hr h => ?_)
  · obtain ⟨D, dD, nm, ro, z, ns, row, o, own, rfl, _⟩ := h
    rfl
  · obtain ⟨D, dD, nm, ro, z, ns, row, o, own, rfl, h, O, hn, hw, hwl, now, ⟨z2, z1⟩, k⟩ := h
    refine ⟨_, (pss_cons (ps_if (pt_cmpR op_eq (pv 1) pe_int (nomark _)) (pss_one (ps_ret (pe_me (pv 0) T.cl_D D_D_create (hr.mono (by decide)) (pa_cons (pe_ix ix_list (pv 2) pe_int (fun _ _ => rfl)) (pa_cons (pe_ix ix_list (pv 2) pe_int (fun _ _ => rfl)) pa_nil))))) pss_nil)
      (pss_cons (ps_if (pt_cmpR op_isN (pe_fld (pv 0) rfl) pe_non (nomark _)) (pss_one (ps_ret (pe_lst (pa_cons (pe_globI T.g_NO_INSTANCE) pa_nil)))) pss_nil)
      (pss_cons (ps_if (pt_cmpR op_in_seq (pv 1) (pe_glob (v := .ref p_CHANGES) (by rfl) g_CHANGES rfl) (by rfl)) (pss_one (ps_ret (pe_fn D_change (hr.mono (by decide)) (pa_cons (pe_fld (pv 0) rfl) (pa_cons (pv 1) (pa_cons (pv 2) (pa_cons (pv 3) pa_nil))))))) pss_nil)
      (pss_one (ps_ret (pe_fn D_ask (hr.mono (by decide)) (pa_cons (pe_fld (pv 0) rfl) (pa_cons (pv 1) (pa_cons (pv 2) (pa_cons (pv 3) pa_nil)))))))))), ?_⟩
    obtain ⟨v, hD⟩ := h.fld
    unfold step at k
    dsimp only at k
    refine ⟨_, rfl, rfl, _, rfl, if_int (fun e => ?_) fun e0 => ?_⟩
    · rw [if_pos e] at k
      have l1 := z2 (.inl e)
      exact ⟨_, rfl, D, dD, _, rfl, hD, dF_none, _, rfl, nm, _, _, _, rfl, rfl, hn.sq, ix0 (by omega), _, rfl, nm, _, _, _, rfl, rfl, hn.sq, ix1 l1, D, dD, _, _, o, own, rfl, h, k⟩
    rw [if_neg e0] at k
    refine ⟨_, rfl, D, CD, dD, _, _, rfl, hD, T.cl_D, T.n_D_market, dF_get _, rfl, _, rfl, ?_⟩
    cases h with
    | none hN =>
      have ev : v = .non := by
        rw [hN] at hD
        have := Option.some.inj hD
        injection this with _ _ e3
        injection e3 with e4 _
        injection e4 with _ e5
        exact e5.symm
      subst ev
      refine iteT ⟨(by show 1 ≤ sizeLine; decide), fun p np => DGo.no (.none hN) k _ p (Same.up0 np) np (upd_IL rfl)⟩
    | @some a dx P c l rs es qs s hS hM =>
      have ev : v = .ref a := by
        rw [hS] at hD
        have := Option.some.inj hD
        injection this with _ _ e3
        injection e3 with e4 _
        injection e4 with _ e5
        exact e5.symm
      subst ev
      have nown := not_own hS hM
      refine iteF ?_
      refine ⟨_, rfl, p_CHANGES, _, rfl, .inr (q_CHANGES H), rfl, flat_ints _, _, rfl, ?_⟩
      rw [inV_int]
      have ei : isChange z = CHANGES.contains z := rfl
      show (if CHANGES.contains z = true then _ else _)
      rw [← ei]
      dsimp only at k
      refine ite2 (fun c1 => ?_) fun c1 => ?_
      · rw [if_pos c1] at k
        refine ⟨_, rfl, D, CD, dD, _, _, rfl, hS, T.cl_D, T.n_D_market, dF_get _, _, rfl, _, rfl, _, rfl, a, nm, ro, z, s, ns, row, dx, P, c, l, rs, es, qs, rfl, hM, O s rfl, hn, hw, hwl, fun q => now (.inr q), fun q => z1 (by omega), fun q => z2 (.inr q), ?_⟩
        intro H' q dx' P' c' l' rs' es' qs' hM' st nq hq
        refine k H' q _ (.some (st.kp _ _ hS nown) hM') ⟨fun b o e hb => st.kp b o e fun y => hb (.inr y), fun y hy => ?_, st.al⟩ nq hq
        rcases hy with y1 | y1
        · exact .inl (.inl y1)
        · rcases st.nw y y1 with y2 | y2
          · exact .inl (.inr y2)
          · exact .inr y2
      · rw [if_neg c1] at k
        refine ⟨_, rfl, D, CD, dD, _, _, rfl, hS, T.cl_D, T.n_D_market, dF_get _, _, rfl, _, rfl, _, rfl, a, nm, ro, z, s, ns, row, rfl, ⟨_, _, _, _, _, _, _, hM⟩, O s rfl, hn, hw, hwl, fun q => z1 (by omega), ?_⟩
        exact DGo.no (.some hS hM) k
end Hl
/-! # R6. Reading the calls; all answers -/
namespace Hl
open PySem PySem.Spec PyProof.Rows L2
variable {P : Program} {w : World} {K : PySem.W.Frag} {mg : Str → Option Value} {base : Heap} {CM CD : Addr}
inductive Trs (H : Hp) (N : Addr → Prop) : List Addr → List Tri → Prop
  | nil : Trs H N [] []
  | cons {t nm ro : Addr} {z : Int} {ns row : List Int} {ts : List Addr} {l : List Tri} : H t = some (.tup [.int z, .ref nm, .ref ro]) → IL H nm ns → IL H ro row → N t → N nm → N ro → Trs H N ts l → Trs H N (t :: ts) ((z, ns, row) :: l)
theorem Trs.keep {H H' : Hp} {N S : Addr → Prop} (k : Keep H H' S) (hs : ∀ x, N x → ¬ S x) : ∀ {ts : List Addr} {l : List Tri}, Trs H N ts l → Trs H' N ts l
  | _, _, .nil => .nil
  | _, _, .cons a b c d e f t => .cons (k _ _ a (hs _ d)) (k _ _ b (hs _ e)) (k _ _ c (hs _ f)) d e f (t.keep k hs)
theorem Trs.mono {H : Hp} {N N' : Addr → Prop} (h : ∀ x, N x → N' x) : ∀ {ts : List Addr} {l : List Tri}, Trs H N ts l → Trs H N' ts l
  | _, _, .nil => .nil
  | _, _, .cons a b c d e f t => .cons a b c (h _ d) (h _ e) (h _ f) (t.mono h)
theorem Trs.snoc {H : Hp} {N : Addr → Prop} {t nm ro : Addr} {z : Int} {ns row : List Int} (a : H t = some (.tup [.int z, .ref nm, .ref ro])) (b : IL H nm ns) (c : IL H ro row) (d : N t) (e : N nm) (f : N ro) :
    ∀ {ts : List Addr} {l : List Tri}, Trs H N ts l → Trs H N (ts ++ [t]) (l ++ [(z, ns, row)])
  | _, _, .nil => .cons a b c d e f .nil
  | _, _, .cons a' b' c' d' e' f' t' => .cons a' b' c' d' e' f' (t'.snoc a b c d e f)
theorem Trs.length {H : Hp} {N : Addr → Prop} : ∀ {ts : List Addr} {l : List Tri}, Trs H N ts l → ts.length = l.length
  | _, _, .nil => rfl
  | _, _, .cons _ _ _ _ _ _ t => by rw [List.length_cons, List.length_cons, t.length]
theorem Trs.get {H : Hp} {N : Addr → Prop} : ∀ {ts : List Addr} {l : List Tri} {i : Nat} {t : Addr}, Trs H N ts l → ts[i]? = some t → ∃ z ns row nm ro, l[i]? = some (z, ns, row) ∧ H t = some (.tup [.int z, .ref nm, .ref ro]) ∧ IL H nm ns ∧ IL H ro row ∧ N t ∧ N nm ∧ N ro
  | _, _, _, _, .nil, h => by simp at h
  | _, _, 0, _, .cons a b c d e f t, h => by
    have h' := Option.some.inj h
    subst h'
    exact ⟨_, _, _, _, _, rfl, a, b, c, d, e, f⟩
  | _, _, i + 1, _, .cons a b c d e f t, h => t.get (i := i) h
theorem cut_ints {l : List Int} {i k : Nat} (hi : i ≤ k) (hk : k ≤ l.length) : cutV (l.map V.int) (some (i : Int)) (some (k : Int)) = ((l.drop i).take (k - i)).map V.int := by
  unfold cutV
  rw [HT.sIx_nat, HT.sIx_nat, List.length_map, Nat.min_eq_left hk, Nat.min_eq_left (Nat.le_trans hi hk), List.map_take, List.map_drop]
def NUMBERS : List Int := [2, 1, 2, 1, 0, 0, 0, 0, 0, 0, 0, 1, 0, 1, 0, 1, 0, 0, 0]
def WITH_ROW : List Int := [1, 4, 6]
theorem num_at {j n : Nat} (h : NUM[j]? = some n) : atI (NUMBERS.map V.int) (j : Int) = some (V.int (n : Int)) := by
  refine atI_nat ?_
  have e : NUMBERS = NUM.map fun (x : Nat) => (x : Int) := rfl
  rw [e, List.map_map, List.getElem?_map, h]
  rfl
theorem append_tri {D : Ends} {H : Hp} {a fo nm ro : Addr} {j stop : Int} {v2 v7 : Option V} {tts : List Addr} (hfo : H fo = some (.lst (tts.map V.ref))) (hl : tts.length ≤ 100000)
    (k : ∀ t, H t = none → D.nx [some (.ref a), some (.ref fo), some (.int stop), some (.int j), some (.int stop), some (.ref nm), some (.ref ro), v7] (upd (upd H t (.tup [.int j, .ref nm, .ref ro])) fo (.lst (tts.map V.ref ++ [.ref t])))) :
    tSeq (tDrop (tBM K "list" rAppend (tVar 1) (tCons (tTup (tCons (tVar 3) (tCons (tVar 5) (tCons (tVar 6) tNil)))) tNil))) (tAsg (tVar 4) (gName 2)) D [some (.ref a), some (.ref fo), v2, some (.int j), some (.int stop), some (.ref nm), some (.ref ro), v7] H := by
  refine ⟨_, rfl, .inl ⟨rfl, _, SqL.of hfo⟩, _, rfl, _, rfl, _, rfl, (by show 3 ≤ sizeLine; decide), fun t nt => ⟨fo, _, _, rfl, rfl, (Same.up0 nt) _ _ hfo, ?_, ⟨_, rfl, k t nt⟩⟩⟩
  rw [List.length_map]
  exact line_lt (by omega)
def spRead (K : PySem.W.Frag) : Sp := fun vs H Q _ => ∃ (a : Addr) (l : List Int) (cs : List (List (List Int))), vs = [.ref a] ∧ SqL K H a (l.map V.int) ∧ PyFlat.calls PySr92.shape l.length l = some cs ∧ l.length ≤ 4380 ∧
  ∀ (H' : Hp) (q : Addr) (tts : List Addr), Same H H' → H q = none → H' q = some (.lst (tts.map V.ref)) → Trs H' (fun x => H x = none) tts (cs.map tri) → Q (.ref q) H'
theorem mono_len : ∀ σ H (Q Q' : V → Hp → Prop), (∀ v H', Q v H' → Q' v H') → (tCB (fun (xs : List V) H Q => ∃ p ys, xs = [.ref p] ∧ (SqL K H p ys ∨ SqT K H p ys) ∧ Q (.int ys.length) H) (tCons (tVar 0) tNil)) σ H Q → (tCB (fun (xs : List V) H Q => ∃ p ys, xs = [.ref p] ∧ (SqL K H p ys ∨ SqT K H p ys) ∧ Q (.int ys.length) H) (tCons (tVar 0) tNil)) σ H Q' :=
  fun σ H Q Q' hQ ⟨v, e, p, ys, h1, h2, h3⟩ => ⟨v, e, p, ys, h1, h2, hQ _ _ h3⟩
theorem ok_read_calls {f : Addr} {fd : FuncData} (F : Fun K "read_calls" "read_calls" s_read_calls f fd) (T : Ty K mg CM CD) (tN : ∃ p, mg "NUMBERS" = some (.ref p) ∧ ∀ H : Hp, SqT K H p (NUMBERS.map V.int))
    (tW : ∃ p, mg "WITH_ROW" = some (.ref p) ∧ ∀ H : Hp, SqT K H p (WITH_ROW.map V.int)) : FnOk P w K mg base CX0 1 f fd ["calls"] (spRead K) := by
  obtain ⟨p_NUMBERS, g_NUMBERS, q_NUMBERS⟩ := tN
  obtain ⟨p_WITH_ROW, g_WITH_ROW, q_WITH_ROW⟩ := tW
  refine F.ok sc_read_calls (fun vs H Q E h => ?_) (fun cdv A outer s H vs Q E hr h => ?_)
  · obtain ⟨a, l, cs, rfl, _⟩ := h
    rfl
  · obtain ⟨a, l, cs, rfl, hS, hc, hl, k⟩ := h
    refine ⟨_, (pss_cons (ps_set (i := 1) sc_read_calls.nd rfl (Or.inl rfl) (pe_lst pa_nil))
      (pss_cons (ps_set (i := 2) sc_read_calls.nd rfl (Or.inl rfl) pe_int)
      (pss_cons (ps_while PassesOwn.never (pt_cmpR op_lt (pv 2) (pe_callB call_len_seq (by rfl) T.b_len PySem.boot_len (pa_cons (pv 0) pa_nil)) (nomark _))
      (pss_cons (ps_set (i := 3) sc_read_calls.nd rfl (Or.inl rfl) (pe_ix ix_list (pv 0) (pv 2) (fun _ _ => rfl)))
      (pss_cons (ps_set (i := 4) sc_read_calls.nd rfl (Or.inl rfl) (pe_op op_add (pe_op op_add (pv 2) pe_int) (pe_ix ix_tup (pe_glob (v := .ref p_NUMBERS) (by rfl) g_NUMBERS rfl) (pv 3) (fun _ _ => rfl))))
      (pss_cons (ps_set (i := 5) sc_read_calls.nd rfl (Or.inl rfl) (pe_slice sl_list (pv 0) (po_some (pe_op op_add (pv 2) pe_int)) (po_some (pv 4))))
      (pss_cons (ps_set (i := 6) sc_read_calls.nd rfl (Or.inl rfl) (pe_lst pa_nil))
      (pss_cons (ps_if (pt_cmpR op_in_seq (pv 3) (pe_glob (v := .ref p_WITH_ROW) (by rfl) g_WITH_ROW rfl) (by rfl)) (pss_cons (ps_set (i := 7) sc_read_calls.nd rfl (Or.inl rfl) (pe_op op_add (pv 4) pe_int))
      (pss_cons (ps_set (i := 4) sc_read_calls.nd rfl (Or.inl rfl) (pe_op op_add (pv 7) (pe_ix ix_list (pv 0) (pv 4) (fun _ _ => rfl))))
      (pss_one (ps_set (i := 6) sc_read_calls.nd rfl (Or.inl rfl) (pe_slice sl_list (pv 0) (po_some (pv 7)) (po_some (pv 4))))))) pss_nil)
      (pss_cons (ps_expr (pe_bm PySem.F.plainAttrs_list PySem.F.slot_list_append PySem.F.type_list_append mt_append (pv 1) (pa_cons (pe_tup (pa_cons (pv 3) (pa_cons (pv 5) (pa_cons (pv 6) pa_nil)))) pa_nil)))
      (pss_one (ps_set (i := 2) sc_read_calls.nd rfl (Or.inl rfl) (pv 4))))))))))
      (pss_one (ps_ret (pv 1)))))), ?_⟩
    refine ⟨Nat.zero_le _, fun fo nfo => ?_⟩
    refine while_by (fun σ H' => ∃ (p fuel : Nat) (tts : List Addr) (done rest : List (List (List Int))) (v3 v4 v5 v6 v7 : Option V), σ = [some (.ref a), some (.ref fo), some (.int (p : Nat)), v3, v4, v5, v6, v7] ∧ Same H H' ∧ H' fo = some (.lst (tts.map V.ref)) ∧
        Trs H' (fun x => H x = none ∧ x ≠ fo) tts (done.map tri) ∧ cs = done ++ rest ∧ PyFlat.calls PySr92.shape fuel (l.drop p) = some rest ∧ p ≤ l.length ∧ done.length ≤ p)
      (fun σ _ => match σ with | [_, _, some (.int p), _, _, _, _, _] => l.length - p.toNat | _ => 0)
      ⟨0, l.length, [], [], cs, _, _, _, _, _, rfl, Same.up0 nfo, upd_same, .nil, rfl, hc, Nat.zero_le _, Nat.le_refl _⟩ ?_ (mono_op (mono_rI0 _) (mono_var _) mono_len)
    rintro σ H1 ⟨p, fuel, tts, done, rest, v3, v4, v5, v6, v7, rfl, s1, hfo, hT, ecs, hrest, hp, hd⟩
    have hS1 := s1.seq hS
    have htl := hT.length
    rw [List.length_map] at htl
    refine ⟨_, rfl, _, rfl, a, _, rfl, .inl hS1, _, _, rfl, rfl, _, rfl, ?_⟩
    rw [List.length_map]
    refine ite2 (fun c => ?_) fun c => ?_
    · have c : p < l.length := by
        have := of_decide_eq_true c; omega
      obtain ⟨j, n, rest', f', ej, en, hle, ht⟩ := turn_calls hrest c
      refine ⟨_, rfl, _, rfl, a, _, _, _, rfl, rfl, hS1, atI_nat (by rw [List.getElem?_map, ej]; rfl), ?_⟩
      refine ⟨_, rfl, _, _, rfl, rfl, _, rfl, p_NUMBERS, _, _, _, rfl, rfl, q_NUMBERS H1, num_at en, _, _, rfl, rfl, ?_⟩
      refine ⟨_, rfl, _, rfl, _, _, rfl, rfl, _, rfl, _, rfl, _, rfl, a, _, rfl, hS1, fun nm nnm => ?_⟩
      have ec : cutV (l.map V.int) (some ((p : Int) + 1)) (some ((p : Int) + 1 + (n : Int))) = ((l.drop (p + 1)).take n).map V.int := by
        have := cut_ints (l := l) (i := p + 1) (k := p + 1 + n) (by omega) hle
        rw [Nat.add_sub_cancel_left] at this
        exact this
      have s2 : Same H1 (upd H1 nm (.lst (cutV (l.map V.int) (some ((p : Int) + 1)) (some ((p : Int) + 1 + (n : Int)))))) := Same.up0 nnm
      have hnm : IL (upd H1 nm (.lst (cutV (l.map V.int) (some ((p : Int) + 1)) (some ((p : Int) + 1 + (n : Int)))))) nm ((l.drop (p + 1)).take n) := upd_IL ec
      generalize (upd H1 nm (.lst (cutV (l.map V.int) (some ((p : Int) + 1)) (some ((p : Int) + 1 + (n : Int)))))) = H2 at s2 hnm
      have fin : ∀ (Hk : Hp) (ro : Addr) (row : List Int) (raw : List (List Int)) (rest2 : List (List (List Int))) (fuel2 stop : Nat) (v7 : Option V), Same H1 Hk → IL Hk nm ((l.drop (p + 1)).take n) → IL Hk ro row → H1 ro = none → tri raw = ((j : Int), (l.drop (p + 1)).take n, row) → rest = raw :: rest2 →
          PyFlat.calls PySr92.shape fuel2 (l.drop stop) = some rest2 → p < stop → stop ≤ l.length → ∀ t, Hk t = none →
          (∃ (p fuel : Nat) (tts' : List Addr) (done rest : List (List (List Int))) (v3 v4 v5 v6 v7' : Option V), [some (.ref a), some (.ref fo), some (.int (stop : Nat)), some (.int (j : Int)), some (.int (stop : Nat)), some (.ref nm), some (.ref ro), v7] = [some (.ref a), some (.ref fo), some (.int (p : Nat)), v3, v4, v5, v6, v7'] ∧
            Same H (upd (upd Hk t (.tup [.int (j : Int), .ref nm, .ref ro])) fo (.lst (tts.map V.ref ++ [.ref t]))) ∧ (upd (upd Hk t (.tup [.int (j : Int), .ref nm, .ref ro])) fo (.lst (tts.map V.ref ++ [.ref t]))) fo = some (.lst (tts'.map V.ref)) ∧
            Trs (upd (upd Hk t (.tup [.int (j : Int), .ref nm, .ref ro])) fo (.lst (tts.map V.ref ++ [.ref t]))) (fun x => H x = none ∧ x ≠ fo) tts' (done.map tri) ∧ cs = done ++ rest ∧ PyFlat.calls PySr92.shape fuel (l.drop p) = some rest ∧ p ≤ l.length ∧ done.length ≤ p) ∧ l.length - stop < l.length - p := by
        intro Hk ro row raw rest2 fuel2 stop v7 sk hn hw nro etri er hc2 hlt hle2 t nt
        have hfk := sk _ _ hfo
        have ntf : t ≠ fo := fun z => by rw [z, hfk] at nt; cases nt
        have nmf : nm ≠ fo := fun z => by rw [z, hfo] at nnm; cases nnm
        have rof : ro ≠ fo := fun z => by rw [z, hfo] at nro; cases nro
        have nt1 : H1 t = none := sk.free nt
        have kk : Keep Hk (upd (upd Hk t (.tup [.int (j : Int), .ref nm, .ref ro])) fo (.lst (tts.map V.ref ++ [.ref t]))) (fun x => x = fo) := ((Keep.refl (S := fun x => x = fo)).new nt).mut rfl
        refine ⟨⟨stop, fuel2, tts ++ [t], done ++ [raw], rest2, _, _, _, _, _, rfl, (((s1.trans sk).up nt).set nfo), by rw [upd_same, List.map_append]; rfl, ?_, by rw [ecs, er, List.append_assoc]; rfl, hc2, hle2, by rw [List.length_append]; simp; omega⟩, by omega⟩
        rw [List.map_append]
        show Trs _ _ _ (done.map tri ++ [tri raw])
        rw [etri]
        refine Trs.snoc (by rw [upd_ne ntf, upd_same]) (kk _ _ hn nmf) (kk _ _ hw rof) ⟨s1.free nt1, ntf⟩ ⟨s1.free nnm, nmf⟩ ⟨s1.free nro, rof⟩ ?_
        exact (hT.keep (Keep.of sk) (S := fun x => x = fo) fun x hx => hx.2).keep kk fun x hx => hx.2
      -- row = []
      refine ⟨Nat.zero_le _, fun ro nro => ?_⟩
      have s3 : Same H2 (upd H2 ro (.lst [])) := Same.up0 nro
      have hro : IL (upd H2 ro (.lst [])) ro [] := upd_same
      have nro1 : H1 ro = none := s2.free nro
      generalize (upd H2 ro (.lst [])) = H3 at s3 hro
      have s13 := s2.trans s3
      refine ⟨_, rfl, p_WITH_ROW, _, rfl, .inr (q_WITH_ROW _), rfl, flat_ints _, _, rfl, ?_⟩
      rw [inV_int]
      show (if WITH_ROW.contains (j : Int) = true then _ else _)
      rcases ht with ⟨hw, er, hc2⟩ | ⟨hw, z, ez, hle2, er, hc2⟩
      · have hw' : WITH_ROW.contains (j : Int) = false := hw
        rw [hw']
        refine iteF (append_tri (s13 _ _ hfo) (by omega) fun t nt => ?_)
        exact fin H3 ro [] _ rest' f' (p + 1 + n) _ s13 (hnm.same s3) hro nro1 rfl er hc2 (by omega) hle t nt
      · have hw' : WITH_ROW.contains (j : Int) = true := hw
        rw [hw']
        refine iteT ?_
        have hS3 := s13.seq hS1
        refine ⟨_, rfl, _, _, rfl, rfl, ?_⟩
        refine ⟨_, rfl, _, rfl, _, rfl, a, _, _, _, rfl, rfl, hS3, at_of (j := p + 1 + n) rfl (by rw [List.getElem?_map, ez]; rfl), _, _, rfl, rfl, ?_⟩
        refine ⟨_, rfl, _, rfl, _, rfl, _, rfl, _, rfl, a, _, rfl, hS3, fun ro2 nro2 => ?_⟩
        have ec2 : cutV (l.map V.int) (some ((p : Int) + 1 + (n : Int) + 1)) (some ((p : Int) + 1 + (n : Int) + 1 + (z : Int))) = ((l.drop (p + 1 + n + 1)).take z).map V.int := by
          have := cut_ints (l := l) (i := p + 1 + n + 1) (k := p + 1 + n + 1 + z) (by omega) hle2
          rw [Nat.add_sub_cancel_left] at this
          exact this
        have s4 : Same H3 (upd H3 ro2 (.lst (cutV (l.map V.int) (some ((p : Int) + 1 + (n : Int) + 1)) (some ((p : Int) + 1 + (n : Int) + 1 + (z : Int)))))) := Same.up0 nro2
        have hro2 : IL (upd H3 ro2 (.lst (cutV (l.map V.int) (some ((p : Int) + 1 + (n : Int) + 1)) (some ((p : Int) + 1 + (n : Int) + 1 + (z : Int)))))) ro2 ((l.drop (p + 1 + n + 1)).take z) := upd_IL ec2
        refine append_tri ((s13.trans s4) _ _ hfo) (by omega) fun t nt => ?_
        exact fin _ ro2 _ _ rest' f' (p + 1 + n + 1 + z) _ (s13.trans s4) ((hnm.same s3).same s4) hro2 (s13.free nro2) rfl er hc2 (by omega) hle2 t nt
    · have c : p = l.length := by
        have : ¬ p < l.length := fun z => c (decide_eq_true (by omega))
        omega
      rw [c, List.drop_length] at hrest
      have er : rest = [] := by
        cases fuel with
        | zero => exact (Option.some.inj hrest).symm
        | succ f => exact (Option.some.inj hrest).symm
      rw [er, List.append_nil] at ecs
      rw [← ecs] at hT
      exact ⟨_, rfl, k H1 fo tts s1 nfo hfo (hT.mono fun x hx => hx.1)⟩
end Hl
/-! # R7. All answers -/
namespace Hl
open PySem PySem.Spec PyProof.Rows L2
variable {P : Program} {w : World} {K : PySem.W.Frag} {mg : Str → Option Value} {base : Heap} {CM CD : Addr}
theorem row_le {r : List Int} (h : Sr92Neutral.isListArgument r = true) : r.length ≤ 4000 := by
  unfold Sr92Neutral.isListArgument at h
  rw [Bool.and_eq_true] at h
  have := of_decide_eq_true h.2
  omega
theorem asked_ns {c : List (List Int)} (h : Sr92Neutral.asked1 c = true) : NsOk (tri c).1 (tri c).2.1 ∧ (tri c).2.2.length ≤ 4000 := by
  have e0 : ([] : List Int).length ≤ 4000 := Nat.zero_le _
  unfold Sr92Neutral.asked1 at h
  split at h
  · exact ⟨⟨fun _ => (by show 1 < 2; decide), fun _ => (by show 0 < 2; decide)⟩, e0⟩
  · rw [Bool.and_eq_true] at h
    exact ⟨⟨fun z => absurd z (by show ¬ ((1 : Int) = 0 ∨ (1 : Int) = 2); decide), fun _ => (by show 0 < 1; decide)⟩, row_le h.2⟩
  · exact ⟨⟨fun _ => (by show 1 < 2; decide), fun _ => (by show 0 < 2; decide)⟩, e0⟩
  · exact ⟨⟨fun z => absurd z (by show ¬ ((3 : Int) = 0 ∨ (3 : Int) = 2); decide), fun _ => (by show 0 < 1; decide)⟩, e0⟩
  · exact ⟨⟨fun z => absurd z (by show ¬ ((4 : Int) = 0 ∨ (4 : Int) = 2); decide), fun z => absurd z (by show ¬ ((4 : Int) = 1 ∨ (4 : Int) = 2 ∨ (4 : Int) = 3 ∨ (4 : Int) = 15 ∨ (4 : Int) = 11 ∨ (4 : Int) = 13); decide)⟩, row_le h⟩
  · exact ⟨⟨fun z => absurd z (by show ¬ ((5 : Int) = 0 ∨ (5 : Int) = 2); decide), fun z => absurd z (by show ¬ ((5 : Int) = 1 ∨ (5 : Int) = 2 ∨ (5 : Int) = 3 ∨ (5 : Int) = 15 ∨ (5 : Int) = 11 ∨ (5 : Int) = 13); decide)⟩, e0⟩
  · exact ⟨⟨fun z => absurd z (by show ¬ ((6 : Int) = 0 ∨ (6 : Int) = 2); decide), fun z => absurd z (by show ¬ ((6 : Int) = 1 ∨ (6 : Int) = 2 ∨ (6 : Int) = 3 ∨ (6 : Int) = 15 ∨ (6 : Int) = 11 ∨ (6 : Int) = 13); decide)⟩, row_le h⟩
  · exact ⟨⟨fun z => absurd z (by show ¬ ((7 : Int) = 0 ∨ (7 : Int) = 2); decide), fun z => absurd z (by show ¬ ((7 : Int) = 1 ∨ (7 : Int) = 2 ∨ (7 : Int) = 3 ∨ (7 : Int) = 15 ∨ (7 : Int) = 11 ∨ (7 : Int) = 13); decide)⟩, e0⟩
  · exact ⟨⟨fun z => absurd z (by show ¬ ((8 : Int) = 0 ∨ (8 : Int) = 2); decide), fun z => absurd z (by show ¬ ((8 : Int) = 1 ∨ (8 : Int) = 2 ∨ (8 : Int) = 3 ∨ (8 : Int) = 15 ∨ (8 : Int) = 11 ∨ (8 : Int) = 13); decide)⟩, e0⟩
  · exact ⟨⟨fun z => absurd z (by show ¬ ((9 : Int) = 0 ∨ (9 : Int) = 2); decide), fun z => absurd z (by show ¬ ((9 : Int) = 1 ∨ (9 : Int) = 2 ∨ (9 : Int) = 3 ∨ (9 : Int) = 15 ∨ (9 : Int) = 11 ∨ (9 : Int) = 13); decide)⟩, e0⟩
  · exact ⟨⟨fun z => absurd z (by show ¬ ((10 : Int) = 0 ∨ (10 : Int) = 2); decide), fun z => absurd z (by show ¬ ((10 : Int) = 1 ∨ (10 : Int) = 2 ∨ (10 : Int) = 3 ∨ (10 : Int) = 15 ∨ (10 : Int) = 11 ∨ (10 : Int) = 13); decide)⟩, e0⟩
  · exact ⟨⟨fun z => absurd z (by show ¬ ((11 : Int) = 0 ∨ (11 : Int) = 2); decide), fun _ => (by show 0 < 1; decide)⟩, e0⟩
  · exact ⟨⟨fun z => absurd z (by show ¬ ((12 : Int) = 0 ∨ (12 : Int) = 2); decide), fun z => absurd z (by show ¬ ((12 : Int) = 1 ∨ (12 : Int) = 2 ∨ (12 : Int) = 3 ∨ (12 : Int) = 15 ∨ (12 : Int) = 11 ∨ (12 : Int) = 13); decide)⟩, e0⟩
  · exact ⟨⟨fun z => absurd z (by show ¬ ((13 : Int) = 0 ∨ (13 : Int) = 2); decide), fun _ => (by show 0 < 1; decide)⟩, e0⟩
  · exact ⟨⟨fun z => absurd z (by show ¬ ((14 : Int) = 0 ∨ (14 : Int) = 2); decide), fun z => absurd z (by show ¬ ((14 : Int) = 1 ∨ (14 : Int) = 2 ∨ (14 : Int) = 3 ∨ (14 : Int) = 15 ∨ (14 : Int) = 11 ∨ (14 : Int) = 13); decide)⟩, e0⟩
  · exact ⟨⟨fun z => absurd z (by show ¬ ((15 : Int) = 0 ∨ (15 : Int) = 2); decide), fun _ => (by show 0 < 1; decide)⟩, e0⟩
  · exact ⟨⟨fun z => absurd z (by show ¬ ((16 : Int) = 0 ∨ (16 : Int) = 2); decide), fun z => absurd z (by show ¬ ((16 : Int) = 1 ∨ (16 : Int) = 2 ∨ (16 : Int) = 3 ∨ (16 : Int) = 15 ∨ (16 : Int) = 11 ∨ (16 : Int) = 13); decide)⟩, e0⟩
  · exact ⟨⟨fun z => absurd z (by show ¬ ((17 : Int) = 0 ∨ (17 : Int) = 2); decide), fun z => absurd z (by show ¬ ((17 : Int) = 1 ∨ (17 : Int) = 2 ∨ (17 : Int) = 3 ∨ (17 : Int) = 15 ∨ (17 : Int) = 11 ∨ (17 : Int) = 13); decide)⟩, e0⟩
  · exact ⟨⟨fun z => absurd z (by show ¬ ((18 : Int) = 0 ∨ (18 : Int) = 2); decide), fun z => absurd z (by show ¬ ((18 : Int) = 1 ∨ (18 : Int) = 2 ∨ (18 : Int) = 3 ∨ (18 : Int) = 15 ∨ (18 : Int) = 11 ∨ (18 : Int) = 13); decide)⟩, e0⟩
  · cases h
theorem good_ok {o : Option M} (h : Good o) : ∀ s, o = some s → OkM s := by
  rintro s rfl
  obtain ⟨D, h⟩ := h
  cases D with
  | none => exact h.elim
  | some d => exact Rel.okM h
def spAnswers (K : PySem.W.Frag) : Sp := fun vs H Q _ => ∃ (a : Addr) (l : List Int), vs = [.ref a] ∧ SqL K H a (l.map V.int) ∧ PySr92.answers_asked l = true ∧ l.length ≤ 4380 ∧
  ∀ (H' : Hp) (p : Addr), H' p = some (.lst ((PySr92.answers l).map V.int)) → Q (.ref p) H'
theorem told_len (l : List (List Int)) (i : Nat) : (PyFlat.told (l.take i)).length ≤ (PyFlat.told l).length := by
  unfold PyFlat.told
  exact sum_take_le _ l i
theorem ok_answers {f : Addr} {fd : FuncData} (F : Fun K "answers" "answers" s_answers f fd) (T : Ty K mg CM CD) (D_Desk : Cn P w K mg base "Desk" CD 1 ["self"] (spInitD CD)) (D_read_calls : Dn P w K mg base "read_calls" 1 ["calls"] (spRead K))
    (D_D_carry_out : Mn P w K mg base CD "carry_out" 7 ["self", "call", "numbers", "row"] (spCarry CM CD)) : FnOk P w K mg base CX0 8 f fd ["calls"] (spAnswers K) := by
  refine F.ok sc_answers (fun vs H Q E h => ?_) (fun cdv A outer s H vs Q E hr h => ?_)
  · obtain ⟨a, l, rfl, _⟩ := h
    rfl
  · obtain ⟨a, l, rfl, hS, hask, hl, k⟩ := h
    obtain ⟨cs, hc, hcs, h60, hlen, eans⟩ := due hask
    refine ⟨_, (pss_cons (ps_set (i := 1) sc_answers.nd rfl (Or.inl rfl) (pe_mk0 D_Desk (hr.mono (by decide))))
      (pss_cons (ps_set (i := 2) sc_answers.nd rfl (Or.inl rfl) (pe_lst pa_nil))
      (pss_cons (ps_for PassesOwn.never rfl (pi_list (pe_fn D_read_calls (hr.mono (by decide)) (pa_cons (pv 0) pa_nil))) (pg_tup rfl (pgs_cons (pg_name (i := 3) sc_answers.nd rfl (Or.inl rfl)) (pgs_cons (pg_name (i := 4) sc_answers.nd rfl (Or.inl rfl)) (pgs_cons (pg_name (i := 5) sc_answers.nd rfl (Or.inl rfl)) pgs_nil))))
      (pss_cons (ps_set (i := 6) sc_answers.nd rfl (Or.inl rfl) (pe_me (pv 1) T.cl_D D_D_carry_out (hr.mono (by decide)) (pa_cons (pv 3) (pa_cons (pv 4) (pa_cons (pv 5) pa_nil)))))
      (pss_cons (ps_expr (pe_bm PySem.F.plainAttrs_list PySem.F.slot_list_append PySem.F.type_list_append mt_append (pv 2) (pa_cons (pe_callB call_len_seq (by rfl) T.b_len PySem.boot_len (pa_cons (pv 6) pa_nil)) pa_nil)))
      (pss_one (ps_expr (pe_bm PySem.F.plainAttrs_list PySem.F.slot_list_extend PySem.F.type_list_extend mt_extend (pv 2) (pa_cons (pv 6) pa_nil)))))))
      (pss_one (ps_ret (pv 2)))))), ?_⟩
    -- desk = Desk()
    intro x dx nx ndx nex
    refine ⟨x, dx, rfl, upd_same, rfl, ?_⟩
    have s1 : Same H (upd (upd (upd H dx (.own x)) x (.ins CD dx [])) x (.ins CD dx (dF .non))) := by
      intro b o e
      have b1 : b ≠ dx := ne_of_none e ndx
      have b2 : b ≠ x := ne_of_none e nx
      rw [upd_ne b2, upd_ne b2, upd_ne b1]; exact e
    have hx1 : (upd (upd (upd H dx (.own x)) x (.ins CD dx [])) x (.ins CD dx (dF .non))) x = some (.ins CD dx (dF .non)) := upd_same
    generalize (upd (upd (upd H dx (.own x)) x (.ins CD dx [])) x (.ins CD dx (dF .non))) = H1 at s1 hx1 ⊢
    -- listed = []
    refine ⟨Nat.zero_le _, fun ls nls => ?_⟩
    have s2 : Same H1 (upd H1 ls (.lst [])) := Same.up0 nls
    have hls2 : (upd H1 ls (.lst [])) ls = some (.lst []) := upd_same
    have hx2 := s2 _ _ hx1
    generalize (upd H1 ls (.lst [])) = H2 at s2 hls2 hx2 ⊢
    -- read_calls(calls)
    refine ⟨_, rfl, a, l, cs, rfl, (s1.trans s2).seq hS, hc, hl, fun Hr q tts sr nq hq hT => ?_⟩
    have hxr := sr _ _ hx2
    have hlsr := sr _ _ hls2
    have htl := hT.length
    rw [List.length_map] at htl
    have nN : ∀ y, H2 y = none → ¬ (y = x ∨ y = ls) := by
      rintro y n (e | e)
      · rw [e, hx2] at n; cases n
      · rw [e, hls2] at n; cases n
    have nxl : x ≠ ls := ne_of hx2 hls2 (by intro z; cases z)
    refine ⟨q, rfl, ⟨_, SqL.of hq⟩, for_list (K := K) (a := q) (xs := tts.map V.ref) (fun i σ H' => ∃ (own : Addr → Prop) (v3 v4 v5 v6 : Option V), σ = [some (.ref a), some (.ref x), some (.ref ls), v3, v4, v5, v6] ∧ DeskAt CM CD H' x dx (after none ((cs.map tri).take i)) own ∧
        IL H' ls (PyFlat.told (played none ((cs.map tri).take i))) ∧ Keep Hr H' (fun y => y = x ∨ y = ls) ∧ (∀ y, H' y = none → Hr y = none) ∧ (∀ y, own y → y = x ∨ Hr y = none))
      ⟨_, _, _, _, _, rfl, .none hxr, hlsr, Keep.refl, fun _ n => n, fun y e => .inl e⟩ (fun i σ H' _ ⟨_, _, _, _, _, _, _, _, kp, _⟩ => SqL.of (kp _ _ hq (nN q nq))) ?_ ?_⟩
    · rintro i v σ Hi hi ⟨own, v3, v4, v5, v6, rfl, hdesk, hli, kp, al, hown⟩
      obtain ⟨t, et, rfl⟩ := map_get? hi
      obtain ⟨z, ns, row, nm, ro, el, ht, hns, hrow, n1, n2, n3⟩ := hT.get et
      obtain ⟨c, ec, e3⟩ := map_get? el
      have hmem : c ∈ cs := List.mem_of_getElem? ec
      obtain ⟨okn, okr⟩ := asked_ns (hcs c hmem)
      rw [← e3] at okn okr
      have good : Good (after none ((cs.map tri).take i)) := by
        rw [← List.map_take]
        exact good_after _ none ⟨none, trivial⟩ fun y hy => hcs y (List.mem_of_mem_take hy)
      have ht' := kp _ _ ht (nN t n1)
      have hns' := kp _ _ hns (nN nm n2)
      have hrow' := kp _ _ hrow (nN ro n3)
      refine ⟨t, _, rfl, SqT.of ht', rfl, _, _, rfl, _, _, rfl, _, _, rfl, rfl, ?_⟩
      have nown : ∀ y o, Hr y = some o → y ≠ x → ¬ own y := fun y o e hne hy => by
        rcases hown y hy with w1 | w1
        · exact hne w1
        · rw [e] at w1; cases w1
      have fldd := hdesk.fld
      obtain ⟨vv, hxi⟩ := fldd
      refine ⟨_, rfl, x, dx, _, rfl, hxi, dF_none, _, rfl, _, rfl, _, rfl, x, dx, nm, ro, z, ns, row, _, own, rfl, hdesk, good_ok good, hns', hrow', okr, nown ro _ hrow (fun e => nN ro n3 (.inl e)), okn, ?_⟩
      intro H' ans own' hdesk' st nans hans
      have step1 := after_snoc ((cs.map tri).take i) none (z, ns, row)
      have step2 := played_snoc ((cs.map tri).take i) none (z, ns, row)
      rw [← take_snoc el] at step1 step2
      generalize hA : (step (after none ((cs.map tri).take i)) (z, ns, row)).1 = A at hans step2
      have hls' : IL H' ls (PyFlat.told (played none ((cs.map tri).take i))) := st.kp _ _ hli (nown ls _ hlsr nxl.symm)
      have nal : ans ≠ ls := fun e => by rw [e, hli] at nans; cases nans
      have told1 : PyFlat.told (played none ((cs.map tri).take (i + 1))) = PyFlat.told (played none ((cs.map tri).take i)) ++ ((A.length : Int) :: A) := by rw [step2, told_snoc]
      have bound : (PyFlat.told (played none ((cs.map tri).take (i + 1)))).length ≤ 10000000 := by
        refine Nat.le_trans ?_ hlen
        have e := played_append ((cs.map tri).take (i + 1)) ((cs.map tri).drop (i + 1)) none
        rw [List.take_append_drop] at e
        rw [e]
        unfold PyFlat.told
        rw [List.flatMap_append, List.length_append]
        exact Nat.le_add_right _ _
      rw [told1, List.length_append, List.length_cons] at bound
      have sz : (10000000 : Nat) ≤ sizeLine := by decide
      refine ⟨_, rfl, .inl ⟨rfl, _, hls'.sq⟩, _, rfl, ans, _, rfl, .inl hans.sq, ls, _, _, rfl, rfl, hls', ?_, ?_⟩
      · rw [List.length_map]; omega
      refine ⟨_, rfl, .inl ⟨rfl, _, SqL.of upd_same⟩, _, rfl, ls, ans, _, _, rfl, rfl, upd_same, by rw [upd_ne nal]; exact hans, ?_, ?_⟩
      · rw [List.length_append, List.length_map, List.length_map]
        simp only [List.length_cons, List.length_nil]
        omega
      have kl : Keep H' (upd (upd H' ls (.lst ((PyFlat.told (played none ((cs.map tri).take i))).map V.int ++ [.int ((A.map V.int).length : Nat)]))) ls (.lst ((PyFlat.told (played none ((cs.map tri).take i))).map V.int ++ [.int ((A.map V.int).length : Nat)] ++ A.map V.int))) (fun y => y = ls) := (Keep.mut (S := fun y => y = ls) Keep.refl rfl).mut rfl
      refine ⟨own', _, _, _, _, rfl, ?_, ?_, ?_, ?_, ?_⟩
      · rw [step1]
        refine hdesk'.keep kl fun y hy e => ?_
        rcases st.nw y hy with w1 | w1
        · exact nown ls _ hlsr nxl.symm (by rw [← e]; exact w1)
        · rw [e, hli] at w1; cases w1
      · refine upd_IL ?_
        rw [told1, List.length_map, List.map_append, List.map_cons, List.append_assoc]
        rfl
      · intro y o e hy
        refine kl _ _ (st.kp _ _ (kp y o e hy) (nown y o e fun w1 => hy (.inl w1))) fun w1 => hy (.inr w1)
      · intro y n
        exact al y (st.al y (al_upd (al_upd fun _ h => h) y n))
      · intro y hy
        rcases st.nw y hy with w1 | w1
        · exact hown y w1
        · exact .inr (al y w1)
    · rintro σ Hi ⟨own, v3, v4, v5, v6, rfl, hdesk, hli, kp, al, hown⟩
      rw [List.length_map, htl] at hli
      have e : (cs.map tri).take cs.length = cs.map tri := List.take_of_length_le (by rw [List.length_map]; exact Nat.le_refl _)
      rw [e, ← eans] at hli
      exact ⟨_, rfl, k Hi ls hli⟩
end Hl
/-! # S. The end -/
namespace Hl
open PySem PySem.Spec PyProof.Rows L2
open PySem.W (Codec)
theorem bindsTo_of {K : PySem.W.Frag} {f : Addr} {fd : FuncData} (F : Fun K "answers" "answers" s_answers f fd) : ∀ (s : Shared) (us : List Value), us.length = (["calls"] : List Str).length → BindsTo s fd ⟨us, []⟩ ((["calls"] : List Str).zip us) := by
  obtain ⟨oc, od, kV, doc, pm, an, cdv, ct, osl, rfl, lk, hcd⟩ := F.ex
  exact fun s us hu => match us, hu with | [_], _ => .of_eq rfl
theorem all_mk {P : Program} {w : World} {K : PySem.W.Frag} {h : Heap} {mg : Str → Option Value} {fa CM CD : Addr} (X : K.In h) (G : h.Ns mainGlobals mg) (hfa : mg "answers" = some (.ref fa)) (T : Top K CM CD) :
    ∃ fd : FuncData, (∀ (s : Shared) (us : List Value), us.length = (["calls"] : List Str).length → BindsTo s fd ⟨us, []⟩ ((["calls"] : List Str).zip us)) ∧ ∀ base : Heap, K.In base → base.Ns mainGlobals mg → FnOk P w K mg base CX0 8 fa fd ["calls"] (spAnswers K) := by
  obtain ⟨fA, fdA, nA, FA, kA⟩ := T.f_answers.ex
  have e := hfa.symm.trans (PySem.W.mg_of X G nA)
  cases e
  have TN : ∃ p, mg "NUMBERS" = some (.ref p) ∧ ∀ H : Hp, SqT K H p (NUMBERS.map V.int) := by
    obtain ⟨p, e, q⟩ := T.g_NUMBERS.ex
    exact ⟨p, PySem.W.mg_of X G e, q⟩
  have TW : ∃ p, mg "WITH_ROW" = some (.ref p) ∧ ∀ H : Hp, SqT K H p (WITH_ROW.map V.int) := by
    obtain ⟨p, e, q⟩ := T.g_WITH_ROW.ex
    exact ⟨p, PySem.W.mg_of X G e, q⟩
  have TC : ∃ p, mg "CHANGES" = some (.ref p) ∧ ∀ H : Hp, SqT K H p (CHANGES.map V.int) := by
    obtain ⟨p, e, q⟩ := T.g_CHANGES.ex
    exact ⟨p, PySem.W.mg_of X G e, q⟩
  have g_NO_HOUSE : ∃ t, mg "NO_HOUSE" = some (.int (-1) t) := by
    obtain ⟨t, e⟩ := T.g_NO_HOUSE.ex
    exact ⟨t, PySem.W.mg_of X G e⟩
  have g_NOT_THERE : ∃ t, mg "NOT_THERE" = some (.int (-2) t) := by
    obtain ⟨t, e⟩ := T.g_NOT_THERE.ex
    exact ⟨t, PySem.W.mg_of X G e⟩
  have g_NOTHING_HELD : ∃ t, mg "NOTHING_HELD" = some (.int (-6) t) := by
    obtain ⟨t, e⟩ := T.g_NOTHING_HELD.ex
    exact ⟨t, PySem.W.mg_of X G e⟩
  have g_NO_INSTANCE : ∃ t, mg "NO_INSTANCE" = some (.int (-11) t) := by
    obtain ⟨t, e⟩ := T.g_NO_INSTANCE.ex
    exact ⟨t, PySem.W.mg_of X G e⟩
  have g_TAKEN : ∃ t, mg "TAKEN" = some (.int (-17) t) := by
    obtain ⟨t, e⟩ := T.g_TAKEN.ex
    exact ⟨t, PySem.W.mg_of X G e⟩
  have g_NOT_ALLOWED : ∃ t, mg "NOT_ALLOWED" = some (.int (-22) t) := by
    obtain ⟨t, e⟩ := T.g_NOT_ALLOWED.ex
    exact ⟨t, PySem.W.mg_of X G e⟩
  have g_LOTTERY_FULL : ∃ t, mg "LOTTERY_FULL" = some (.int (-28) t) := by
    obtain ⟨t, e⟩ := T.g_LOTTERY_FULL.ex
    exact ⟨t, PySem.W.mg_of X G e⟩
  have g_NONE_EXISTS : ∃ t, mg "NONE_EXISTS" = some (.int (-33) t) := by
    obtain ⟨t, e⟩ := T.g_NONE_EXISTS.ex
    exact ⟨t, PySem.W.mg_of X G e⟩
  have g_GREATEST_WEIGHT : ∃ t, mg "GREATEST_WEIGHT" = some (.int (99) t) := by
    obtain ⟨t, e⟩ := T.g_GREATEST_WEIGHT.ex
    exact ⟨t, PySem.W.mg_of X G e⟩
  have g_MOST_ENTRIES : ∃ t, mg "MOST_ENTRIES" = some (.int (12) t) := by
    obtain ⟨t, e⟩ := T.g_MOST_ENTRIES.ex
    exact ⟨t, PySem.W.mg_of X G e⟩
  have g_GREATEST_SIZE : ∃ t, mg "GREATEST_SIZE" = some (.int (5) t) := by
    obtain ⟨t, e⟩ := T.g_GREATEST_SIZE.ex
    exact ⟨t, PySem.W.mg_of X G e⟩
  have TY : Ty K mg CM CD := ⟨⟨g_NO_HOUSE, g_NOT_THERE, g_NOTHING_HELD, g_NO_INSTANCE, g_TAKEN, g_NOT_ALLOWED, g_LOTTERY_FULL, g_NONE_EXISTS, g_GREATEST_WEIGHT, g_MOST_ENTRIES, g_GREATEST_SIZE, PySem.W.mg_none_of X G T.b_len, PySem.W.mg_none_of X G T.b_set, PySem.W.mg_none_of X G T.b_zip, PySem.W.mg_none_of X G T.b_sorted, PySem.W.mg_none_of X G T.b_range, PySem.W.mg_none_of X G T.b_enumerate, PySem.W.mg_none_of X G T.b_sum, PySem.W.mg_none_of X G T.b_max, PySem.W.mg_none_of X G T.b_list⟩, T.c_Market.cl, T.c_Desk.cl, T.n_Market_house_total, T.n_Market_preferences, T.n_Market_current, T.n_Market_lottery, T.n_Desk_market⟩
  refine ⟨fdA, bindsTo_of FA, fun base _ _ => ?_⟩
  obtain ⟨a_count_housed, fd_count_housed, n_count_housed, F_count_housed, k_count_housed⟩ := T.f_count_housed.ex
  have D_count_housed : Dn P w K mg base "count_housed" 1 ["assignment"] spCount := ⟨a_count_housed, fd_count_housed, PySem.W.mg_of X G n_count_housed, k_count_housed, (F_count_housed.binds (ps := ["assignment"]) fun _ _ _ _ _ _ us hl => match us, hl with | [_], _ => rfl), ok_count_housed F_count_housed TY.toTx⟩
  obtain ⟨a_rank, fd_rank, n_rank, F_rank, k_rank⟩ := T.f_rank.ex
  have D_rank : Dn P w K mg base "rank" 1 ["houses", "house"] spRank := ⟨a_rank, fd_rank, PySem.W.mg_of X G n_rank, k_rank, (F_rank.binds (ps := ["houses", "house"]) fun _ _ _ _ _ _ us hl => match us, hl with | [_, _], _ => rfl), ok_rank F_rank TY.toTx⟩
  obtain ⟨a_vote, fd_vote, n_vote, F_vote, k_vote⟩ := T.f_vote.ex
  have D_vote : Dn P w K mg base "vote" 2 ["houses", "house", "other"] spVote := ⟨a_vote, fd_vote, PySem.W.mg_of X G n_vote, k_vote, (F_vote.binds (ps := ["houses", "house", "other"]) fun _ _ _ _ _ _ us hl => match us, hl with | [_, _, _], _ => rfl), ok_vote F_vote TY.toTx D_rank⟩
  obtain ⟨a_votes, fd_votes, n_votes, F_votes, k_votes⟩ := T.f_votes.ex
  have D_votes : Dn P w K mg base "votes" 3 ["preferences", "assignment", "other"] spVotes := ⟨a_votes, fd_votes, PySem.W.mg_of X G n_votes, k_votes, (F_votes.binds (ps := ["preferences", "assignment", "other"]) fun _ _ _ _ _ _ us hl => match us, hl with | [_, _, _], _ => rfl), ok_votes F_votes TY.toTx D_vote⟩
  obtain ⟨a_lowest_terms, fd_lowest_terms, n_lowest_terms, F_lowest_terms, k_lowest_terms⟩ := T.f_lowest_terms.ex
  have D_lowest_terms : Dn P w K mg base "lowest_terms" 1 ["numerator", "denominator"] spLow := ⟨a_lowest_terms, fd_lowest_terms, PySem.W.mg_of X G n_lowest_terms, k_lowest_terms, (F_lowest_terms.binds (ps := ["numerator", "denominator"]) fun _ _ _ _ _ _ us hl => match us, hl with | [_, _], _ => rfl), ok_lowest_terms F_lowest_terms TY.toTx⟩
  obtain ⟨a_is_assignment, fd_is_assignment, n_is_assignment, F_is_assignment, k_is_assignment⟩ := T.f_is_assignment.ex
  have D_is_assignment : Dn P w K mg base "is_assignment" 1 ["preferences", "numbers"] spIsA := ⟨a_is_assignment, fd_is_assignment, PySem.W.mg_of X G n_is_assignment, k_is_assignment, (F_is_assignment.binds (ps := ["preferences", "numbers"]) fun _ _ _ _ _ _ us hl => match us, hl with | [_, _], _ => rfl), ok_is_assignment F_is_assignment TY.toTx⟩
  obtain ⟨a_agrees, fd_agrees, n_agrees, F_agrees, k_agrees⟩ := T.f_agrees.ex
  have D_agrees : Dn P w K mg base "agrees" 1 ["firsts", "seconds", "assignment"] spAgrees := ⟨a_agrees, fd_agrees, PySem.W.mg_of X G n_agrees, k_agrees, (F_agrees.binds (ps := ["firsts", "seconds", "assignment"]) fun _ _ _ _ _ _ us hl => match us, hl with | [_, _, _], _ => rfl), ok_agrees F_agrees TY.toTx⟩
  obtain ⟨a_first_choices, fd_first_choices, n_first_choices, F_first_choices, k_first_choices⟩ := T.f_first_choices.ex
  have D_first_choices : Dn P w K mg base "first_choices" 1 ["preferences"] spFirsts := ⟨a_first_choices, fd_first_choices, PySem.W.mg_of X G n_first_choices, k_first_choices, (F_first_choices.binds (ps := ["preferences"]) fun _ _ _ _ _ _ us hl => match us, hl with | [_], _ => rfl), ok_first_choices F_first_choices TY.toTx⟩
  obtain ⟨a_second_choices, fd_second_choices, n_second_choices, F_second_choices, k_second_choices⟩ := T.f_second_choices.ex
  have D_second_choices : Dn P w K mg base "second_choices" 2 ["preferences"] spSeconds := ⟨a_second_choices, fd_second_choices, PySem.W.mg_of X G n_second_choices, k_second_choices, (F_second_choices.binds (ps := ["preferences"]) fun _ _ _ _ _ _ us hl => match us, hl with | [_], _ => rfl), ok_second_choices F_second_choices TY.toTx D_first_choices⟩
  obtain ⟨a_is_characterized, fd_is_characterized, n_is_characterized, F_is_characterized, k_is_characterized⟩ := T.f_is_characterized.ex
  have D_is_characterized : Dn P w K mg base "is_characterized" 3 ["preferences", "assignment"] spChar := ⟨a_is_characterized, fd_is_characterized, PySem.W.mg_of X G n_is_characterized, k_is_characterized, (F_is_characterized.binds (ps := ["preferences", "assignment"]) fun _ _ _ _ _ _ us hl => match us, hl with | [_, _], _ => rfl), ok_is_characterized F_is_characterized TY.toTx D_first_choices D_second_choices D_agrees⟩
  obtain ⟨a_all_assignments, fd_all_assignments, n_all_assignments, F_all_assignments, k_all_assignments⟩ := T.f_all_assignments.ex
  have D_all_assignments : Dn P w K mg base "all_assignments" 1 ["preferences"] spAll := ⟨a_all_assignments, fd_all_assignments, PySem.W.mg_of X G n_all_assignments, k_all_assignments, (F_all_assignments.binds (ps := ["preferences"]) fun _ _ _ _ _ _ us hl => match us, hl with | [_], _ => rfl), ok_all_assignments F_all_assignments TY.toTx⟩
  obtain ⟨a_popular_assignments, fd_popular_assignments, n_popular_assignments, F_popular_assignments, k_popular_assignments⟩ := T.f_popular_assignments.ex
  have D_popular_assignments : Dn P w K mg base "popular_assignments" 3 ["preferences"] spPopular := ⟨a_popular_assignments, fd_popular_assignments, PySem.W.mg_of X G n_popular_assignments, k_popular_assignments, (F_popular_assignments.binds (ps := ["preferences"]) fun _ _ _ _ _ _ us hl => match us, hl with | [_], _ => rfl), ok_popular_assignments F_popular_assignments TY.toTx D_first_choices D_second_choices D_agrees D_all_assignments⟩
  obtain ⟨a_weighted_votes, fd_weighted_votes, n_weighted_votes, F_weighted_votes, k_weighted_votes⟩ := T.f_weighted_votes.ex
  have D_weighted_votes : Dn P w K mg base "weighted_votes" 3 ["houses", "i", "lottery"] spWv := ⟨a_weighted_votes, fd_weighted_votes, PySem.W.mg_of X G n_weighted_votes, k_weighted_votes, (F_weighted_votes.binds (ps := ["houses", "i", "lottery"]) fun _ _ _ _ _ _ us hl => match us, hl with | [_, _, _], _ => rfl), ok_weighted_votes F_weighted_votes TY.toTx D_vote⟩
  obtain ⟨a_weighted_margin, fd_weighted_margin, n_weighted_margin, F_weighted_margin, k_weighted_margin⟩ := T.f_weighted_margin.ex
  have D_weighted_margin : Dn P w K mg base "weighted_margin" 1 ["sums", "assignment"] spWm := ⟨a_weighted_margin, fd_weighted_margin, PySem.W.mg_of X G n_weighted_margin, k_weighted_margin, (F_weighted_margin.binds (ps := ["sums", "assignment"]) fun _ _ _ _ _ _ us hl => match us, hl with | [_, _], _ => rfl), ok_weighted_margin F_weighted_margin TY.toTx⟩
  obtain ⟨a_find_challenger, fd_find_challenger, n_find_challenger, F_find_challenger, k_find_challenger⟩ := T.f_find_challenger.ex
  have D_find_challenger : Dn P w K mg base "find_challenger" 4 ["preferences", "lottery"] spChal := ⟨a_find_challenger, fd_find_challenger, PySem.W.mg_of X G n_find_challenger, k_find_challenger, (F_find_challenger.binds (ps := ["preferences", "lottery"]) fun _ _ _ _ _ _ us hl => match us, hl with | [_, _], _ => rfl), ok_find_challenger F_find_challenger TY.toTx D_weighted_votes D_weighted_margin D_all_assignments⟩
  obtain ⟨a_find_factor, fd_find_factor, n_find_factor, F_find_factor, k_find_factor⟩ := T.f_find_factor.ex
  have D_find_factor : Dn P w K mg base "find_factor" 4 ["preferences", "assignment"] spFactor := ⟨a_find_factor, fd_find_factor, PySem.W.mg_of X G n_find_factor, k_find_factor, (F_find_factor.binds (ps := ["preferences", "assignment"]) fun _ _ _ _ _ _ us hl => match us, hl with | [_, _], _ => rfl), ok_find_factor F_find_factor TY.toTx D_votes D_all_assignments D_lowest_terms⟩
  obtain ⟨a_M_init, fd_M_init, n_M_init, i_M_init, F_M_init, k_M_init⟩ := T.m_M_init.ex
  have D_Market : Cn P w K mg base "Market" CM 1 ["self", "n", "m"] (spInitM CM) := ⟨a_M_init, fd_M_init, ⟨T.c_Market.mks, n_M_init, i_M_init, T.c_Market.kc⟩, PySem.W.mg_of X G T.c_Market.ns, (F_M_init.binds (ps := ["self", "n", "m"]) fun _ _ _ _ _ _ us hl => match us, hl with | [_, _, _], _ => rfl), ok_M_init F_M_init TY⟩
  obtain ⟨a_M_has_applicant, fd_M_has_applicant, n_M_has_applicant, i_M_has_applicant, F_M_has_applicant, k_M_has_applicant⟩ := T.m_M_has_applicant.ex
  have D_M_has_applicant : Mn P w K mg base CM "has_applicant" 1 ["self", "i"] (spHas CM) := ⟨a_M_has_applicant, fd_M_has_applicant, ⟨n_M_has_applicant, i_M_has_applicant, k_M_has_applicant⟩, (F_M_has_applicant.binds (ps := ["self", "i"]) fun _ _ _ _ _ _ us hl => match us, hl with | [_, _], _ => rfl), ok_M_has_applicant F_M_has_applicant TY⟩
  obtain ⟨a_M_is_preference_list, fd_M_is_preference_list, n_M_is_preference_list, i_M_is_preference_list, F_M_is_preference_list, k_M_is_preference_list⟩ := T.m_M_is_preference_list.ex
  have D_M_is_preference_list : Mn P w K mg base CM "is_preference_list" 1 ["self", "houses"] (spIsPref CM) := ⟨a_M_is_preference_list, fd_M_is_preference_list, ⟨n_M_is_preference_list, i_M_is_preference_list, k_M_is_preference_list⟩, (F_M_is_preference_list.binds (ps := ["self", "houses"]) fun _ _ _ _ _ _ us hl => match us, hl with | [_, _], _ => rfl), ok_M_is_preference_list F_M_is_preference_list TY⟩
  obtain ⟨a_M_total_weight, fd_M_total_weight, n_M_total_weight, i_M_total_weight, F_M_total_weight, k_M_total_weight⟩ := T.m_M_total_weight.ex
  have D_M_total_weight : Mn P w K mg base CM "total_weight" 1 ["self"] (spTotal CM) := ⟨a_M_total_weight, fd_M_total_weight, ⟨n_M_total_weight, i_M_total_weight, k_M_total_weight⟩, (F_M_total_weight.binds (ps := ["self"]) fun _ _ _ _ _ _ us hl => match us, hl with | [_], _ => rfl), ok_M_total_weight F_M_total_weight TY⟩
  obtain ⟨a_M_set_preferences, fd_M_set_preferences, n_M_set_preferences, i_M_set_preferences, F_M_set_preferences, k_M_set_preferences⟩ := T.m_M_set_preferences.ex
  have D_M_set_preferences : Mn P w K mg base CM "set_preferences" 2 ["self", "i", "houses"] (spSetPref CM) := ⟨a_M_set_preferences, fd_M_set_preferences, ⟨n_M_set_preferences, i_M_set_preferences, k_M_set_preferences⟩, (F_M_set_preferences.binds (ps := ["self", "i", "houses"]) fun _ _ _ _ _ _ us hl => match us, hl with | [_, _, _], _ => rfl), ok_M_set_preferences F_M_set_preferences TY D_M_has_applicant D_M_is_preference_list⟩
  obtain ⟨a_M_assign, fd_M_assign, n_M_assign, i_M_assign, F_M_assign, k_M_assign⟩ := T.m_M_assign.ex
  have D_M_assign : Mn P w K mg base CM "assign" 2 ["self", "i", "h"] (spAssign CM) := ⟨a_M_assign, fd_M_assign, ⟨n_M_assign, i_M_assign, k_M_assign⟩, (F_M_assign.binds (ps := ["self", "i", "h"]) fun _ _ _ _ _ _ us hl => match us, hl with | [_, _, _], _ => rfl), ok_M_assign F_M_assign TY D_M_has_applicant D_count_housed⟩
  obtain ⟨a_M_unassign, fd_M_unassign, n_M_unassign, i_M_unassign, F_M_unassign, k_M_unassign⟩ := T.m_M_unassign.ex
  have D_M_unassign : Mn P w K mg base CM "unassign" 2 ["self", "i"] (spUnassign CM) := ⟨a_M_unassign, fd_M_unassign, ⟨n_M_unassign, i_M_unassign, k_M_unassign⟩, (F_M_unassign.binds (ps := ["self", "i"]) fun _ _ _ _ _ _ us hl => match us, hl with | [_, _], _ => rfl), ok_M_unassign F_M_unassign TY D_M_has_applicant⟩
  obtain ⟨a_M_set_assignment, fd_M_set_assignment, n_M_set_assignment, i_M_set_assignment, F_M_set_assignment, k_M_set_assignment⟩ := T.m_M_set_assignment.ex
  have D_M_set_assignment : Mn P w K mg base CM "set_assignment" 2 ["self", "a"] (spSetAsg CM) := ⟨a_M_set_assignment, fd_M_set_assignment, ⟨n_M_set_assignment, i_M_set_assignment, k_M_set_assignment⟩, (F_M_set_assignment.binds (ps := ["self", "a"]) fun _ _ _ _ _ _ us hl => match us, hl with | [_, _], _ => rfl), ok_M_set_assignment F_M_set_assignment TY D_is_assignment D_count_housed⟩
  obtain ⟨a_M_assignment, fd_M_assignment, n_M_assignment, i_M_assignment, F_M_assignment, k_M_assignment⟩ := T.m_M_assignment.ex
  have D_M_assignment : Mn P w K mg base CM "assignment" 2 ["self"] (spAssignment CM) := ⟨a_M_assignment, fd_M_assignment, ⟨n_M_assignment, i_M_assignment, k_M_assignment⟩, (F_M_assignment.binds (ps := ["self"]) fun _ _ _ _ _ _ us hl => match us, hl with | [_], _ => rfl), ok_M_assignment F_M_assignment TY D_count_housed⟩
  obtain ⟨a_M_compare, fd_M_compare, n_M_compare, i_M_compare, F_M_compare, k_M_compare⟩ := T.m_M_compare.ex
  have D_M_compare : Mn P w K mg base CM "compare" 4 ["self", "a"] (spCompare CM) := ⟨a_M_compare, fd_M_compare, ⟨n_M_compare, i_M_compare, k_M_compare⟩, (F_M_compare.binds (ps := ["self", "a"]) fun _ _ _ _ _ _ us hl => match us, hl with | [_, _], _ => rfl), ok_M_compare F_M_compare TY D_is_assignment D_votes⟩
  obtain ⟨a_M_is_popular, fd_M_is_popular, n_M_is_popular, i_M_is_popular, F_M_is_popular, k_M_is_popular⟩ := T.m_M_is_popular.ex
  have D_M_is_popular : Mn P w K mg base CM "is_popular" 5 ["self"] (spIsPop CM) := ⟨a_M_is_popular, fd_M_is_popular, ⟨n_M_is_popular, i_M_is_popular, k_M_is_popular⟩, (F_M_is_popular.binds (ps := ["self"]) fun _ _ _ _ _ _ us hl => match us, hl with | [_], _ => rfl), ok_M_is_popular F_M_is_popular TY D_find_challenger⟩
  obtain ⟨a_M_strongest_challenger, fd_M_strongest_challenger, n_M_strongest_challenger, i_M_strongest_challenger, F_M_strongest_challenger, k_M_strongest_challenger⟩ := T.m_M_strongest_challenger.ex
  have D_M_strongest_challenger : Mn P w K mg base CM "strongest_challenger" 5 ["self"] (spStrongest CM) := ⟨a_M_strongest_challenger, fd_M_strongest_challenger, ⟨n_M_strongest_challenger, i_M_strongest_challenger, k_M_strongest_challenger⟩, (F_M_strongest_challenger.binds (ps := ["self"]) fun _ _ _ _ _ _ us hl => match us, hl with | [_], _ => rfl), ok_M_strongest_challenger F_M_strongest_challenger TY D_find_challenger⟩
  obtain ⟨a_M_unpopularity_factor, fd_M_unpopularity_factor, n_M_unpopularity_factor, i_M_unpopularity_factor, F_M_unpopularity_factor, k_M_unpopularity_factor⟩ := T.m_M_unpopularity_factor.ex
  have D_M_unpopularity_factor : Mn P w K mg base CM "unpopularity_factor" 5 ["self"] (spUnpop CM) := ⟨a_M_unpopularity_factor, fd_M_unpopularity_factor, ⟨n_M_unpopularity_factor, i_M_unpopularity_factor, k_M_unpopularity_factor⟩, (F_M_unpopularity_factor.binds (ps := ["self"]) fun _ _ _ _ _ _ us hl => match us, hl with | [_], _ => rfl), ok_M_unpopularity_factor F_M_unpopularity_factor TY D_find_factor⟩
  obtain ⟨a_M_count_assignments, fd_M_count_assignments, n_M_count_assignments, i_M_count_assignments, F_M_count_assignments, k_M_count_assignments⟩ := T.m_M_count_assignments.ex
  have D_M_count_assignments : Mn P w K mg base CM "count_assignments" 4 ["self"] (spCountAsg CM) := ⟨a_M_count_assignments, fd_M_count_assignments, ⟨n_M_count_assignments, i_M_count_assignments, k_M_count_assignments⟩, (F_M_count_assignments.binds (ps := ["self"]) fun _ _ _ _ _ _ us hl => match us, hl with | [_], _ => rfl), ok_M_count_assignments F_M_count_assignments TY D_all_assignments D_popular_assignments⟩
  obtain ⟨a_M_popular_assignment, fd_M_popular_assignment, n_M_popular_assignment, i_M_popular_assignment, F_M_popular_assignment, k_M_popular_assignment⟩ := T.m_M_popular_assignment.ex
  have D_M_popular_assignment : Mn P w K mg base CM "popular_assignment" 4 ["self", "k"] (spPopAsg CM) := ⟨a_M_popular_assignment, fd_M_popular_assignment, ⟨n_M_popular_assignment, i_M_popular_assignment, k_M_popular_assignment⟩, (F_M_popular_assignment.binds (ps := ["self", "k"]) fun _ _ _ _ _ _ us hl => match us, hl with | [_, _], _ => rfl), ok_M_popular_assignment F_M_popular_assignment TY D_popular_assignments D_count_housed⟩
  obtain ⟨a_M_use_first_popular, fd_M_use_first_popular, n_M_use_first_popular, i_M_use_first_popular, F_M_use_first_popular, k_M_use_first_popular⟩ := T.m_M_use_first_popular.ex
  have D_M_use_first_popular : Mn P w K mg base CM "use_first_popular" 4 ["self"] (spUseFirst CM) := ⟨a_M_use_first_popular, fd_M_use_first_popular, ⟨n_M_use_first_popular, i_M_use_first_popular, k_M_use_first_popular⟩, (F_M_use_first_popular.binds (ps := ["self"]) fun _ _ _ _ _ _ us hl => match us, hl with | [_], _ => rfl), ok_M_use_first_popular F_M_use_first_popular TY D_popular_assignments D_count_housed⟩
  obtain ⟨a_M_choices, fd_M_choices, n_M_choices, i_M_choices, F_M_choices, k_M_choices⟩ := T.m_M_choices.ex
  have D_M_choices : Mn P w K mg base CM "choices" 3 ["self", "i"] (spChoices CM) := ⟨a_M_choices, fd_M_choices, ⟨n_M_choices, i_M_choices, k_M_choices⟩, (F_M_choices.binds (ps := ["self", "i"]) fun _ _ _ _ _ _ us hl => match us, hl with | [_, _], _ => rfl), ok_M_choices F_M_choices TY D_M_has_applicant D_first_choices D_second_choices⟩
  obtain ⟨a_M_check_characterization, fd_M_check_characterization, n_M_check_characterization, i_M_check_characterization, F_M_check_characterization, k_M_check_characterization⟩ := T.m_M_check_characterization.ex
  have D_M_check_characterization : Mn P w K mg base CM "check_characterization" 4 ["self"] (spCheck CM) := ⟨a_M_check_characterization, fd_M_check_characterization, ⟨n_M_check_characterization, i_M_check_characterization, k_M_check_characterization⟩, (F_M_check_characterization.binds (ps := ["self"]) fun _ _ _ _ _ _ us hl => match us, hl with | [_], _ => rfl), ok_M_check_characterization F_M_check_characterization TY D_is_characterized⟩
  obtain ⟨a_M_add_to_lottery, fd_M_add_to_lottery, n_M_add_to_lottery, i_M_add_to_lottery, F_M_add_to_lottery, k_M_add_to_lottery⟩ := T.m_M_add_to_lottery.ex
  have D_M_add_to_lottery : Mn P w K mg base CM "add_to_lottery" 2 ["self", "weight"] (spAddLot CM) := ⟨a_M_add_to_lottery, fd_M_add_to_lottery, ⟨n_M_add_to_lottery, i_M_add_to_lottery, k_M_add_to_lottery⟩, (F_M_add_to_lottery.binds (ps := ["self", "weight"]) fun _ _ _ _ _ _ us hl => match us, hl with | [_, _], _ => rfl), ok_M_add_to_lottery F_M_add_to_lottery TY D_M_total_weight⟩
  obtain ⟨a_M_evaluate_lottery, fd_M_evaluate_lottery, n_M_evaluate_lottery, i_M_evaluate_lottery, F_M_evaluate_lottery, k_M_evaluate_lottery⟩ := T.m_M_evaluate_lottery.ex
  have D_M_evaluate_lottery : Mn P w K mg base CM "evaluate_lottery" 5 ["self"] (spEval CM) := ⟨a_M_evaluate_lottery, fd_M_evaluate_lottery, ⟨n_M_evaluate_lottery, i_M_evaluate_lottery, k_M_evaluate_lottery⟩, (F_M_evaluate_lottery.binds (ps := ["self"]) fun _ _ _ _ _ _ us hl => match us, hl with | [_], _ => rfl), ok_M_evaluate_lottery F_M_evaluate_lottery TY D_find_challenger D_lowest_terms D_M_total_weight⟩
  obtain ⟨a_M_clear_lottery, fd_M_clear_lottery, n_M_clear_lottery, i_M_clear_lottery, F_M_clear_lottery, k_M_clear_lottery⟩ := T.m_M_clear_lottery.ex
  have D_M_clear_lottery : Mn P w K mg base CM "clear_lottery" 1 ["self"] (spClear CM) := ⟨a_M_clear_lottery, fd_M_clear_lottery, ⟨n_M_clear_lottery, i_M_clear_lottery, k_M_clear_lottery⟩, (F_M_clear_lottery.binds (ps := ["self"]) fun _ _ _ _ _ _ us hl => match us, hl with | [_], _ => rfl), ok_M_clear_lottery F_M_clear_lottery TY⟩
  obtain ⟨a_M_describe, fd_M_describe, n_M_describe, i_M_describe, F_M_describe, k_M_describe⟩ := T.m_M_describe.ex
  have D_M_describe : Mn P w K mg base CM "describe" 1 ["self"] (spDescribe CM) := ⟨a_M_describe, fd_M_describe, ⟨n_M_describe, i_M_describe, k_M_describe⟩, (F_M_describe.binds (ps := ["self"]) fun _ _ _ _ _ _ us hl => match us, hl with | [_], _ => rfl), ok_M_describe F_M_describe TY⟩
  have CS : Calls P w K mg base CM := ⟨D_M_set_preferences, D_M_assign, D_M_unassign, D_M_set_assignment, D_M_use_first_popular, D_M_add_to_lottery, D_M_clear_lottery, D_M_assignment, D_M_compare, D_M_is_popular, D_M_strongest_challenger, D_M_unpopularity_factor, D_M_count_assignments, D_M_popular_assignment, D_M_choices, D_M_check_characterization, D_M_evaluate_lottery, D_M_describe⟩
  obtain ⟨a_change, fd_change, n_change, F_change, k_change⟩ := T.f_change.ex
  have D_change : Dn P w K mg base "change" 5 ["market", "call", "numbers", "row"] (spChange CM) := ⟨a_change, fd_change, PySem.W.mg_of X G n_change, k_change, (F_change.binds (ps := ["market", "call", "numbers", "row"]) fun _ _ _ _ _ _ us hl => match us, hl with | [_, _, _, _], _ => rfl), ok_change F_change TY CS⟩
  obtain ⟨a_ask, fd_ask, n_ask, F_ask, k_ask⟩ := T.f_ask.ex
  have D_ask : Dn P w K mg base "ask" 6 ["market", "call", "numbers", "row"] (spAsk CM) := ⟨a_ask, fd_ask, PySem.W.mg_of X G n_ask, k_ask, (F_ask.binds (ps := ["market", "call", "numbers", "row"]) fun _ _ _ _ _ _ us hl => match us, hl with | [_, _, _, _], _ => rfl), ok_ask F_ask TY CS⟩
  obtain ⟨a_read_calls, fd_read_calls, n_read_calls, F_read_calls, k_read_calls⟩ := T.f_read_calls.ex
  have D_read_calls : Dn P w K mg base "read_calls" 1 ["calls"] (spRead K) := ⟨a_read_calls, fd_read_calls, PySem.W.mg_of X G n_read_calls, k_read_calls, (F_read_calls.binds (ps := ["calls"]) fun _ _ _ _ _ _ us hl => match us, hl with | [_], _ => rfl), ok_read_calls F_read_calls TY TN TW⟩
  obtain ⟨a_D_init, fd_D_init, n_D_init, i_D_init, F_D_init, k_D_init⟩ := T.m_D_init.ex
  have D_Desk : Cn P w K mg base "Desk" CD 1 ["self"] (spInitD CD) := ⟨a_D_init, fd_D_init, ⟨T.c_Desk.mks, n_D_init, i_D_init, T.c_Desk.kc⟩, PySem.W.mg_of X G T.c_Desk.ns, (F_D_init.binds (ps := ["self"]) fun _ _ _ _ _ _ us hl => match us, hl with | [_], _ => rfl), ok_D_init F_D_init TY⟩
  obtain ⟨a_D_create, fd_D_create, n_D_create, i_D_create, F_D_create, k_D_create⟩ := T.m_D_create.ex
  have D_D_create : Mn P w K mg base CD "create" 3 ["self", "n", "m"] (spCreate CM CD) := ⟨a_D_create, fd_D_create, ⟨n_D_create, i_D_create, k_D_create⟩, (F_D_create.binds (ps := ["self", "n", "m"]) fun _ _ _ _ _ _ us hl => match us, hl with | [_, _, _], _ => rfl), ok_D_create F_D_create TY D_Market⟩
  obtain ⟨a_D_carry_out, fd_D_carry_out, n_D_carry_out, i_D_carry_out, F_D_carry_out, k_D_carry_out⟩ := T.m_D_carry_out.ex
  have D_D_carry_out : Mn P w K mg base CD "carry_out" 7 ["self", "call", "numbers", "row"] (spCarry CM CD) := ⟨a_D_carry_out, fd_D_carry_out, ⟨n_D_carry_out, i_D_carry_out, k_D_carry_out⟩, (F_D_carry_out.binds (ps := ["self", "call", "numbers", "row"]) fun _ _ _ _ _ _ us hl => match us, hl with | [_, _, _, _], _ => rfl), ok_D_carry_out F_D_carry_out TY TC D_D_create D_change D_ask⟩
  exact ok_answers FA TY D_Desk D_read_calls D_D_carry_out
end Hl
open PySem PySem.W PyProof.Rows
set_option maxRecDepth 100000 in
set_option maxHeartbeats 0 in
theorem PySem.Challenge.cw_houselot_s01_answers_holds : PySem.Challenge.rw_houselot_s01_answers.Holds := by
  w_on; k_headS; (case hw => exact ⟨[.list [.int 5]], by decide +kernel, by decide +kernel⟩)
  k_fillS
  refine L2.walk_specK (r := PySem.Challenge.rw_houselot_s01_answers) (k := 8) (CX := L2.CX0) (ps := ["calls"]) (sp := Hl.spAnswers) (by decide +kernel) rfl rfl ⟨rfl, by decide, by decide⟩ (fun w h Y => PySem.W.kIn_of Y) ?F ?S (fun _ _ _ _ z => z)
  case F =>
    intro w mg fa h Y KX G hmg
    refine' Hl.all_mk KX G hmg ⟨?f_count_housed, ?f_is_assignment, ?f_all_assignments, ?f_first_choices, ?f_second_choices, ?f_agrees, ?f_is_characterized, ?f_popular_assignments, ?f_lowest_terms, ?f_rank, ?f_vote, ?f_votes, ?f_weighted_votes, ?f_weighted_margin, ?f_find_challenger, ?f_find_factor, ?f_change, ?f_ask, ?f_read_calls, ?f_answers, ?c_Market, ?n_Market_house_total, ?n_Market_preferences, ?n_Market_current, ?n_Market_lottery, ?c_Desk, ?n_Desk_market, ?m_M_init, ?m_M_has_applicant, ?m_M_is_preference_list, ?m_M_set_preferences, ?m_M_assign, ?m_M_unassign, ?m_M_set_assignment, ?m_M_assignment, ?m_M_compare, ?m_M_is_popular, ?m_M_strongest_challenger, ?m_M_unpopularity_factor, ?m_M_count_assignments, ?m_M_popular_assignment, ?m_M_use_first_popular, ?m_M_choices, ?m_M_check_characterization, ?m_M_total_weight, ?m_M_add_to_lottery, ?m_M_evaluate_lottery, ?m_M_clear_lottery, ?m_M_describe, ?m_D_init, ?m_D_create, ?m_D_carry_out, ?g_NO_HOUSE, ?g_NOT_THERE, ?g_NOTHING_HELD, ?g_NO_INSTANCE, ?g_TAKEN, ?g_NOT_ALLOWED, ?g_LOTTERY_FULL, ?g_NONE_EXISTS, ?g_GREATEST_WEIGHT, ?g_MOST_ENTRIES, ?g_GREATEST_SIZE, ?g_NUMBERS, ?g_WITH_ROW, ?g_CHANGES, ?b_len, ?b_set, ?b_zip, ?b_sorted, ?b_range, ?b_enumerate, ?b_sum, ?b_max, ?b_list⟩
    case f_count_housed => refine' Hl.fnAt_mk ?a ?l ?c ?k; (case a => k_is); (case l => k_is); (case c => k_is); (case k => k_is)
    case f_is_assignment => refine' Hl.fnAt_mk ?a ?l ?c ?k; (case a => k_is); (case l => k_is); (case c => k_is); (case k => k_is)
    case f_all_assignments => refine' Hl.fnAt_mk ?a ?l ?c ?k; (case a => k_is); (case l => k_is); (case c => k_is); (case k => k_is)
    case f_first_choices => refine' Hl.fnAt_mk ?a ?l ?c ?k; (case a => k_is); (case l => k_is); (case c => k_is); (case k => k_is)
    case f_second_choices => refine' Hl.fnAt_mk ?a ?l ?c ?k; (case a => k_is); (case l => k_is); (case c => k_is); (case k => k_is)
    case f_agrees => refine' Hl.fnAt_mk ?a ?l ?c ?k; (case a => k_is); (case l => k_is); (case c => k_is); (case k => k_is)
    case f_is_characterized => refine' Hl.fnAt_mk ?a ?l ?c ?k; (case a => k_is); (case l => k_is); (case c => k_is); (case k => k_is)
    case f_popular_assignments => refine' Hl.fnAt_mk ?a ?l ?c ?k; (case a => k_is); (case l => k_is); (case c => k_is); (case k => k_is)
    case f_lowest_terms => refine' Hl.fnAt_mk ?a ?l ?c ?k; (case a => k_is); (case l => k_is); (case c => k_is); (case k => k_is)
    case f_rank => refine' Hl.fnAt_mk ?a ?l ?c ?k; (case a => k_is); (case l => k_is); (case c => k_is); (case k => k_is)
    case f_vote => refine' Hl.fnAt_mk ?a ?l ?c ?k; (case a => k_is); (case l => k_is); (case c => k_is); (case k => k_is)
    case f_votes => refine' Hl.fnAt_mk ?a ?l ?c ?k; (case a => k_is); (case l => k_is); (case c => k_is); (case k => k_is)
    case f_weighted_votes => refine' Hl.fnAt_mk ?a ?l ?c ?k; (case a => k_is); (case l => k_is); (case c => k_is); (case k => k_is)
    case f_weighted_margin => refine' Hl.fnAt_mk ?a ?l ?c ?k; (case a => k_is); (case l => k_is); (case c => k_is); (case k => k_is)
    case f_find_challenger => refine' Hl.fnAt_mk ?a ?l ?c ?k; (case a => k_is); (case l => k_is); (case c => k_is); (case k => k_is)
    case f_find_factor => refine' Hl.fnAt_mk ?a ?l ?c ?k; (case a => k_is); (case l => k_is); (case c => k_is); (case k => k_is)
    case f_change => refine' Hl.fnAt_mk ?a ?l ?c ?k; (case a => k_is); (case l => k_is); (case c => k_is); (case k => k_is)
    case f_ask => refine' Hl.fnAt_mk ?a ?l ?c ?k; (case a => k_is); (case l => k_is); (case c => k_is); (case k => k_is)
    case f_read_calls => refine' Hl.fnAt_mk ?a ?l ?c ?k; (case a => k_is); (case l => k_is); (case c => k_is); (case k => k_is)
    case f_answers => refine' Hl.fnAt_mk ?a ?l ?c ?k; (case a => k_is); (case l => k_is); (case c => k_is); (case k => k_is)
    case c_Market => refine' Hl.clAt_mk ?a ?pg ?hd ?po ?sa ?mk ?kc; (case a => k_is); (case pg => k_is); (case hd => k_is); (case po => k_is); (case sa => k_is); (case mk => k_is); (case kc => k_is)
    case n_Market_house_total => k_is
    case n_Market_preferences => k_is
    case n_Market_current => k_is
    case n_Market_lottery => k_is
    case c_Desk => refine' Hl.clAt_mk ?a ?pg ?hd ?po ?sa ?mk ?kc; (case a => k_is); (case pg => k_is); (case hd => k_is); (case po => k_is); (case sa => k_is); (case mk => k_is); (case kc => k_is)
    case n_Desk_market => k_is
    case m_M_init => refine' Hl.mtAt_mk ?a ?i ?l ?c ?k; (case a => k_is); (case i => k_is); (case l => k_is); (case c => k_is); (case k => k_is)
    case m_M_has_applicant => refine' Hl.mtAt_mk ?a ?i ?l ?c ?k; (case a => k_is); (case i => k_is); (case l => k_is); (case c => k_is); (case k => k_is)
    case m_M_is_preference_list => refine' Hl.mtAt_mk ?a ?i ?l ?c ?k; (case a => k_is); (case i => k_is); (case l => k_is); (case c => k_is); (case k => k_is)
    case m_M_set_preferences => refine' Hl.mtAt_mk ?a ?i ?l ?c ?k; (case a => k_is); (case i => k_is); (case l => k_is); (case c => k_is); (case k => k_is)
    case m_M_assign => refine' Hl.mtAt_mk ?a ?i ?l ?c ?k; (case a => k_is); (case i => k_is); (case l => k_is); (case c => k_is); (case k => k_is)
    case m_M_unassign => refine' Hl.mtAt_mk ?a ?i ?l ?c ?k; (case a => k_is); (case i => k_is); (case l => k_is); (case c => k_is); (case k => k_is)
    case m_M_set_assignment => refine' Hl.mtAt_mk ?a ?i ?l ?c ?k; (case a => k_is); (case i => k_is); (case l => k_is); (case c => k_is); (case k => k_is)
    case m_M_assignment => refine' Hl.mtAt_mk ?a ?i ?l ?c ?k; (case a => k_is); (case i => k_is); (case l => k_is); (case c => k_is); (case k => k_is)
    case m_M_compare => refine' Hl.mtAt_mk ?a ?i ?l ?c ?k; (case a => k_is); (case i => k_is); (case l => k_is); (case c => k_is); (case k => k_is)
    case m_M_is_popular => refine' Hl.mtAt_mk ?a ?i ?l ?c ?k; (case a => k_is); (case i => k_is); (case l => k_is); (case c => k_is); (case k => k_is)
    case m_M_strongest_challenger => refine' Hl.mtAt_mk ?a ?i ?l ?c ?k; (case a => k_is); (case i => k_is); (case l => k_is); (case c => k_is); (case k => k_is)
    case m_M_unpopularity_factor => refine' Hl.mtAt_mk ?a ?i ?l ?c ?k; (case a => k_is); (case i => k_is); (case l => k_is); (case c => k_is); (case k => k_is)
    case m_M_count_assignments => refine' Hl.mtAt_mk ?a ?i ?l ?c ?k; (case a => k_is); (case i => k_is); (case l => k_is); (case c => k_is); (case k => k_is)
    case m_M_popular_assignment => refine' Hl.mtAt_mk ?a ?i ?l ?c ?k; (case a => k_is); (case i => k_is); (case l => k_is); (case c => k_is); (case k => k_is)
    case m_M_use_first_popular => refine' Hl.mtAt_mk ?a ?i ?l ?c ?k; (case a => k_is); (case i => k_is); (case l => k_is); (case c => k_is); (case k => k_is)
    case m_M_choices => refine' Hl.mtAt_mk ?a ?i ?l ?c ?k; (case a => k_is); (case i => k_is); (case l => k_is); (case c => k_is); (case k => k_is)
    case m_M_check_characterization => refine' Hl.mtAt_mk ?a ?i ?l ?c ?k; (case a => k_is); (case i => k_is); (case l => k_is); (case c => k_is); (case k => k_is)
    case m_M_total_weight => refine' Hl.mtAt_mk ?a ?i ?l ?c ?k; (case a => k_is); (case i => k_is); (case l => k_is); (case c => k_is); (case k => k_is)
    case m_M_add_to_lottery => refine' Hl.mtAt_mk ?a ?i ?l ?c ?k; (case a => k_is); (case i => k_is); (case l => k_is); (case c => k_is); (case k => k_is)
    case m_M_evaluate_lottery => refine' Hl.mtAt_mk ?a ?i ?l ?c ?k; (case a => k_is); (case i => k_is); (case l => k_is); (case c => k_is); (case k => k_is)
    case m_M_clear_lottery => refine' Hl.mtAt_mk ?a ?i ?l ?c ?k; (case a => k_is); (case i => k_is); (case l => k_is); (case c => k_is); (case k => k_is)
    case m_M_describe => refine' Hl.mtAt_mk ?a ?i ?l ?c ?k; (case a => k_is); (case i => k_is); (case l => k_is); (case c => k_is); (case k => k_is)
    case m_D_init => refine' Hl.mtAt_mk ?a ?i ?l ?c ?k; (case a => k_is); (case i => k_is); (case l => k_is); (case c => k_is); (case k => k_is)
    case m_D_create => refine' Hl.mtAt_mk ?a ?i ?l ?c ?k; (case a => k_is); (case i => k_is); (case l => k_is); (case c => k_is); (case k => k_is)
    case m_D_carry_out => refine' Hl.mtAt_mk ?a ?i ?l ?c ?k; (case a => k_is); (case i => k_is); (case l => k_is); (case c => k_is); (case k => k_is)
    case g_NO_HOUSE => refine' Hl.nmAt_mk ?a; (case a => k_is)
    case g_NOT_THERE => refine' Hl.nmAt_mk ?a; (case a => k_is)
    case g_NOTHING_HELD => refine' Hl.nmAt_mk ?a; (case a => k_is)
    case g_NO_INSTANCE => refine' Hl.nmAt_mk ?a; (case a => k_is)
    case g_TAKEN => refine' Hl.nmAt_mk ?a; (case a => k_is)
    case g_NOT_ALLOWED => refine' Hl.nmAt_mk ?a; (case a => k_is)
    case g_LOTTERY_FULL => refine' Hl.nmAt_mk ?a; (case a => k_is)
    case g_NONE_EXISTS => refine' Hl.nmAt_mk ?a; (case a => k_is)
    case g_GREATEST_WEIGHT => refine' Hl.nmAt_mk ?a; (case a => k_is)
    case g_MOST_ENTRIES => refine' Hl.nmAt_mk ?a; (case a => k_is)
    case g_GREATEST_SIZE => refine' Hl.nmAt_mk ?a; (case a => k_is)
    case g_NUMBERS => refine' Hl.tpAt_mk ?a ?l ?hs ?hv; (case a => k_is); (case l => k_is); (case hs => decide +kernel); (case hv => exact .cons ⟨_, rfl⟩ (.cons ⟨_, rfl⟩ (.cons ⟨_, rfl⟩ (.cons ⟨_, rfl⟩ (.cons ⟨_, rfl⟩ (.cons ⟨_, rfl⟩ (.cons ⟨_, rfl⟩ (.cons ⟨_, rfl⟩ (.cons ⟨_, rfl⟩ (.cons ⟨_, rfl⟩ (.cons ⟨_, rfl⟩ (.cons ⟨_, rfl⟩ (.cons ⟨_, rfl⟩ (.cons ⟨_, rfl⟩ (.cons ⟨_, rfl⟩ (.cons ⟨_, rfl⟩ (.cons ⟨_, rfl⟩ (.cons ⟨_, rfl⟩ (.cons ⟨_, rfl⟩ (.nil))))))))))))))))))))
    case g_WITH_ROW => refine' Hl.tpAt_mk ?a ?l ?hs ?hv; (case a => k_is); (case l => k_is); (case hs => decide +kernel); (case hv => exact .cons ⟨_, rfl⟩ (.cons ⟨_, rfl⟩ (.cons ⟨_, rfl⟩ (.nil))))
    case g_CHANGES => refine' Hl.tpAt_mk ?a ?l ?hs ?hv; (case a => k_is); (case l => k_is); (case hs => decide +kernel); (case hv => exact .cons ⟨_, rfl⟩ (.cons ⟨_, rfl⟩ (.cons ⟨_, rfl⟩ (.cons ⟨_, rfl⟩ (.cons ⟨_, rfl⟩ (.cons ⟨_, rfl⟩ (.cons ⟨_, rfl⟩ (.nil))))))))
    case b_len => k_is
    case b_set => k_is
    case b_zip => k_is
    case b_sorted => k_is
    case b_range => k_is
    case b_enumerate => k_is
    case b_sum => k_is
    case b_max => k_is
    case b_list => k_is
  case S =>
    intro K H xs a hO hwi hask hx
    cases hx with
    | cons h1 h2 =>
      cases h2
      cases h1 with
      | lst hs ha =>
        have e := L2.ints_dw a.1 _ ha
        subst e
        have q : ((Codec.inLen 0 4380 a.1 && a.1.all (Codec.inInt (_root_.Int.negSucc 2147483647) (_root_.Int.ofNat 2147483647))) && true) = true := hwi
        rw [Bool.and_eq_true, Bool.and_eq_true] at q
        exact ⟨_, a.1, rfl, hs, hask, (Codec.inNat_iff.mp q.1.1).2, fun H' p hp => .lst (L2.SqL.of hp) (L2.dw_ints _)⟩
#print axioms PySem.Challenge.cw_houselot_s01_answers_holds
