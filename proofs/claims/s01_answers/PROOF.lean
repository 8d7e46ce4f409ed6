import PyProof.Rows.All
import Wide.All
import OpenK.AllK
import Wide.FinOn
import Open.SpecLaws
import KE.OsGo
import KE.DatumOrd
import HandS.ForSpec
import HandS.ForMost
import HandS.SortKw
import HandS.Zip
import PySem.Challenge.RW_mouldorders_s01_answers
set_option Elab.async false
set_option linter.all false
set_option maxRecDepth 100000
set_option maxHeartbeats 4000000
/-! The family-mould order planner, by hand: mirror, mathematics, the rules that the layer lacks, heap, one promise a def, the end. -/
/-! ### 1. The mirror: one total function a def -/
namespace Mo
open SrCommon (natsToInts intsToNats)

def g (l : List Int) (j : Nat) : Int := l.getD j 0

structure M where
  moulds : List (List Int)
  demand : List Int

def needAfter (need mould : List Int) (n : Int) : List Int := (List.range 3).map fun j => g need j - n * g mould j
def maxd : List Int → Int
  | [] => 0
  | y :: ys => ys.foldl (fun a b => if a < b then b else a) y
def most (moulds : List (List Int)) (j : Nat) : Int := maxd (moulds.map fun m => g m j)
def outOf (moulds : List (List Int)) (need : List Int) (total : Int) : Bool := (List.range 3).any fun j => decide (total * most moulds j < g need j)
/-- the i-th turn of the loop tries total - i shots -/
def greatest : List (List Int) → List Int → Nat → Option (List Int)
  | [], need, total => if outOf [] need total = true then none else if total = 0 then some [] else none
  | m :: ms, need, total => if outOf (m :: ms) need total = true then none else
      (List.range (total + 1)).findSome? fun (i : Nat) => (greatest ms (needAfter need m ((total : Int) - i)) i).map (((total : Int) - i) :: ·)
def findBest (moulds : List (List Int)) (demand : List Int) : Option (List Int) := (List.range 21).findSome? (greatest moulds demand)
def partsOf (moulds : List (List Int)) (plan : List Int) (j : Nat) : Int := ((plan.zip moulds).map fun p => p.1 * g p.2 j).sum
def produced (moulds : List (List Int)) (plan : List Int) : List Int := (List.range 3).map (partsOf moulds plan)
def suff (parts demand : List Int) : Bool := (List.range 3).all fun j => decide (g demand j ≤ g parts j)

def worth (prices parts : List Int) : Int := ((List.range 3).map fun j => g prices j * g parts j).sum
def feasible (moulds : List (List Int)) (level : Int) (prices : List Int) : Bool := moulds.all fun m => decide (worth prices m ≤ level)
def lower (demand : List Int) (level : Int) (prices : List Int) : Int := (worth prices demand + level - 1).fdiv level
def withOne (lists : List (List Int)) (level : Nat) : List (List Int) := lists.flatMap fun p => (List.range (level + 1)).map fun x => p ++ [Int.ofNat x]
def allPrices (level : Nat) : List (List Int) := withOne (withOne (withOne [[]] level) level) level
/-- one turn of the search: the best so far and its bound -/
def better (moulds : List (List Int)) (demand : List Int) (level : Int) (b : List Int × Int) (p : List Int) : List Int × Int :=
  if b.2 < lower demand level p ∧ feasible moulds level p = true then (p, lower demand level p) else b
def bestPrices (moulds : List (List Int)) (demand : List Int) (level : Nat) : List Int := ((allPrices level).foldl (better moulds demand level) ([0, 0, 0], 0)).1

def allIn (l : List Int) (hi : Int) : Bool := l.all fun x => decide (0 ≤ x ∧ x ≤ hi)
def totalBest (moulds : List (List Int)) (demand : List Int) : List Int := match findBest moulds demand with
  | none => [-33]
  | some p => [p.sum]
namespace M
def fresh : M := ⟨[], [0, 0, 0]⟩
def has (m : M) (i : Int) : Bool := decide (0 ≤ i ∧ i < m.moulds.length)
def addMould (m : M) (ys : List Int) : M × List Int :=
  if allIn ys 6 = false then (m, [-22]) else if m.moulds.length = 4 then (m, [-28]) else ({ m with moulds := m.moulds ++ [ys] }, [(m.moulds.length : Int)])
def removeMould (m : M) (i : Int) : M × List Int :=
  if m.has i = false then (m, [-2]) else ({ m with moulds := m.moulds.eraseIdx i.toNat }, [((m.moulds.eraseIdx i.toNat).length : Int)])
def setMould (m : M) (i : Int) (ys : List Int) : M × List Int :=
  if m.has i = false then (m, [-2]) else if allIn ys 6 = false then (m, [-22]) else ({ m with moulds := m.moulds.set i.toNat ys }, 0 :: m.moulds.getD i.toNat [])
def setDemand (m : M) (j n : Int) : M × List Int :=
  if decide (0 ≤ j ∧ j < 3) = false then (m, [-2]) else if decide (0 ≤ n ∧ n ≤ 40) = false then (m, [-22]) else ({ m with demand := m.demand.set j.toNat n }, [g m.demand j.toNat])
def setAll (m : M) (l : List Int) : M × List Int :=
  if l.length ≠ 3 ∨ allIn l 40 = false then (m, [-22]) else ({ m with demand := l }, [l.sum])
def minShots (m : M) : List Int := totalBest m.moulds m.demand
def bestPlan (m : M) : List Int := match findBest m.moulds m.demand with
  | none => [-33]
  | some p => p.sum :: p
def beyond (m : M) (p : List Int) : List Int := (List.range 3).map fun j => g (produced m.moulds p) j - g m.demand j
def surplus (m : M) : List Int := match findBest m.moulds m.demand with
  | none => [-33]
  | some p => (m.beyond p).sum :: m.beyond p
def checkPlan (m : M) (p : List Int) : List Int :=
  if p.length ≠ m.moulds.length ∨ allIn p 99 = false then [-22] else (if suff (produced m.moulds p) m.demand = true then 1 else 0) :: p.sum :: produced m.moulds p
def bestPrices (m : M) (level : Int) : List Int :=
  if decide (1 ≤ level ∧ level ≤ 6) = false then [-22] else lower m.demand level (Mo.bestPrices m.moulds m.demand level.toNat) :: Mo.bestPrices m.moulds m.demand level.toNat
def checkPrices (m : M) (level : Int) (p : List Int) : List Int :=
  if decide (1 ≤ level ∧ level ≤ 999) = false then [-22] else if p.length ≠ 3 ∨ allIn p 999 = false then [-22] else [if feasible m.moulds level p = true then 1 else 0, lower m.demand level p]
def dualityGap (m : M) (level : Int) : List Int :=
  if decide (1 ≤ level ∧ level ≤ 6) = false then [-22] else match findBest m.moulds m.demand with
    | none => [-33]
    | some p => [p.sum - lower m.demand level (Mo.bestPrices m.moulds m.demand level.toNat)]
def without (m : M) (i : Int) : List Int := if m.has i = false then [-2] else totalBest (m.moulds.eraseIdx i.toNat) m.demand
def minIf (m : M) (j n : Int) : List Int :=
  if decide (0 ≤ j ∧ j < 3) = false then [-2] else if decide (0 ≤ n ∧ n ≤ 40) = false then [-22] else totalBest m.moulds (m.demand.set j.toNat n)
def afterShots (m : M) (i n : Int) : List Int := (needAfter m.demand (m.moulds.getD i.toNat []) n).map fun x => if 0 < x then x else 0
def makeShots (m : M) (i n : Int) : M × List Int :=
  if m.has i = false then (m, [-2]) else if decide (1 ≤ n ∧ n ≤ 20) = false then (m, [-22]) else ({ m with demand := m.afterShots i n }, n :: m.afterShots i n)
def withOnly (m : M) (i : Int) : List Int := if m.has i = false then [-2] else totalBest [m.moulds.getD i.toNat []] m.demand
def describe (m : M) : List Int := (m.moulds.length : Int) :: m.moulds.flatten ++ m.demand
end M
/-- a call as it is read: its place, its single numbers, its row -/
structure CR where
  kind : Nat
  singles : List Int
  row : List Int
def stepM (m : M) (c : CR) : M × List Int := match c.kind with
  | 1 => m.addMould c.singles
  | 2 => m.removeMould (g c.singles 0)
  | 3 => m.setMould (g c.singles 0) (c.singles.drop 1)
  | 4 => m.setDemand (g c.singles 0) (g c.singles 1)
  | 5 => m.setAll c.row
  | 6 => (m, m.minShots)
  | 7 => (m, m.bestPlan)
  | 8 => (m, m.surplus)
  | 9 => (m, m.checkPlan c.row)
  | 10 => (m, m.bestPrices (g c.singles 0))
  | 11 => (m, m.checkPrices (g c.singles 0) c.row)
  | 12 => (m, m.dualityGap (g c.singles 0))
  | 13 => (m, m.without (g c.singles 0))
  | 14 => (m, m.minIf (g c.singles 0) (g c.singles 1))
  | 15 => m.makeShots (g c.singles 0) (g c.singles 1)
  | 16 => (m, m.withOnly (g c.singles 0))
  | _ => (m, m.describe)
def stepR (st : Option M) (c : CR) : Option M × List Int :=
  if c.kind = 0 then (some M.fresh, [0]) else match st with
    | none => (none, [-11])
    | some m => (some (stepM m c).1, (stepM m c).2)
/-- the state and what is given back behind some calls -/
def runR (cs : List CR) : Option M × List Int := cs.foldl (fun s c => ((stepR s.1 c).1, s.2 ++ ((stepR s.1 c).2.length : Int) :: (stepR s.1 c).2)) (none, [])
/-- how many single numbers a place has, and whether a row stands behind them -/
def form (k : Nat) : Nat × Bool := [(0, false), (3, false), (1, false), (4, false), (2, false), (0, true), (0, false), (0, false), (0, false), (0, true), (1, false), (1, true), (1, false), (1, false), (2, false), (2, false), (1, false), (0, false)].getD k (0, false)
def CR.enc (c : CR) : List Int := (c.kind : Int) :: c.singles ++ (if (form c.kind).2 = true then (c.row.length : Int) :: c.row else [])
structure CR.Ok (c : CR) : Prop where
  kind : c.kind < 18
  sing : c.singles.length = (form c.kind).1
  row : (form c.kind).2 = false → c.row = []
  len : c.row.length ≤ 70
structure M.Ok (m : M) : Prop where
  few : m.moulds.length ≤ 4
  rows : ∀ r ∈ m.moulds, r.length = 3
  dem : m.demand.length = 3
end Mo
/-! ### 2. The mathematics: the search for the best plan -/
namespace Mo
open SrCommon (natsToInts intsToNats)

theorem findSome_map {α β γ : Type} (f : α → Option β) (h : β → γ) : ∀ l : List α, (l.findSome? fun x => (f x).map h) = (l.findSome? f).map h
  | [] => rfl
  | a :: l => by
    simp only [List.findSome?_cons]
    cases f a with
    | none => simpa using findSome_map f h l
    | some b => simp
theorem findSome_congr {α β : Type} {f f' : α → Option β} : ∀ {l : List α}, (∀ x ∈ l, f x = f' x) → l.findSome? f = l.findSome? f'
  | [], _ => rfl
  | a :: l, h => by
    simp only [List.findSome?_cons, h a List.mem_cons_self]
    cases f' a with
    | none => exact findSome_congr fun x hx => h x (List.mem_cons_of_mem a hx)
    | some b => rfl
theorem find_congr {α : Type} {p q : α → Bool} : ∀ {l : List α}, (∀ x ∈ l, p x = q x) → l.find? p = l.find? q
  | [], _ => rfl
  | a :: l, h => by
    simp only [List.find?_cons, h a List.mem_cons_self]
    cases q a with
    | true => rfl
    | false => exact find_congr fun x hx => h x (List.mem_cons_of_mem a hx)

/-- what a plan makes of a kind, mould by mould -/
def prodN : List (List Nat) → List Nat → Nat → Nat
  | [], _, _ => 0
  | _ :: _, [], _ => 0
  | m :: ms, n :: p, j => n * m.getD j 0 + prodN ms p j
def meets (need : List Int) (ms : List (List Nat)) (p : List Nat) : Bool := (List.range 3).all fun j => decide (g need j ≤ (prodN ms p j : Int))

theorem g_nats (l : List Nat) (j : Nat) : g (natsToInts l) j = (l.getD j 0 : Int) := by
  unfold g natsToInts
  simp only [List.getD_eq_getElem?_getD, List.getElem?_map]
  cases l[j]? <;> rfl
theorem all3 {p : Nat → Bool} : (List.range 3).all p = true ↔ p 0 = true ∧ p 1 = true ∧ p 2 = true := by
  simp [show List.range 3 = [0, 1, 2] from rfl]
theorem any3 {p : Nat → Bool} : (List.range 3).any p = true ↔ p 0 = true ∨ p 1 = true ∨ p 2 = true := by
  simp [show List.range 3 = [0, 1, 2] from rfl]
theorem g_map3 (f : Nat → Int) {j : Nat} (h : j < 3) : g ((List.range 3).map f) j = f j := by
  unfold g
  have e : ∀ j, j < 3 → ((List.range 3).map f).getD j 0 = f j := by
    intro j h
    match j, h with
    | 0, _ => rfl
    | 1, _ => rfl
    | 2, _ => rfl
  exact e j h
theorem maxd_ge : ∀ (l : List Int) (y x : Int), (x = y ∨ x ∈ l) → x ≤ l.foldl (fun a b => if a < b then b else a) y
  | [], y, x, h => by
    rcases h with h | h
    · exact h ▸ Int.le_refl _
    · cases h
  | z :: l, y, x, h => by
    simp only [List.foldl_cons]
    by_cases c : y < z
    · rw [if_pos c]
      rcases h with h | h
      · exact Int.le_trans (by omega) (maxd_ge l z z (.inl rfl))
      · rcases List.mem_cons.mp h with h | h
        · exact maxd_ge l z x (.inl h)
        · exact maxd_ge l z x (.inr h)
    · rw [if_neg c]
      rcases h with h | h
      · exact maxd_ge l y x (.inl h)
      · rcases List.mem_cons.mp h with h | h
        · exact Int.le_trans (by omega) (maxd_ge l y y (.inl rfl))
        · exact maxd_ge l y x (.inr h)
theorem maxd_mem : ∀ (l : List Int) (y : Int), l.foldl (fun a b => if a < b then b else a) y ∈ y :: l
  | [], y => List.mem_cons_self
  | z :: l, y => by
    simp only [List.foldl_cons]
    by_cases c : y < z
    · rw [if_pos c]
      exact List.mem_cons_of_mem _ (maxd_mem l z)
    · rw [if_neg c]
      rcases List.mem_cons.mp (maxd_mem l y) with h | h
      · rw [h]
        exact List.mem_cons_self
      · exact List.mem_cons_of_mem _ (List.mem_cons_of_mem _ h)
/-- the greatest item, by what it is -/
theorem maxd_is {l : List Int} {m : Int} (h1 : m ∈ l) (h2 : ∀ y ∈ l, y ≤ m) : m = maxd l := by
  cases l with
  | nil => cases h1
  | cons y ys =>
    have a := maxd_ge ys y m (List.mem_cons.mp h1)
    have b := h2 _ (maxd_mem ys y)
    show m = ys.foldl (fun a b => if a < b then b else a) y
    omega
theorem maxd_le {l : List Int} {x : Int} (h : x ∈ l) : x ≤ maxd l := by
  cases l with
  | nil => cases h
  | cons y ys => exact maxd_ge ys y x (List.mem_cons.mp h)
theorem most_ge (ms : List (List Nat)) (j : Nat) {m : List Nat} (h : m ∈ ms) : (m.getD j 0 : Int) ≤ most (ms.map natsToInts) j := by
  refine maxd_le ?_
  rw [← g_nats]
  simp only [List.map_map]
  exact List.mem_map.mpr ⟨m, h, rfl⟩
theorem most_nn (ms : List (List Nat)) (j : Nat) : 0 ≤ most (ms.map natsToInts) j := by
  cases ms with
  | nil => exact Int.le_refl 0
  | cons m ms => exact Int.le_trans (Int.natCast_nonneg _) (most_ge (m :: ms) j List.mem_cons_self)
def sumN : List Nat → Nat
  | [] => 0
  | n :: l => n + sumN l
theorem prod_most (q : Int) (hq : 0 ≤ q) (j : Nat) : ∀ (ms : List (List Nat)) (p : List Nat), (∀ m ∈ ms, (m.getD j 0 : Int) ≤ q) → (prodN ms p j : Int) ≤ (sumN p : Int) * q
  | [], p, _ => by
    show (0 : Int) ≤ _
    exact Int.mul_nonneg (Int.natCast_nonneg _) hq
  | _ :: _, [], _ => by
    show (0 : Int) ≤ ((0 : Nat) : Int) * q
    simp
  | m :: ms, n :: p, h => by
    have ih := prod_most q hq j ms p fun x hx => h x (List.mem_cons_of_mem m hx)
    have h1 : (n : Int) * (m.getD j 0 : Int) ≤ (n : Int) * q := Int.mul_le_mul_of_nonneg_left (h m List.mem_cons_self) (Int.natCast_nonneg _)
    show ((n * m.getD j 0 + prodN ms p j : Nat) : Int) ≤ ((n + sumN p : Nat) : Int) * q
    push_cast
    rw [Int.add_mul]
    omega
theorem plans_mem : ∀ (k total : Nat) (p : List Nat), p ∈ Sr122.plansWithTotal k total → p.length = k ∧ sumN p = total
  | 0, total, p, h => by
    unfold Sr122.plansWithTotal at h
    by_cases c : total = 0
    · rw [if_pos c] at h
      rw [List.mem_singleton.mp h, c]
      exact ⟨rfl, rfl⟩
    · rw [if_neg c] at h
      cases h
  | k + 1, total, p, h => by
    unfold Sr122.plansWithTotal at h
    obtain ⟨n, hn, h2⟩ := List.mem_flatMap.mp h
    obtain ⟨r, hr, e⟩ := List.mem_map.mp h2
    obtain ⟨i1, i2⟩ := plans_mem k (total - n) r hr
    have hn' : n < total + 1 := List.mem_range.mp (List.mem_reverse.mp hn)
    subst e
    refine ⟨by simp [i1], ?_⟩
    show n + sumN r = total
    omega
theorem rev_range (n : Nat) : (List.range (n + 1)).reverse = (List.range (n + 1)).map fun i => n - i := by
  apply List.ext_getElem
  · simp
  · intro i h1 h2
    simp at h1 h2 ⊢
theorem meets_cons (need : List Int) (m : List Nat) (ms : List (List Nat)) (n : Nat) (p : List Nat) : meets need (m :: ms) (n :: p) = meets (needAfter need (natsToInts m) (n : Int)) ms p := by
  have e : ∀ j, j < 3 → decide (g need j ≤ (prodN (m :: ms) (n :: p) j : Int)) = decide (g (needAfter need (natsToInts m) (n : Int)) j ≤ (prodN ms p j : Int)) := by
    intro j h
    unfold needAfter
    rw [g_map3 _ h, g_nats]
    have e2 : (prodN (m :: ms) (n :: p) j : Int) = (n : Int) * (m.getD j 0 : Int) + (prodN ms p j : Int) := by
      show ((n * m.getD j 0 + prodN ms p j : Nat) : Int) = _
      push_cast
      rfl
    rw [e2]
    congr 1
    apply propext
    constructor <;> intro h <;> omega
  unfold meets
  simp only [show List.range 3 = [0, 1, 2] from rfl, List.all_cons, List.all_nil]
  rw [e 0 (by omega), e 1 (by omega), e 2 (by omega)]
/-- the search gives the first plan of the list that meets the need -/
theorem greatest_is : ∀ (ms : List (List Nat)) (need : List Int) (total : Nat),
    greatest (ms.map natsToInts) need total = ((Sr122.plansWithTotal ms.length total).find? (meets need ms)).map natsToInts := by
  intro ms
  induction ms with
  | nil =>
    intro need total
    show (if outOf [] need total = true then none else if total = 0 then some [] else none) = ((if total = 0 then [[]] else []).find? (meets need [])).map natsToInts
    have e : outOf [] need total = !(meets need [] []) := by
      unfold outOf meets
      have e0 : ∀ j, most [] j = 0 := fun _ => rfl
      have e1 : ∀ j, (prodN [] [] j : Int) = 0 := fun _ => rfl
      simp only [show List.range 3 = [0, 1, 2] from rfl, List.all_cons, List.all_nil, List.any_cons, List.any_nil, e0, e1, Int.mul_zero]
      have e2 : ∀ x : Int, decide (0 < x) = !decide (x ≤ 0) := by
        intro x
        by_cases c : x ≤ 0
        · rw [decide_eq_true c, decide_eq_false (by omega)]
          rfl
        · rw [decide_eq_false c, decide_eq_true (by omega)]
          rfl
      rw [e2, e2, e2]
      cases decide (g need 0 ≤ 0) <;> cases decide (g need 1 ≤ 0) <;> cases decide (g need 2 ≤ 0) <;> rfl
    rw [e]
    by_cases c : total = 0
    · rw [if_pos c, if_pos c]
      cases h : meets need [] [] with
      | true => simp [h, natsToInts]
      | false => simp [h]
    · rw [if_neg c, if_neg c]
      simp
  | cons m ms ih =>
    intro need total
    show (if outOf ((m :: ms).map natsToInts) need total = true then none else
      (List.range (total + 1)).findSome? fun (i : Nat) => (greatest (ms.map natsToInts) (needAfter need (natsToInts m) ((total : Int) - i)) i).map (((total : Int) - i) :: ·)) = _
    by_cases c : outOf ((m :: ms).map natsToInts) need total = true
    · rw [if_pos c]
      have h : (Sr122.plansWithTotal (m :: ms).length total).find? (meets need (m :: ms)) = none := by
        rw [List.find?_eq_none]
        intro p hp hm
        obtain ⟨hl, hs⟩ := plans_mem _ _ p hp
        unfold outOf at c
        unfold meets at hm
        rw [any3] at c
        rw [all3] at hm
        have key : ∀ j, (prodN (m :: ms) p j : Int) ≤ (total : Int) * most ((m :: ms).map natsToInts) j := by
          intro j
          have := prod_most (most ((m :: ms).map natsToInts) j) (most_nn (m :: ms) j) j (m :: ms) p fun x hx => most_ge (m :: ms) j hx
          rw [hs] at this
          exact this
        have k0 := key 0
        have k1 := key 1
        have k2 := key 2
        simp only [decide_eq_true_eq] at c hm
        obtain ⟨m0, m1, m2⟩ := hm
        rcases c with c | c | c <;> omega
      rw [h]
      rfl
    · rw [if_neg c]
      show _ = ((((List.range (total + 1)).reverse).flatMap fun shots => (Sr122.plansWithTotal ms.length (total - shots)).map fun plan => shots :: plan).find? (meets need (m :: ms))).map natsToInts
      rw [rev_range, List.find?_flatMap, List.findSome?_map, ← findSome_map]
      refine findSome_congr fun i hi => ?_
      have hi' : i < total + 1 := List.mem_range.mp hi
      show _ = Option.map natsToInts (List.find? (meets need (m :: ms)) (List.map (fun plan => (total - i) :: plan) (Sr122.plansWithTotal ms.length (total - (total - i)))))
      rw [List.find?_map, show total - (total - i) = i by omega]
      have e1 : ((total : Int) - (i : Int)) = ((total - i : Nat) : Int) := by omega
      rw [e1, ih, find_congr (p := meets need (m :: ms) ∘ fun plan => (total - i) :: plan) (q := meets (needAfter need (natsToInts m) ((total - i : Nat) : Int)) ms) (fun p _ => meets_cons need m ms (total - i) p)]
      cases (Sr122.plansWithTotal ms.length i).find? (meets (needAfter need (natsToInts m) ((total - i : Nat) : Int)) ms) with
      | none => rfl
      | some p => rfl
end Mo
/-! ### 2. The mathematics: best plan, prices, the bound -/
namespace Mo
open SrCommon (natsToInts intsToNats)

theorem sum_fold : ∀ (l : List Nat) (a : Nat), l.foldl (· + ·) a = a + sumN l
  | [], a => rfl
  | n :: l, a => by
    show l.foldl (· + ·) (a + n) = a + (n + sumN l)
    rw [sum_fold l (a + n)]
    omega
theorem sum_is (l : List Nat) : SrCommon.sum l = sumN l := by
  unfold SrCommon.sum
  rw [sum_fold]
  omega
theorem sum_ints : ∀ l : List Nat, (natsToInts l).sum = (sumN l : Int)
  | [] => rfl
  | n :: l => by
    show (n : Int) + (natsToInts l).sum = ((n + sumN l : Nat) : Int)
    rw [sum_ints l]
    push_cast
    rfl
theorem prod_idx (j : Nat) : ∀ (ms : List (List Nat)) (p : List Nat), p.length = ms.length → sumN ((List.range ms.length).map fun i => p.getD i 0 * (ms.getD i []).getD j 0) = prodN ms p j
  | [], [], _ => rfl
  | m :: ms, n :: p, h => by
    have ih := prod_idx j ms p (by simpa using h)
    rw [List.length_cons, List.range_succ_eq_map, List.map_cons, List.map_map]
    show n * m.getD j 0 + sumN _ = n * m.getD j 0 + prodN ms p j
    rw [← ih]
    rfl
theorem produced_is (s : Sr122.Shop) (p : List Nat) (h : p.length = s.moulds.length) (j : Nat) : Sr122.produced s p j = prodN s.moulds p j := by
  unfold Sr122.produced
  rw [sum_is, ← prod_idx j s.moulds p h]
  rfl
theorem suff_is (s : Sr122.Shop) (p : List Nat) (h : p.length = s.moulds.length) : Sr122.isSufficient s p = meets (natsToInts s.demand) s.moulds p := by
  unfold Sr122.isSufficient meets
  have e : ∀ j, decide (Sr122.demandOf s j ≤ Sr122.produced s p j) = decide (g (natsToInts s.demand) j ≤ (prodN s.moulds p j : Int)) := by
    intro j
    rw [produced_is s p h, g_nats]
    congr 1
    apply propext
    show s.demand.getD j 0 ≤ _ ↔ _
    omega
  show (List.range 3).all _ = _
  simp only [e]
theorem findBest_is (s : Sr122.Shop) : findBest (s.moulds.map natsToInts) (natsToInts s.demand) = (Sr122.bestPlan s).map natsToInts := by
  unfold findBest Sr122.bestPlan
  rw [← findSome_map]
  refine findSome_congr fun t _ => ?_
  rw [greatest_is]
  congr 1
  exact find_congr fun p hp => (suff_is s p (plans_mem _ _ p hp).1).symm
theorem best_len {s : Sr122.Shop} {p : List Nat} (h : Sr122.bestPlan s = some p) : p.length = s.moulds.length ∧ meets (natsToInts s.demand) s.moulds p = true ∧ sumN p ≤ 20 := by
  unfold Sr122.bestPlan at h
  obtain ⟨t, ht, h2⟩ := List.exists_of_findSome?_eq_some h
  have hm := List.mem_of_find?_eq_some h2
  have hp := List.find?_some h2
  obtain ⟨a, b⟩ := plans_mem _ _ p hm
  refine ⟨a, (suff_is s p a).symm.trans hp, ?_⟩
  have : t < 21 := List.mem_range.mp ht
  omega
theorem partsOf_is (j : Nat) : ∀ (ms : List (List Nat)) (p : List Nat), partsOf (ms.map natsToInts) (natsToInts p) j = (prodN ms p j : Int)
  | [], p => by
    unfold partsOf
    simp [prodN]
  | m :: ms, [] => rfl
  | m :: ms, n :: p => by
    have ih := partsOf_is j ms p
    unfold partsOf at ih ⊢
    show (n : Int) * g (natsToInts m) j + _ = ((n * m.getD j 0 + prodN ms p j : Nat) : Int)
    rw [g_nats]
    push_cast
    rw [← ih]
    rfl
theorem produced_map (ms : List (List Nat)) (p : List Nat) : produced (ms.map natsToInts) (natsToInts p) = (List.range 3).map fun j => (prodN ms p j : Int) := by
  unfold produced
  exact List.map_congr_left fun j _ => partsOf_is j ms p

/-! prices -/
def worthN (p q : List Nat) : Nat := sumN ((List.range 3).map fun j => p.getD j 0 * q.getD j 0)
theorem worth_is (p q : List Nat) : worth (natsToInts p) (natsToInts q) = (worthN p q : Int) := by
  unfold worth worthN
  rw [← sum_ints]
  congr 1
  unfold natsToInts
  rw [List.map_map]
  refine List.map_congr_left fun j _ => ?_
  show g (natsToInts p) j * g (natsToInts q) j = ((p.getD j 0 * q.getD j 0 : Nat) : Int)
  rw [g_nats, g_nats]
  push_cast
  rfl
theorem lower_is (s : Sr122.Shop) (level : Nat) (hl : 1 ≤ level) (p : List Nat) : lower (natsToInts s.demand) (level : Int) (natsToInts p) = (Sr122.lowerBound s level p : Int) := by
  have e : Sr122.lowerBound s level p = (worthN p s.demand + level - 1) / level := by
    unfold Sr122.lowerBound
    rw [sum_is]
    rfl
  unfold lower
  rw [e, worth_is, show ((worthN p s.demand : Int) + (level : Int) - 1) = ((worthN p s.demand + level - 1 : Nat) : Int) by omega, Int.fdiv_eq_ediv_of_nonneg _ (Int.natCast_nonneg _)]
  exact (Int.natCast_ediv _ _).symm
theorem all_range_getD {α : Type} (d : α) (P : α → Bool) : ∀ l : List α, ((List.range l.length).all fun i => P (l.getD i d)) = l.all P
  | [] => rfl
  | a :: l => by
    rw [List.length_cons, List.range_succ_eq_map, List.all_cons, List.all_map, List.all_cons, ← all_range_getD d P l]
    rfl
theorem feasible_is (s : Sr122.Shop) (level : Nat) (hl : 1 ≤ level) (p : List Nat) (hp : p.length = 3) : feasible (s.moulds.map natsToInts) (level : Int) (natsToInts p) = Sr122.arePricesFeasible s level p := by
  unfold Sr122.arePricesFeasible
  rw [decide_eq_true hl, decide_eq_true (show p.length = Sr122.partTypes from hp), Bool.true_and, Bool.true_and]
  unfold feasible
  rw [List.all_map]
  have e : ∀ i, decide (SrCommon.sum ((List.range Sr122.partTypes).map fun j => p.getD j 0 * Sr122.yieldOf s i j) ≤ level) = decide (worthN p (s.moulds.getD i []) ≤ level) := by
    intro i
    rw [sum_is]
    rfl
  simp only [e]
  rw [all_range_getD [] (fun m => decide (worthN p m ≤ level)) s.moulds]
  congr 1
  funext m
  show decide (worth (natsToInts p) (natsToInts m) ≤ (level : Int)) = _
  rw [worth_is]
  congr 1
  apply propext
  omega
theorem prices_is (level : Nat) : allPrices level = (Sr122.priceLists level 3).map natsToInts := by
  unfold allPrices withOne
  simp only [Sr122.priceLists, List.flatMap_map, List.map_flatMap, List.flatMap_assoc, List.flatMap_cons, List.flatMap_nil, List.append_nil, List.nil_append, List.map_cons, List.map_nil]
  simp [natsToInts]
  simp only [List.map_eq_flatMap]
theorem prices_len (level : Nat) : ∀ (n : Nat) (p : List Nat), p ∈ Sr122.priceLists level n → p.length = n
  | 0, p, h => by
    unfold Sr122.priceLists at h
    rw [List.mem_singleton.mp h]
    rfl
  | n + 1, p, h => by
    unfold Sr122.priceLists at h
    obtain ⟨x, _, h2⟩ := List.mem_flatMap.mp h
    obtain ⟨r, hr, e⟩ := List.mem_map.mp h2
    rw [← e, List.length_cons, prices_len level n r hr]
theorem prices_head (level : Nat) : ∃ rest, Sr122.priceLists level 3 = [0, 0, 0] :: rest := by
  refine ⟨(Sr122.priceLists level 3).tail, ?_⟩
  simp [Sr122.priceLists, List.range_succ_eq_map]
/-- the specification's turn -/
def betterN (s : Sr122.Shop) (level : Nat) (best : Option (List Nat × Nat)) (prices : List Nat) : Option (List Nat × Nat) :=
  let bound := Sr122.lowerBound s level prices
  match best with
  | none => some (prices, bound)
  | some b => if b.2 < bound then some (prices, bound) else some b
theorem fold_prices (s : Sr122.Shop) (level : Nat) (hl : 1 ≤ level) : ∀ (l : List (List Nat)) (b : List Nat × Nat), (∀ p ∈ l, p.length = 3) → Sr122.arePricesFeasible s level b.1 = true →
    ∃ c : List Nat × Nat, (l.filter (Sr122.arePricesFeasible s level)).foldl (betterN s level) (some b) = some c ∧ Sr122.arePricesFeasible s level c.1 = true ∧
      (l.map natsToInts).foldl (better (s.moulds.map natsToInts) (natsToInts s.demand) (level : Int)) (natsToInts b.1, (b.2 : Int)) = (natsToInts c.1, (c.2 : Int))
  | [], b, _, hf => ⟨b, rfl, hf, rfl⟩
  | p :: l, b, h, hf => by
    have hp := h p List.mem_cons_self
    have h' : ∀ q ∈ l, q.length = 3 := fun q hq => h q (List.mem_cons_of_mem p hq)
    have eb : better (s.moulds.map natsToInts) (natsToInts s.demand) (level : Int) (natsToInts b.1, (b.2 : Int)) (natsToInts p) =
        if b.2 < Sr122.lowerBound s level p ∧ Sr122.arePricesFeasible s level p = true then (natsToInts p, (Sr122.lowerBound s level p : Int)) else (natsToInts b.1, (b.2 : Int)) := by
      unfold better
      rw [lower_is s level hl, feasible_is s level hl p hp]
      have e : ((b.2 : Int) < (Sr122.lowerBound s level p : Int)) = (b.2 < Sr122.lowerBound s level p) := propext (by omega)
      simp only [e]
    rw [List.map_cons, List.foldl_cons, eb]
    by_cases c : Sr122.arePricesFeasible s level p = true
    · rw [List.filter_cons_of_pos c, List.foldl_cons]
      by_cases d : b.2 < Sr122.lowerBound s level p
      · have e1 : betterN s level (some b) p = some (p, Sr122.lowerBound s level p) := if_pos d
        rw [e1, if_pos ⟨d, c⟩]
        exact fold_prices s level hl l (p, Sr122.lowerBound s level p) h' c
      · have e1 : betterN s level (some b) p = some b := if_neg d
        rw [e1, if_neg fun z => d z.1]
        exact fold_prices s level hl l b h' hf
    · rw [List.filter_cons_of_neg c, if_neg fun z => c z.2]
      exact fold_prices s level hl l b h' hf
theorem zero_prices (s : Sr122.Shop) (level : Nat) (hl : 1 ≤ level) : Sr122.arePricesFeasible s level [0, 0, 0] = true ∧ Sr122.lowerBound s level [0, 0, 0] = 0 := by
  have w : ∀ q : List Nat, worthN [0, 0, 0] q = 0 := by
    intro q
    unfold worthN
    simp [show List.range 3 = [0, 1, 2] from rfl, sumN]
  constructor
  · rw [← feasible_is s level hl [0, 0, 0] rfl]
    unfold feasible
    rw [List.all_map, List.all_eq_true]
    intro m _
    show decide (worth (natsToInts [0, 0, 0]) (natsToInts m) ≤ (level : Int)) = true
    rw [worth_is, w]
    exact decide_eq_true (by omega)
  · have e : Sr122.lowerBound s level [0, 0, 0] = (worthN [0, 0, 0] s.demand + level - 1) / level := by
      unfold Sr122.lowerBound
      rw [sum_is]
      rfl
    rw [e, w]
    exact Nat.div_eq_of_lt (by omega)
theorem bestPrices_is (s : Sr122.Shop) (level : Nat) (hl : 1 ≤ level) : bestPrices (s.moulds.map natsToInts) (natsToInts s.demand) level = natsToInts (Sr122.bestPrices s level) ∧
    Sr122.arePricesFeasible s level (Sr122.bestPrices s level) = true ∧ (Sr122.bestPrices s level).length = 3 := by
  obtain ⟨z1, z2⟩ := zero_prices s level hl
  obtain ⟨rest, hr⟩ := prices_head level
  have hlen := prices_len level 3
  rw [hr] at hlen
  obtain ⟨c, h1, h2, h3⟩ := fold_prices s level hl rest ([0, 0, 0], 0) (fun p hp => hlen p (List.mem_cons_of_mem _ hp)) z1
  have e1 : Sr122.bestPrices s level = c.1 := by
    have e : Sr122.bestPrices s level = ((((Sr122.priceLists level 3).filter (Sr122.arePricesFeasible s level)).foldl (betterN s level) none).map fun b => b.1).getD [] := rfl
    rw [e, hr, List.filter_cons_of_pos z1, List.foldl_cons]
    have e2 : betterN s level none [0, 0, 0] = some ([0, 0, 0], 0) := by
      show some (([0, 0, 0] : List Nat), Sr122.lowerBound s level [0, 0, 0]) = _
      rw [z2]
    rw [e2, h1]
    rfl
  have e3 : c.1.length = 3 := by
    have q := h2
    unfold Sr122.arePricesFeasible at q
    rw [Bool.and_eq_true, Bool.and_eq_true] at q
    exact of_decide_eq_true q.2.1
  rw [e1]
  refine ⟨?_, h2, e3⟩
  unfold bestPrices
  rw [prices_is, hr, List.map_cons, List.foldl_cons]
  have e2 : better (s.moulds.map natsToInts) (natsToInts s.demand) (level : Int) ([0, 0, 0], 0) (natsToInts [0, 0, 0]) = (natsToInts [0, 0, 0], ((0 : Nat) : Int)) := by
    unfold better
    rw [lower_is s level hl, z2, if_neg fun z => absurd z.1 (by show ¬ (0 : Int) < ((0 : Nat) : Int); omega)]
    rfl
  rw [e2, h3]

/-! weak duality -/
theorem worth_prod (p : List Nat) (level : Nat) : ∀ (ms : List (List Nat)) (x : List Nat), (∀ m ∈ ms, worthN p m ≤ level) →
    p.getD 0 0 * prodN ms x 0 + (p.getD 1 0 * prodN ms x 1 + p.getD 2 0 * prodN ms x 2) ≤ sumN x * level
  | [], x, _ => by simp [prodN]
  | _ :: _, [], _ => by simp [prodN]
  | m :: ms, n :: x, h => by
    have ih := worth_prod p level ms x fun q hq => h q (List.mem_cons_of_mem m hq)
    have h1 : n * worthN p m ≤ n * level := Nat.mul_le_mul_left n (h m List.mem_cons_self)
    have e : worthN p m = p.getD 0 0 * m.getD 0 0 + (p.getD 1 0 * m.getD 1 0 + (p.getD 2 0 * m.getD 2 0 + 0)) := rfl
    rw [e] at h1
    have e2 : sumN (n :: x) = n + sumN x := rfl
    rw [e2, Nat.add_mul]
    simp only [prodN]
    generalize p.getD 0 0 = a, p.getD 1 0 = b, p.getD 2 0 = c, m.getD 0 0 = u, m.getD 1 0 = v, m.getD 2 0 = w, prodN ms x 0 = r, prodN ms x 1 = s, prodN ms x 2 = t at *
    have f : a * (n * u + r) + (b * (n * v + s) + c * (n * w + t)) = n * (a * u + (b * v + (c * w + 0))) + (a * r + (b * s + c * t)) := by
      simp only [Nat.mul_add, Nat.mul_zero, Nat.mul_left_comm n]
      omega
    omega
theorem duality (s : Sr122.Shop) (level : Nat) (hl : 1 ≤ level) (p x : List Nat) (hf : Sr122.arePricesFeasible s level p = true) (hp : p.length = 3) (hm : meets (natsToInts s.demand) s.moulds x = true) :
    Sr122.lowerBound s level p ≤ sumN x := by
  have e : Sr122.lowerBound s level p = (worthN p s.demand + level - 1) / level := by
    unfold Sr122.lowerBound
    rw [sum_is]
    rfl
  rw [← feasible_is s level hl p hp] at hf
  unfold feasible at hf
  rw [List.all_map, List.all_eq_true] at hf
  have h1 : ∀ m ∈ s.moulds, worthN p m ≤ level := by
    intro m hm
    have q := of_decide_eq_true (hf m hm)
    rw [worth_is] at q
    omega
  have h2 := worth_prod p level s.moulds x h1
  unfold meets at hm
  rw [all3] at hm
  obtain ⟨m0, m1, m2⟩ := hm
  have q0 := of_decide_eq_true m0
  have q1 := of_decide_eq_true m1
  have q2 := of_decide_eq_true m2
  rw [g_nats] at q0 q1 q2
  have k0 : p.getD 0 0 * s.demand.getD 0 0 ≤ p.getD 0 0 * prodN s.moulds x 0 := Nat.mul_le_mul_left _ (by omega)
  have k1 : p.getD 1 0 * s.demand.getD 1 0 ≤ p.getD 1 0 * prodN s.moulds x 1 := Nat.mul_le_mul_left _ (by omega)
  have k2 : p.getD 2 0 * s.demand.getD 2 0 ≤ p.getD 2 0 * prodN s.moulds x 2 := Nat.mul_le_mul_left _ (by omega)
  have e2 : worthN p s.demand = p.getD 0 0 * s.demand.getD 0 0 + (p.getD 1 0 * s.demand.getD 1 0 + (p.getD 2 0 * s.demand.getD 2 0 + 0)) := rfl
  have h3 : worthN p s.demand ≤ sumN x * level := by
    rw [e2]
    omega
  rw [e]
  refine Nat.le_of_lt_succ ((Nat.div_lt_iff_lt_mul (by omega)).mpr ?_)
  rw [Nat.succ_mul]
  omega
end Mo
/-! ### 2. The mathematics: each call's answer -/
namespace Mo
open SrCommon (natsToInts intsToNats)

def toM (s : Sr122.Shop) : M := ⟨s.moulds.map natsToInts, natsToInts s.demand⟩
structure SOk (s : Sr122.Shop) : Prop where
  few : s.moulds.length ≤ 4
  rows : ∀ r ∈ s.moulds, r.length = 3
  dem : s.demand.length = 3
theorem SOk.m {s : Sr122.Shop} (h : SOk s) : (toM s).Ok where
  few := by
    show (s.moulds.map natsToInts).length ≤ 4
    rw [List.length_map]
    exact h.few
  rows := by
    intro r hr
    obtain ⟨q, hq, e⟩ := List.mem_map.mp hr
    rw [← e]
    show (q.map _).length = 3
    rw [List.length_map]
    exact h.rows q hq
  dem := by
    show (s.demand.map _).length = 3
    rw [List.length_map]
    exact h.dem
def toCall (c : CR) : Sr122.Call := match c.kind with
  | 0 => .create
  | 1 => .addMould (g c.singles 0) (g c.singles 1) (g c.singles 2)
  | 2 => .removeMould (g c.singles 0)
  | 3 => .setMould (g c.singles 0) (g c.singles 1) (g c.singles 2) (g c.singles 3)
  | 4 => .setDemand (g c.singles 0) (g c.singles 1)
  | 5 => .setAllDemand c.row
  | 6 => .minShots
  | 7 => .bestPlan
  | 8 => .surplus
  | 9 => .checkPlan c.row
  | 10 => .bestPrices (g c.singles 0)
  | 11 => .checkPrices (g c.singles 0) c.row
  | 12 => .dualityGap (g c.singles 0)
  | 13 => .minShotsWithout (g c.singles 0)
  | 14 => .minShotsIf (g c.singles 0) (g c.singles 1)
  | 15 => .makeShots (g c.singles 0) (g c.singles 1)
  | 16 => .minShotsWithOnly (g c.singles 0)
  | _ => .describe
def rowsOf (c : CR) : List (List Int) := ((c.kind : Int) :: c.singles) :: (if (form c.kind).2 = true then [c.row] else [])
/-- a call's answer as one list -/
def told1 (r : SrCommon.Result) : List Int := r.code :: r.values
/-- what a step is to be -/
structure Same1 (s : Sr122.Shop) (r : M × List Int) (o : Option Sr122.Shop × SrCommon.Result) : Prop where
  eq : r = (toM (o.1.getD s), told1 o.2)
  ok : SOk (o.1.getD s)
  len : r.2.length ≤ 20

theorem tt {b : Bool} (h : ¬ b = false) : b = true := by
  cases b with
  | true => rfl
  | false => exact absurd rfl h
theorem bool_ite {α : Type} (b : Bool) (x y : α) : (if b = false then x else y) = if b = true then y else x := by cases b <;> rfl
theorem in_is {x lo hi : Int} : decide (lo ≤ x ∧ x ≤ hi) = SrCommon.inRange x lo hi := by
  unfold SrCommon.inRange
  by_cases h1 : lo ≤ x <;> by_cases h2 : x ≤ hi <;> simp [h1, h2]
theorem allIn_is (l : List Int) (hi : Int) : allIn l hi = l.all fun x => SrCommon.inRange x 0 hi := by
  unfold allIn
  simp only [in_is]
theorem has_is (s : Sr122.Shop) (i : Int) : (toM s).has i = Sr122.isMould s i := by
  unfold M.has Sr122.isMould SrCommon.isIndex
  show decide (0 ≤ i ∧ i < ((s.moulds.map natsToInts).length : Int)) = _
  rw [List.length_map]
  by_cases h1 : 0 ≤ i <;> by_cases h2 : i < (s.moulds.length : Int) <;> simp [h1, h2]
theorem part_is (j : Int) : decide (0 ≤ j ∧ j < 3) = Sr122.isPartType j := by
  unfold Sr122.isPartType SrCommon.isIndex
  show _ = (decide (0 ≤ j) && decide (j < 3))
  by_cases h1 : 0 ≤ j <;> by_cases h2 : j < 3 <;> simp [h1, h2]
theorem nats_ints : ∀ {l : List Int}, (∀ x ∈ l, 0 ≤ x) → natsToInts (intsToNats l) = l
  | [], _ => rfl
  | x :: l, h => by
    have h0 := h x List.mem_cons_self
    have ih := nats_ints fun y hy => h y (List.mem_cons_of_mem x hy)
    show ((x.toNat : Nat) : Int) :: natsToInts (intsToNats l) = x :: l
    rw [ih, Int.toNat_of_nonneg h0]
theorem all_nn {l : List Int} {hi : Int} (h : allIn l hi = true) : ∀ x ∈ l, 0 ≤ x := by
  intro x hx
  unfold allIn at h
  rw [List.all_eq_true] at h
  exact (of_decide_eq_true (h x hx)).1
theorem err {s : Sr122.Shop} (h : SOk s) {z : Int} : Same1 s (toM s, [z]) (none, .ofCode z) := ⟨rfl, h, by show 1 ≤ 20; decide⟩
theorem ask {s : Sr122.Shop} (h : SOk s) {l : List Int} {r : SrCommon.Result} (e : l = told1 r) (hl : l.length ≤ 20) : Same1 s (toM s, l) (none, r) := ⟨by rw [e]; rfl, h, hl⟩
theorem in_nn {x hi : Int} (h : SrCommon.inRange x 0 hi = true) : 0 ≤ x := by
  unfold SrCommon.inRange at h
  rw [Bool.and_eq_true] at h
  exact of_decide_eq_true h.1
theorem is_nn {s : Sr122.Shop} {i : Int} (h : Sr122.isMould s i = true) : 0 ≤ i ∧ i.toNat < s.moulds.length := by
  unfold Sr122.isMould SrCommon.isIndex at h
  rw [Bool.and_eq_true] at h
  have a := of_decide_eq_true h.1
  have b := of_decide_eq_true h.2
  exact ⟨a, by omega⟩
theorem map_get {α β : Type} (f : α → β) (d : α) (e : β) (h : f d = e) : ∀ (l : List α) (i : Nat), (l.map f).getD i e = f (l.getD i d)
  | [], i => by simp [h]
  | a :: l, 0 => rfl
  | a :: l, i + 1 => by
    have := map_get f d e h l i
    simpa using this
theorem moulds_get (s : Sr122.Shop) (i : Nat) : (toM s).moulds.getD i [] = natsToInts (s.moulds.getD i []) := map_get natsToInts [] [] rfl s.moulds i
theorem map_erase {α β : Type} (f : α → β) : ∀ (l : List α) (i : Nat), (l.map f).eraseIdx i = (l.eraseIdx i).map f
  | [], _ => rfl
  | _ :: _, 0 => rfl
  | a :: l, i + 1 => by
    show f a :: (l.map f).eraseIdx i = f a :: (l.eraseIdx i).map f
    rw [map_erase f l i]
theorem yields3 {a b c : Int} : (allIn [a, b, c] 6 = false) = (Sr122.isYield a = false ∨ Sr122.isYield b = false ∨ Sr122.isYield c = false) := by
  rw [allIn_is]
  unfold Sr122.isYield
  simp only [List.all_cons, List.all_nil, Bool.and_true]
  cases SrCommon.inRange a 0 6 <;> cases SrCommon.inRange b 0 6 <;> cases SrCommon.inRange c 0 6 <;> simp
theorem yields_nn {a b c : Int} (h : ¬ (Sr122.isYield a = false ∨ Sr122.isYield b = false ∨ Sr122.isYield c = false)) : natsToInts [a.toNat, b.toNat, c.toNat] = [a, b, c] := by
  rw [← yields3] at h
  have h' : allIn [a, b, c] 6 = true := by
    cases e : allIn [a, b, c] 6 with
    | true => rfl
    | false => exact absurd e h
  exact nats_ints (all_nn h')
theorem add_is {s : Sr122.Shop} (h : SOk s) (a b c : Int) : Same1 s ((toM s).addMould [a, b, c]) (Sr122.perform s (.addMould a b c)) := by
  show Same1 s (if allIn [a, b, c] 6 = false then _ else _) (if Sr122.isYield a = false ∨ Sr122.isYield b = false ∨ Sr122.isYield c = false then _ else _)
  by_cases y : Sr122.isYield a = false ∨ Sr122.isYield b = false ∨ Sr122.isYield c = false
  · rw [if_pos (Eq.mpr yields3 y), if_pos y]
    exact err h
  · rw [if_neg (fun z => y (Eq.mp yields3 z)), if_neg y]
    have e : (toM s).moulds.length = s.moulds.length := List.length_map _
    rw [e]
    have f := h.few
    by_cases l : s.moulds.length = 4
    · rw [if_pos l, if_pos (show Sr122.maxMoulds ≤ s.moulds.length by show 4 ≤ _; omega)]
      exact err h
    · rw [if_neg l, if_neg (show ¬ Sr122.maxMoulds ≤ s.moulds.length by show ¬ 4 ≤ _; omega)]
      refine ⟨?_, ⟨?_, ?_, h.dem⟩, by show 1 ≤ 20; decide⟩
      · show ((⟨s.moulds.map natsToInts ++ [[a, b, c]], natsToInts s.demand⟩ : M), _) = ((⟨(s.moulds ++ [[a.toNat, b.toNat, c.toNat]]).map natsToInts, natsToInts s.demand⟩ : M), _)
        rw [List.map_append, List.map_cons, yields_nn y]
        rfl
      · show (s.moulds ++ [[a.toNat, b.toNat, c.toNat]]).length ≤ 4
        rw [List.length_append]
        show s.moulds.length + 1 ≤ 4
        omega
      · intro r hr
        rcases List.mem_append.mp hr with q | q
        · exact h.rows r q
        · rw [List.mem_singleton.mp q]
          rfl
theorem remove_is {s : Sr122.Shop} (h : SOk s) (i : Int) : Same1 s ((toM s).removeMould i) (Sr122.perform s (.removeMould i)) := by
  show Same1 s (if (toM s).has i = false then _ else _) (if Sr122.isMould s i = false then _ else _)
  rw [has_is]
  by_cases y : Sr122.isMould s i = false
  · simp only [if_pos y]
    exact err h
  · simp only [if_neg y]
    obtain ⟨i0, i1⟩ := is_nn (tt y)
    refine ⟨?_, ⟨?_, ?_, h.dem⟩, by show 1 ≤ 20; decide⟩
    · show ((⟨(s.moulds.map natsToInts).eraseIdx i.toNat, natsToInts s.demand⟩ : M), [(((s.moulds.map natsToInts).eraseIdx i.toNat).length : Int)]) = ((⟨(s.moulds.eraseIdx i.toNat).map natsToInts, natsToInts s.demand⟩ : M), [((s.moulds.length - 1 : Nat) : Int)])
      rw [map_erase, List.length_map, List.length_eraseIdx, if_pos i1]
    · show (s.moulds.eraseIdx i.toNat).length ≤ 4
      have := h.few
      rw [List.length_eraseIdx, if_pos i1]
      omega
    · intro r hr
      exact h.rows r (List.mem_of_mem_eraseIdx hr)
theorem map_set {α β : Type} (f : α → β) : ∀ (l : List α) (i : Nat) (x : α), (l.map f).set i (f x) = (l.set i x).map f
  | [], _, _ => rfl
  | _ :: _, 0, _ => rfl
  | a :: l, i + 1, x => by
    show f a :: (l.map f).set i (f x) = f a :: (l.set i x).map f
    rw [map_set f l i x]
theorem set_is {s : Sr122.Shop} (h : SOk s) (i a b c : Int) : Same1 s ((toM s).setMould i [a, b, c]) (Sr122.perform s (.setMould i a b c)) := by
  show Same1 s (if (toM s).has i = false then _ else if allIn [a, b, c] 6 = false then _ else _) (if Sr122.isMould s i = false then _ else if Sr122.isYield a = false ∨ Sr122.isYield b = false ∨ Sr122.isYield c = false then _ else _)
  rw [has_is]
  by_cases y : Sr122.isMould s i = false
  · simp only [if_pos y]
    exact err h
  · simp only [if_neg y]
    obtain ⟨i0, i1⟩ := is_nn (tt y)
    by_cases z : Sr122.isYield a = false ∨ Sr122.isYield b = false ∨ Sr122.isYield c = false
    · rw [if_pos (Eq.mpr yields3 z), if_pos z]
      exact err h
    · rw [if_neg (fun q => z (Eq.mp yields3 q)), if_neg z]
      refine ⟨?_, ⟨?_, ?_, h.dem⟩, ?_⟩
      · show ((⟨(s.moulds.map natsToInts).set i.toNat [a, b, c], natsToInts s.demand⟩ : M), 0 :: (toM s).moulds.getD i.toNat []) = ((⟨(s.moulds.set i.toNat [a.toNat, b.toNat, c.toNat]).map natsToInts, natsToInts s.demand⟩ : M), 0 :: natsToInts (s.moulds.getD i.toNat []))
        rw [← map_set, yields_nn z, moulds_get]
      · show (s.moulds.set i.toNat [a.toNat, b.toNat, c.toNat]).length ≤ 4
        rw [List.length_set]
        exact h.few
      · intro r hr
        rcases List.mem_or_eq_of_mem_set hr with q | q
        · exact h.rows r q
        · rw [q]
          rfl
      · show (0 :: (toM s).moulds.getD i.toNat []).length ≤ 20
        rw [moulds_get]
        show (List.map _ (s.moulds.getD i.toNat [])).length + 1 ≤ 20
        rw [List.length_map]
        have q := h.rows (s.moulds.getD i.toNat []) (by
          rw [List.getD_eq_getElem?_getD, List.getElem?_eq_getElem i1]
          exact List.getElem_mem i1)
        omega
theorem demand_is {s : Sr122.Shop} (h : SOk s) (j n : Int) : Same1 s ((toM s).setDemand j n) (Sr122.perform s (.setDemand j n)) := by
  show Same1 s (if decide (0 ≤ j ∧ j < 3) = false then _ else if decide (0 ≤ n ∧ n ≤ 40) = false then _ else _) (if Sr122.isPartType j = false then _ else if Sr122.isAmount n = false then _ else _)
  rw [part_is, in_is]
  by_cases y : Sr122.isPartType j = false
  · simp only [if_pos y]
    exact err h
  · simp only [if_neg y]
    by_cases z : SrCommon.inRange n 0 40 = false
    · rw [if_pos z, if_pos (show Sr122.isAmount n = false from z)]
      exact err h
    · rw [if_neg z, if_neg (show ¬ Sr122.isAmount n = false from z)]
      have n0 := in_nn (tt z)
      refine ⟨?_, ⟨h.few, h.rows, ?_⟩, by show 1 ≤ 20; decide⟩
      · show ((⟨s.moulds.map natsToInts, (natsToInts s.demand).set j.toNat n⟩ : M), [g (natsToInts s.demand) j.toNat]) = ((⟨s.moulds.map natsToInts, natsToInts (s.demand.set j.toNat n.toNat)⟩ : M), [(s.demand.getD j.toNat 0 : Int)])
        rw [g_nats]
        have e : (natsToInts s.demand).set j.toNat n = natsToInts (s.demand.set j.toNat n.toNat) := by
          have q := map_set (fun x : Nat => (x : Int)) s.demand j.toNat n.toNat
          rw [Int.toNat_of_nonneg n0] at q
          exact q
        rw [e]
      · show (s.demand.set j.toNat n.toNat).length = 3
        rw [List.length_set]
        exact h.dem
theorem setAll_is {s : Sr122.Shop} (h : SOk s) (l : List Int) : Same1 s ((toM s).setAll l) (Sr122.perform s (.setAllDemand l)) := by
  show Same1 s (if l.length ≠ 3 ∨ allIn l 40 = false then _ else _) (if l.length ≠ Sr122.partTypes ∨ l.all Sr122.isAmount = false then _ else _)
  have e : (l.all Sr122.isAmount) = allIn l 40 := (allIn_is l 40).symm
  rw [e]
  by_cases y : l.length ≠ 3 ∨ allIn l 40 = false
  · rw [if_pos y, if_pos (show l.length ≠ Sr122.partTypes ∨ allIn l 40 = false from y)]
    exact err h
  · rw [if_neg y, if_neg (show ¬ (l.length ≠ Sr122.partTypes ∨ allIn l 40 = false) from y)]
    have y1 : l.length = 3 := Decidable.byContradiction fun z => y (.inl z)
    have y2 : allIn l 40 = true := tt fun z => y (.inr z)
    have e2 := nats_ints (all_nn y2)
    refine ⟨?_, ⟨h.few, h.rows, ?_⟩, by show 1 ≤ 20; decide⟩
    · show ((⟨s.moulds.map natsToInts, l⟩ : M), [l.sum]) = ((⟨s.moulds.map natsToInts, natsToInts (intsToNats l)⟩ : M), [(SrCommon.sum (intsToNats l) : Int)])
      rw [sum_is, ← sum_ints, e2]
    · show (l.map _).length = 3
      rw [List.length_map, y1]
theorem total_is (s : Sr122.Shop) : totalBest (toM s).moulds (toM s).demand = told1 (Sr122.optionalCount (Sr122.minShots s)) := by
  unfold totalBest Sr122.minShots
  rw [show findBest (toM s).moulds (toM s).demand = _ from findBest_is s]
  cases Sr122.bestPlan s with
  | none => rfl
  | some p =>
    show [(natsToInts p).sum] = [(SrCommon.sum p : Int)]
    rw [sum_ints, sum_is]
theorem total_len (a : List (List Int)) (b : List Int) : (totalBest a b).length ≤ 20 := by
  unfold totalBest
  cases findBest a b <;> exact by show 1 ≤ 20; decide
theorem best_is {s : Sr122.Shop} (h : SOk s) : Same1 s (toM s, (toM s).bestPlan) (Sr122.perform s .bestPlan) := by
  refine ask h ?_ ?_
  · unfold M.bestPlan
    rw [show findBest (toM s).moulds (toM s).demand = _ from findBest_is s]
    cases Sr122.bestPlan s with
    | none => rfl
    | some p =>
      show (natsToInts p).sum :: natsToInts p = (SrCommon.sum p : Int) :: natsToInts p
      rw [sum_ints, sum_is]
  · unfold M.bestPlan
    rw [show findBest (toM s).moulds (toM s).demand = _ from findBest_is s]
    cases e : Sr122.bestPlan s with
    | none => exact by show 1 ≤ 20; decide
    | some p =>
      have q := (best_len e).1
      have f := h.few
      show (p.map _).length + 1 ≤ 20
      rw [List.length_map]
      omega
theorem surplus_list {s : Sr122.Shop} {p : List Nat} (e : Sr122.bestPlan s = some p) : (toM s).beyond (natsToInts p) = natsToInts (Sr122.surplus s p) := by
  obtain ⟨q1, q2, _⟩ := best_len e
  unfold M.beyond Sr122.surplus natsToInts
  rw [List.map_map]
  refine List.map_congr_left fun j hj => ?_
  have hj' : j < 3 := List.mem_range.mp hj
  show g (produced (s.moulds.map natsToInts) (natsToInts p)) j - g (natsToInts s.demand) j = ((Sr122.produced s p j - Sr122.demandOf s j : Nat) : Int)
  have k : g (natsToInts s.demand) j ≤ (prodN s.moulds p j : Int) := by
    unfold meets at q2
    rw [List.all_eq_true] at q2
    exact of_decide_eq_true (q2 j hj)
  rw [produced_map, g_map3 _ hj', produced_is s p q1]
  rw [g_nats] at k ⊢
  show _ = ((prodN s.moulds p j - s.demand.getD j 0 : Nat) : Int)
  omega
theorem surplus_is {s : Sr122.Shop} (h : SOk s) : Same1 s (toM s, (toM s).surplus) (Sr122.perform s .surplus) := by
  have e0 : (toM s).surplus = told1 (Sr122.perform s .surplus).2 ∧ (toM s).surplus.length ≤ 20 := by
    show (toM s).surplus = told1 (match Sr122.bestPlan s with
      | none => .ofCode SrCommon.noSolution
      | some plan => ⟨(SrCommon.sum (Sr122.surplus s plan) : Int), natsToInts (Sr122.surplus s plan)⟩) ∧ _
    unfold M.surplus
    rw [show findBest (toM s).moulds (toM s).demand = _ from findBest_is s]
    cases e : Sr122.bestPlan s with
    | none => exact ⟨rfl, by show 1 ≤ 20; decide⟩
    | some p =>
      refine ⟨?_, ?_⟩
      · show ((toM s).beyond (natsToInts p)).sum :: (toM s).beyond (natsToInts p) = (SrCommon.sum (Sr122.surplus s p) : Int) :: natsToInts (Sr122.surplus s p)
        rw [surplus_list e, sum_ints, sum_is]
      · show ((toM s).beyond (natsToInts p)).length + 1 ≤ 20
        unfold M.beyond
        rw [List.length_map]
        decide
  exact ask h e0.1 e0.2
theorem suffM_is {s : Sr122.Shop} {p : List Nat} (hp : p.length = s.moulds.length) : suff (produced (s.moulds.map natsToInts) (natsToInts p)) (natsToInts s.demand) = Sr122.isSufficient s p := by
  rw [suff_is s p hp, produced_map]
  unfold suff meets
  have e : ∀ j, j < 3 → decide (g (natsToInts s.demand) j ≤ g ((List.range 3).map fun j => (prodN s.moulds p j : Int)) j) = decide (g (natsToInts s.demand) j ≤ (prodN s.moulds p j : Int)) := by
    intro j hj
    rw [g_map3 _ hj]
  simp only [show List.range 3 = [0, 1, 2] from rfl, List.all_cons, List.all_nil] at e ⊢
  rw [e 0 (by omega), e 1 (by omega), e 2 (by omega)]
theorem check_is {s : Sr122.Shop} (h : SOk s) (l : List Int) : Same1 s (toM s, (toM s).checkPlan l) (Sr122.perform s (.checkPlan l)) := by
  have e : (l.all fun n => SrCommon.inRange n 0 99) = allIn l 99 := (allIn_is l 99).symm
  have eL : (toM s).moulds.length = s.moulds.length := List.length_map _
  have e0 : (Sr122.perform s (.checkPlan l)) = (none, if l.length ≠ s.moulds.length ∨ allIn l 99 = false then .ofCode SrCommon.invalidArgument
    else ⟨SrCommon.boolToInt (Sr122.isSufficient s (intsToNats l)), (SrCommon.sum (intsToNats l) : Int) :: natsToInts ((List.range Sr122.partTypes).map (Sr122.produced s (intsToNats l)))⟩) := by
    rw [← e]
    rfl
  rw [e0]
  refine ask h ?_ ?_
  · unfold M.checkPlan
    rw [eL]
    by_cases y : l.length ≠ s.moulds.length ∨ allIn l 99 = false
    · rw [if_pos y, if_pos y]
      rfl
    · rw [if_neg y, if_neg y]
      have y1 : l.length = s.moulds.length := Decidable.byContradiction fun z => y (.inl z)
      have y2 : allIn l 99 = true := tt fun z => y (.inr z)
      have e2 := nats_ints (all_nn y2)
      generalize intsToNats l = p at e2 ⊢
      subst e2
      have y3 : p.length = s.moulds.length := by rw [← y1]; exact (List.length_map _).symm
      show (if suff (produced (s.moulds.map natsToInts) (natsToInts p)) (natsToInts s.demand) = true then (1 : Int) else 0) :: (natsToInts p).sum :: produced (s.moulds.map natsToInts) (natsToInts p) =
        (if Sr122.isSufficient s p = true then (1 : Int) else 0) :: (SrCommon.sum p : Int) :: natsToInts ((List.range 3).map (Sr122.produced s p))
      rw [suffM_is y3, sum_ints, sum_is, produced_map]
      congr 2
      unfold natsToInts
      rw [List.map_map]
      refine List.map_congr_left fun j _ => ?_
      show _ = (Sr122.produced s p j : Int)
      rw [produced_is s p y3]
  · unfold M.checkPlan
    by_cases y : l.length ≠ (toM s).moulds.length ∨ allIn l 99 = false
    · rw [if_pos y]
      exact by show 1 ≤ 20; decide
    · rw [if_neg y]
      exact by show 5 ≤ 20; decide
theorem level_nat {level hi : Int} (h : SrCommon.inRange level 1 hi = true) : 1 ≤ level.toNat ∧ ((level.toNat : Nat) : Int) = level := by
  unfold SrCommon.inRange at h
  rw [Bool.and_eq_true] at h
  have a := of_decide_eq_true h.1
  omega
theorem bprices_is {s : Sr122.Shop} (h : SOk s) (level : Int) : Same1 s (toM s, (toM s).bestPrices level) (Sr122.perform s (.bestPrices level)) := by
  have e0 : (toM s).bestPrices level = told1 (Sr122.perform s (.bestPrices level)).2 ∧ ((toM s).bestPrices level).length ≤ 20 := by
    show (if decide (1 ≤ level ∧ level ≤ 6) = false then _ else _) = told1 (if Sr122.isSearchLevel level = false then _ else _) ∧ (if decide (1 ≤ level ∧ level ≤ 6) = false then _ else _ : List Int).length ≤ 20
    rw [in_is]
    by_cases y : SrCommon.inRange level 1 6 = false
    · rw [if_pos y, if_pos (show Sr122.isSearchLevel level = false from y)]
      exact ⟨rfl, by show 1 ≤ 20; decide⟩
    · rw [if_neg y, if_neg (show ¬ Sr122.isSearchLevel level = false from y)]
      obtain ⟨l1, l2⟩ := level_nat (tt y)
      obtain ⟨b1, b2, b3⟩ := bestPrices_is s level.toNat l1
      have e1 : Mo.bestPrices (toM s).moulds (toM s).demand level.toNat = natsToInts (Sr122.bestPrices s level.toNat) := b1
      rw [e1]
      have e2 : lower (toM s).demand level (natsToInts (Sr122.bestPrices s level.toNat)) = (Sr122.lowerBound s level.toNat (Sr122.bestPrices s level.toNat) : Int) := by
        have q := lower_is s level.toNat l1 (Sr122.bestPrices s level.toNat)
        rw [l2] at q
        exact q
      rw [e2]
      refine ⟨rfl, ?_⟩
      show (List.map _ (Sr122.bestPrices s level.toNat)).length + 1 ≤ 20
      rw [List.length_map, b3]
      decide
  exact ask h e0.1 e0.2
theorem cprices_is {s : Sr122.Shop} (h : SOk s) (level : Int) (l : List Int) : Same1 s (toM s, (toM s).checkPrices level l) (Sr122.perform s (.checkPrices level l)) := by
  have e : (l.all fun n => SrCommon.inRange n 0 999) = allIn l 999 := (allIn_is l 999).symm
  have e0 : (Sr122.perform s (.checkPrices level l)) = (none, if SrCommon.inRange level 1 999 = false ∨ l.length ≠ Sr122.partTypes ∨ allIn l 999 = false then .ofCode SrCommon.invalidArgument
    else ⟨SrCommon.boolToInt (Sr122.arePricesFeasible s level.toNat (intsToNats l)), [(Sr122.lowerBound s level.toNat (intsToNats l) : Int)]⟩) := by
    rw [← e]
    rfl
  rw [e0]
  have e1 : (toM s).checkPrices level l = told1 (if SrCommon.inRange level 1 999 = false ∨ l.length ≠ Sr122.partTypes ∨ allIn l 999 = false then .ofCode SrCommon.invalidArgument
    else ⟨SrCommon.boolToInt (Sr122.arePricesFeasible s level.toNat (intsToNats l)), [(Sr122.lowerBound s level.toNat (intsToNats l) : Int)]⟩) ∧ ((toM s).checkPrices level l).length ≤ 20 := by
    unfold M.checkPrices
    rw [in_is]
    by_cases y : SrCommon.inRange level 1 999 = false
    · rw [if_pos y, if_pos (Or.inl y)]
      exact ⟨rfl, by show 1 ≤ 20; decide⟩
    · rw [if_neg y]
      by_cases z : l.length ≠ 3 ∨ allIn l 999 = false
      · rw [if_pos z, if_pos (show SrCommon.inRange level 1 999 = false ∨ l.length ≠ Sr122.partTypes ∨ allIn l 999 = false from Or.inr z)]
        exact ⟨rfl, by show 1 ≤ 20; decide⟩
      · rw [if_neg z, if_neg (show ¬ (SrCommon.inRange level 1 999 = false ∨ l.length ≠ Sr122.partTypes ∨ allIn l 999 = false) from fun q => Or.elim q y z)]
        obtain ⟨l1, l2⟩ := level_nat (tt y)
        have y1 : l.length = 3 := Decidable.byContradiction fun q => z (.inl q)
        have y2 : allIn l 999 = true := tt fun q => z (.inr q)
        have e2 := nats_ints (all_nn y2)
        generalize intsToNats l = p at e2 ⊢
        subst e2
        have y3 : p.length = 3 := by rw [← y1]; exact (List.length_map _).symm
        refine ⟨?_, by show 2 ≤ 20; decide⟩
        show [if feasible (s.moulds.map natsToInts) level (natsToInts p) = true then (1 : Int) else 0, lower (natsToInts s.demand) level (natsToInts p)] = [if Sr122.arePricesFeasible s level.toNat p = true then (1 : Int) else 0, (Sr122.lowerBound s level.toNat p : Int)]
        have q1 := feasible_is s level.toNat l1 p y3
        have q2 := lower_is s level.toNat l1 p
        rw [l2] at q1 q2
        rw [q1, q2]
  exact ask h e1.1 e1.2
theorem gap_is {s : Sr122.Shop} (h : SOk s) (level : Int) : Same1 s (toM s, (toM s).dualityGap level) (Sr122.perform s (.dualityGap level)) := by
  have e0 : (toM s).dualityGap level = told1 (Sr122.perform s (.dualityGap level)).2 ∧ ((toM s).dualityGap level).length ≤ 20 := by
    show (if decide (1 ≤ level ∧ level ≤ 6) = false then _ else _) = told1 (if Sr122.isSearchLevel level = false then _ else _) ∧ (if decide (1 ≤ level ∧ level ≤ 6) = false then _ else _ : List Int).length ≤ 20
    rw [in_is]
    by_cases y : SrCommon.inRange level 1 6 = false
    · rw [if_pos y, if_pos (show Sr122.isSearchLevel level = false from y)]
      exact ⟨rfl, by show 1 ≤ 20; decide⟩
    · rw [if_neg y, if_neg (show ¬ Sr122.isSearchLevel level = false from y)]
      rw [show findBest (toM s).moulds (toM s).demand = _ from findBest_is s]
      unfold Sr122.minShots
      cases e : Sr122.bestPlan s with
      | none => exact ⟨rfl, by show 1 ≤ 20; decide⟩
      | some p =>
        obtain ⟨l1, l2⟩ := level_nat (tt y)
        obtain ⟨b1, b2, b3⟩ := bestPrices_is s level.toNat l1
        have e1 : Mo.bestPrices (toM s).moulds (toM s).demand level.toNat = natsToInts (Sr122.bestPrices s level.toNat) := b1
        have e2 : lower (toM s).demand level (natsToInts (Sr122.bestPrices s level.toNat)) = (Sr122.lowerBound s level.toNat (Sr122.bestPrices s level.toNat) : Int) := by
          have q := lower_is s level.toNat l1 (Sr122.bestPrices s level.toNat)
          rw [l2] at q
          exact q
        have d := duality s level.toNat l1 (Sr122.bestPrices s level.toNat) p b2 b3 (best_len e).2.1
        refine ⟨?_, by show 1 ≤ 20; decide⟩
        show [(natsToInts p).sum - lower (toM s).demand level (Mo.bestPrices (toM s).moulds (toM s).demand level.toNat)] = [((SrCommon.sum p - Sr122.lowerBound s level.toNat (Sr122.bestPrices s level.toNat) : Nat) : Int)]
        rw [e1, e2, sum_ints, sum_is]
        congr 1
        omega
  exact ask h e0.1 e0.2
theorem without_is {s : Sr122.Shop} (h : SOk s) (i : Int) : Same1 s (toM s, (toM s).without i) (Sr122.perform s (.minShotsWithout i)) := by
  have e0 : (toM s).without i = told1 (Sr122.perform s (.minShotsWithout i)).2 ∧ ((toM s).without i).length ≤ 20 := by
    show (if (toM s).has i = false then _ else _) = told1 (if Sr122.isMould s i = false then _ else _) ∧ (if (toM s).has i = false then _ else _ : List Int).length ≤ 20
    rw [has_is]
    by_cases y : Sr122.isMould s i = false
    · simp only [if_pos y]
      exact ⟨rfl, by show 1 ≤ 20; decide⟩
    · simp only [if_neg y]
      refine ⟨?_, total_len _ _⟩
      rw [← total_is]
      show totalBest ((s.moulds.map natsToInts).eraseIdx i.toNat) _ = totalBest ((s.moulds.eraseIdx i.toNat).map natsToInts) _
      rw [map_erase]
      rfl
  exact ask h e0.1 e0.2
theorem minIf_is {s : Sr122.Shop} (h : SOk s) (j n : Int) : Same1 s (toM s, (toM s).minIf j n) (Sr122.perform s (.minShotsIf j n)) := by
  have e0 : (toM s).minIf j n = told1 (Sr122.perform s (.minShotsIf j n)).2 ∧ ((toM s).minIf j n).length ≤ 20 := by
    show (if decide (0 ≤ j ∧ j < 3) = false then _ else if decide (0 ≤ n ∧ n ≤ 40) = false then _ else _) = told1 (if Sr122.isPartType j = false then _ else if Sr122.isAmount n = false then _ else _) ∧
      (if decide (0 ≤ j ∧ j < 3) = false then _ else if decide (0 ≤ n ∧ n ≤ 40) = false then _ else _ : List Int).length ≤ 20
    rw [part_is, in_is]
    by_cases y : Sr122.isPartType j = false
    · simp only [if_pos y]
      exact ⟨rfl, by show 1 ≤ 20; decide⟩
    · simp only [if_neg y]
      by_cases z : SrCommon.inRange n 0 40 = false
      · rw [if_pos z, if_pos (show Sr122.isAmount n = false from z)]
        exact ⟨rfl, by show 1 ≤ 20; decide⟩
      · rw [if_neg z, if_neg (show ¬ Sr122.isAmount n = false from z)]
        have n0 := in_nn (tt z)
        refine ⟨?_, total_len _ _⟩
        rw [← total_is]
        have e : (natsToInts s.demand).set j.toNat n = natsToInts (s.demand.set j.toNat n.toNat) := by
          have q := map_set (fun x : Nat => (x : Int)) s.demand j.toNat n.toNat
          rw [Int.toNat_of_nonneg n0] at q
          exact q
        show totalBest _ ((natsToInts s.demand).set j.toNat n) = totalBest _ (natsToInts (s.demand.set j.toNat n.toNat))
        rw [e]
        rfl
  exact ask h e0.1 e0.2
theorem after_is {s : Sr122.Shop} {i n : Int} (hn : 0 ≤ n) : (toM s).afterShots i n = natsToInts (Sr122.demandAfter s i.toNat n.toNat) := by
  unfold M.afterShots needAfter Sr122.demandAfter natsToInts
  rw [List.map_map, List.map_map]
  refine List.map_congr_left fun j _ => ?_
  show (if 0 < g (natsToInts s.demand) j - n * g ((toM s).moulds.getD i.toNat []) j then g (natsToInts s.demand) j - n * g ((toM s).moulds.getD i.toNat []) j else 0) = ((s.demand.getD j 0 - n.toNat * (s.moulds.getD i.toNat []).getD j 0 : Nat) : Int)
  rw [moulds_get, g_nats, g_nats]
  have e : n * ((s.moulds.getD i.toNat []).getD j 0 : Int) = ((n.toNat * (s.moulds.getD i.toNat []).getD j 0 : Nat) : Int) := by
    push_cast
    rw [Int.toNat_of_nonneg hn]
  rw [e]
  by_cases c : 0 < ((s.demand.getD j 0 : Nat) : Int) - ((n.toNat * (s.moulds.getD i.toNat []).getD j 0 : Nat) : Int)
  · rw [if_pos c]
    omega
  · rw [if_neg c]
    omega
theorem make_is {s : Sr122.Shop} (h : SOk s) (i n : Int) : Same1 s ((toM s).makeShots i n) (Sr122.perform s (.makeShots i n)) := by
  show Same1 s (if (toM s).has i = false then _ else if decide (1 ≤ n ∧ n ≤ 20) = false then _ else _) (if Sr122.isMould s i = false then _ else if SrCommon.inRange n 1 Sr122.maxShots = false then _ else _)
  rw [has_is, in_is]
  by_cases y : Sr122.isMould s i = false
  · simp only [if_pos y]
    exact err h
  · simp only [if_neg y]
    by_cases z : SrCommon.inRange n 1 20 = false
    · rw [if_pos z, if_pos (show SrCommon.inRange n 1 Sr122.maxShots = false from z)]
      exact err h
    · rw [if_neg z, if_neg (show ¬ SrCommon.inRange n 1 Sr122.maxShots = false from z)]
      have n0 : 0 ≤ n := by
        have := level_nat (tt z)
        omega
      refine ⟨?_, ⟨h.few, h.rows, rfl⟩, by show 4 ≤ 20; decide⟩
      show ((⟨(toM s).moulds, (toM s).afterShots i n⟩ : M), n :: (toM s).afterShots i n) = ((⟨s.moulds.map natsToInts, natsToInts (Sr122.demandAfter s i.toNat n.toNat)⟩ : M), n :: natsToInts (Sr122.demandAfter s i.toNat n.toNat))
      rw [after_is n0]
      rfl
theorem only_is {s : Sr122.Shop} (h : SOk s) (i : Int) : Same1 s (toM s, (toM s).withOnly i) (Sr122.perform s (.minShotsWithOnly i)) := by
  have e0 : (toM s).withOnly i = told1 (Sr122.perform s (.minShotsWithOnly i)).2 ∧ ((toM s).withOnly i).length ≤ 20 := by
    show (if (toM s).has i = false then _ else _) = told1 (if Sr122.isMould s i = false then _ else _) ∧ (if (toM s).has i = false then _ else _ : List Int).length ≤ 20
    rw [has_is]
    by_cases y : Sr122.isMould s i = false
    · simp only [if_pos y]
      exact ⟨rfl, by show 1 ≤ 20; decide⟩
    · simp only [if_neg y]
      refine ⟨?_, total_len _ _⟩
      rw [← total_is, moulds_get]
      rfl
  exact ask h e0.1 e0.2
theorem flat_len : ∀ (l : List (List Nat)), (∀ r ∈ l, r.length = 3) → ((l.map natsToInts).flatten).length = 3 * l.length
  | [], _ => rfl
  | r :: l, h => by
    have ih := flat_len l fun q hq => h q (List.mem_cons_of_mem r hq)
    rw [List.map_cons, List.flatten_cons, List.length_append, ih]
    show (List.map _ r).length + _ = _
    rw [List.length_map, h r List.mem_cons_self, List.length_cons]
    omega
theorem describe_is {s : Sr122.Shop} (h : SOk s) : Same1 s (toM s, (toM s).describe) (Sr122.perform s .describe) := by
  refine ask h ?_ ?_
  · show ((toM s).moulds.length : Int) :: (s.moulds.map natsToInts).flatten ++ natsToInts s.demand = (s.moulds.length : Int) :: (s.moulds.flatMap natsToInts ++ natsToInts s.demand)
    rw [show (toM s).moulds.length = s.moulds.length from List.length_map _, List.flatMap_def]
    rfl
  · show (((toM s).moulds.length : Int) :: (s.moulds.map natsToInts).flatten ++ natsToInts s.demand).length ≤ 20
    rw [List.length_append, List.length_cons, flat_len s.moulds h.rows]
    have q : (natsToInts s.demand).length = 3 := (List.length_map _).trans h.dem
    have := h.few
    omega
end Mo
/-! ### 2. The mathematics: how the list is taken apart, and the whole -/
namespace Mo
open SrCommon (natsToInts intsToNats)

theorem fit {c : CR} (hc : c.Ok) : Sr122Neutral.parseCall (rowsOf c) = some (toCall c) := by
  obtain ⟨k, s, r⟩ := c
  obtain ⟨h1, h2, h3, _⟩ := hc
  simp only at h1 h2 h3
  have two : ∀ s : List Int, s.length = 2 → ∃ a b, s = [a, b] := by
    intro s h
    match s, h with
    | [a, b], _ => exact ⟨a, b, rfl⟩
  have one : ∀ s : List Int, s.length = 1 → ∃ a, s = [a] := by
    intro s h
    match s, h with
    | [a], _ => exact ⟨a, rfl⟩
  match k, h1 with
  | 0, _ => obtain rfl := List.eq_nil_of_length_eq_zero h2; rfl
  | 1, _ =>
    match s, h2 with
    | [a, b, c], _ => rfl
  | 2, _ => obtain ⟨a, rfl⟩ := one s h2; rfl
  | 3, _ =>
    match s, h2 with
    | [a, b, c, d], _ => rfl
  | 4, _ => obtain ⟨a, b, rfl⟩ := two s h2; rfl
  | 5, _ => obtain rfl := List.eq_nil_of_length_eq_zero h2; rfl
  | 6, _ => obtain rfl := List.eq_nil_of_length_eq_zero h2; rfl
  | 7, _ => obtain rfl := List.eq_nil_of_length_eq_zero h2; rfl
  | 8, _ => obtain rfl := List.eq_nil_of_length_eq_zero h2; rfl
  | 9, _ => obtain rfl := List.eq_nil_of_length_eq_zero h2; rfl
  | 10, _ => obtain ⟨a, rfl⟩ := one s h2; rfl
  | 11, _ => obtain ⟨a, rfl⟩ := one s h2; rfl
  | 12, _ => obtain ⟨a, rfl⟩ := one s h2; rfl
  | 13, _ => obtain ⟨a, rfl⟩ := one s h2; rfl
  | 14, _ => obtain ⟨a, b, rfl⟩ := two s h2; rfl
  | 15, _ => obtain ⟨a, b, rfl⟩ := two s h2; rfl
  | 16, _ => obtain ⟨a, rfl⟩ := one s h2; rfl
  | 17, _ => obtain rfl := List.eq_nil_of_length_eq_zero h2; rfl
  | k + 18, h => exact absurd h (by omega)
/-- one call on an instance -/
theorem step_is {s : Sr122.Shop} (h : SOk s) {c : CR} (hc : c.Ok) (hk : c.kind ≠ 0) : Same1 s (stepM (toM s) c) (Sr122.perform s (toCall c)) := by
  obtain ⟨k, l, r⟩ := c
  obtain ⟨h1, h2, h3, _⟩ := hc
  simp only at h1 h2 h3 hk
  match k, h1 with
  | 0, _ => exact absurd rfl hk
  | 1, _ =>
    match l, h2 with
    | [a, b, c], _ => exact add_is h a b c
  | 2, _ => exact remove_is h (g l 0)
  | 3, _ =>
    match l, h2 with
    | [a, b, c, d], _ => exact set_is h a b c d
  | 4, _ => exact demand_is h (g l 0) (g l 1)
  | 5, _ => exact setAll_is h r
  | 6, _ => exact ask h (total_is s) (total_len _ _)
  | 7, _ => exact best_is h
  | 8, _ => exact surplus_is h
  | 9, _ => exact check_is h r
  | 10, _ => exact bprices_is h (g l 0)
  | 11, _ => exact cprices_is h (g l 0) r
  | 12, _ => exact gap_is h (g l 0)
  | 13, _ => exact without_is h (g l 0)
  | 14, _ => exact minIf_is h (g l 0) (g l 1)
  | 15, _ => exact make_is h (g l 0) (g l 1)
  | 16, _ => exact only_is h (g l 0)
  | 17, _ => exact describe_is h
  | k + 18, h => exact absurd h (by omega)
def OOk (o : Option Sr122.Shop) : Prop := ∀ s, o = some s → SOk s
theorem fresh_ok : SOk ⟨[], [0, 0, 0]⟩ := ⟨by decide, fun r h => (List.not_mem_nil h).elim, rfl⟩
theorem whole_step {o : Option Sr122.Shop} (h : OOk o) {c : CR} (hc : c.Ok) :
    stepR (o.map toM) c = ((Sr122Neutral.step o (rowsOf c)).1.map toM, (Sr122Neutral.step o (rowsOf c)).2) ∧ OOk (Sr122Neutral.step o (rowsOf c)).1 ∧ (stepR (o.map toM) c).2.length ≤ 20 := by
  have e : Sr122Neutral.step o (rowsOf c) = ((Sr122.step o (toCall c)).1, told1 (Sr122.step o (toCall c)).2) := by
    unfold Sr122Neutral.step
    rw [fit hc]
    rfl
  rw [e]
  by_cases hk : c.kind = 0
  · have e1 : toCall c = .create := by
      obtain ⟨k, l, r⟩ := c
      have hk' : k = 0 := hk
      subst hk'
      rfl
    rw [e1]
    unfold stepR
    rw [if_pos hk]
    refine ⟨rfl, fun s hs => ?_, by show 1 ≤ 20; decide⟩
    have hs' : (⟨[], [0, 0, 0]⟩ : Sr122.Shop) = s := Option.some.inj hs
    rw [← hs']
    exact fresh_ok
  · have ne : toCall c ≠ .create := by
      obtain ⟨k, l, r⟩ := c
      have h1 := hc.kind
      simp only at hk h1
      unfold toCall
      match k, h1 with
      | 0, _ => exact absurd rfl hk
      | 1, _ | 2, _ | 3, _ | 4, _ | 5, _ | 6, _ | 7, _ | 8, _ | 9, _ | 10, _ | 11, _ | 12, _ | 13, _ | 14, _ | 15, _ | 16, _ | 17, _ => exact fun z => by cases z
      | k + 18, h => exact absurd h (by omega)
    cases o with
    | none =>
      have e2 : Sr122.step none (toCall c) = (none, .ofCode SrCommon.notCreated) := by
        cases e3 : toCall c <;> first | exact absurd e3 ne | rfl
      rw [e2]
      unfold stepR
      rw [if_neg hk]
      refine ⟨rfl, fun s hs => ?_, ?_⟩
      · exact nomatch (show (none : Option Sr122.Shop) = some s from hs)
      · show 1 ≤ 20
        decide
    | some s =>
      have hs : SOk s := h s rfl
      obtain ⟨q1, q2, q3⟩ := step_is hs hc hk
      have e2 : Sr122.step (some s) (toCall c) = (some ((Sr122.perform s (toCall c)).1.getD s), (Sr122.perform s (toCall c)).2) := by
        have e4 : Sr122.step (some s) (toCall c) = (match Sr122.perform s (toCall c) with
          | (some changed, result) => (some changed, result)
          | (none, result) => (some s, result)) := by
          cases e3 : toCall c <;> first | exact absurd e3 ne | rfl
        rw [e4]
        obtain ⟨o, r⟩ := Sr122.perform s (toCall c)
        cases o <;> rfl
      rw [e2]
      unfold stepR
      rw [if_neg hk]
      refine ⟨?_, fun s' hs' => ?_, ?_⟩
      · show (some (stepM (toM s) c).1, (stepM (toM s) c).2) = _
        rw [q1]
        rfl
      · have := Option.some.inj hs'
        rw [← this]
        exact q2
      · show (stepM (toM s) c).2.length ≤ 20
        exact q3
/-- from any state on -/
theorem run_from : ∀ (cs : List CR) (o : Option Sr122.Shop) (out : List Int), (∀ c ∈ cs, c.Ok) → OOk o →
    (cs.foldl (fun s c => ((stepR s.1 c).1, s.2 ++ ((stepR s.1 c).2.length : Int) :: (stepR s.1 c).2)) (o.map toM, out)).2 = out ++ PyFlat.told (PyFlat.played Sr122Neutral.step o (cs.map rowsOf))
  | [], o, out, _, _ => by
    show out = out ++ []
    simp
  | c :: cs, o, out, h, ho => by
    obtain ⟨q1, q2, _⟩ := whole_step ho (h c List.mem_cons_self)
    rw [List.foldl_cons]
    simp only [q1]
    rw [run_from cs _ _ (fun d hd => h d (List.mem_cons_of_mem c hd)) q2]
    show out ++ ((Sr122Neutral.step o (rowsOf c)).2.length : Int) :: (Sr122Neutral.step o (rowsOf c)).2 ++ _ = out ++ (((Sr122Neutral.step o (rowsOf c)).2.length : Int) :: (Sr122Neutral.step o (rowsOf c)).2 ++ _)
    rw [List.append_assoc]
    rfl
theorem runR_is {cs : List CR} (h : ∀ c ∈ cs, c.Ok) : (runR cs).2 = PyFlat.told (PyFlat.played Sr122Neutral.step Sr122Neutral.start (cs.map rowsOf)) := by
  have q := run_from cs none [] h (fun s hs => by cases hs)
  rw [List.nil_append] at q
  exact q
/-- the states that a run goes through -/
theorem run_state : ∀ (cs : List CR) (o : Option Sr122.Shop) (out : List Int), (∀ c ∈ cs, c.Ok) → OOk o →
    ∃ o', OOk o' ∧ (cs.foldl (fun s c => ((stepR s.1 c).1, s.2 ++ ((stepR s.1 c).2.length : Int) :: (stepR s.1 c).2)) (o.map toM, out)).1 = o'.map toM ∧
      (cs.foldl (fun s c => ((stepR s.1 c).1, s.2 ++ ((stepR s.1 c).2.length : Int) :: (stepR s.1 c).2)) (o.map toM, out)).2.length ≤ out.length + 21 * cs.length
  | [], o, out, _, ho => ⟨o, ho, rfl, Nat.le_refl _⟩
  | c :: cs, o, out, h, ho => by
    obtain ⟨q1, q2, q3⟩ := whole_step ho (h c List.mem_cons_self)
    rw [List.foldl_cons]
    rw [q1] at q3 ⊢
    obtain ⟨o', a, b, d⟩ := run_state cs (Sr122Neutral.step o (rowsOf c)).1 (out ++ ((Sr122Neutral.step o (rowsOf c)).2.length : Int) :: (Sr122Neutral.step o (rowsOf c)).2) (fun d hd => h d (List.mem_cons_of_mem c hd)) q2
    refine ⟨o', a, b, Nat.le_trans d ?_⟩
    rw [List.length_append, List.length_cons, List.length_cons]
    have q4 : (Sr122Neutral.step o (rowsOf c)).2.length ≤ 20 := q3
    omega
theorem whole_id (c : List (List Int)) : PySr122.whole c = c := by
  unfold PySr122.whole
  split <;> rfl
/-! the list of numbers -/
theorem shape_is {p : Int} {n k : Nat} (h : PySr122.shape p = some (n, k)) : ∃ i : Nat, i < 18 ∧ p = (i : Int) ∧ n = (form i).1 ∧ k = if (form i).2 = true then 1 else 0 := by
  unfold PySr122.shape at h
  have one : ∀ (i : Nat) (a b : Nat), i < 18 → p = (i : Int) → some (a, b) = some (n, k) → (form i).1 = a → (if (form i).2 = true then 1 else 0) = b → ∃ i : Nat, i < 18 ∧ p = (i : Int) ∧ n = (form i).1 ∧ k = if (form i).2 = true then 1 else 0 := by
    intro i a b hi hp he h1 h2
    have e1 := congrArg Prod.fst (Option.some.inj he)
    have e2 := congrArg Prod.snd (Option.some.inj he)
    exact ⟨i, hi, hp, by rw [h1]; exact e1.symm, by rw [h2]; exact e2.symm⟩
  by_cases c0 : p = 0
  · rw [if_pos c0] at h; exact one 0 _ _ (by decide) c0 h rfl rfl
  rw [if_neg c0] at h
  by_cases c1 : p = 1
  · rw [if_pos c1] at h; exact one 1 _ _ (by decide) c1 h rfl rfl
  rw [if_neg c1] at h
  by_cases c2 : p = 2
  · rw [if_pos c2] at h; exact one 2 _ _ (by decide) c2 h rfl rfl
  rw [if_neg c2] at h
  by_cases c3 : p = 3
  · rw [if_pos c3] at h; exact one 3 _ _ (by decide) c3 h rfl rfl
  rw [if_neg c3] at h
  by_cases c4 : p = 4
  · rw [if_pos c4] at h; exact one 4 _ _ (by decide) c4 h rfl rfl
  rw [if_neg c4] at h
  by_cases c5 : p = 5
  · rw [if_pos c5] at h; exact one 5 _ _ (by decide) c5 h rfl rfl
  rw [if_neg c5] at h
  by_cases c6 : p = 6
  · rw [if_pos c6] at h; exact one 6 _ _ (by decide) c6 h rfl rfl
  rw [if_neg c6] at h
  by_cases c7 : p = 7
  · rw [if_pos c7] at h; exact one 7 _ _ (by decide) c7 h rfl rfl
  rw [if_neg c7] at h
  by_cases c8 : p = 8
  · rw [if_pos c8] at h; exact one 8 _ _ (by decide) c8 h rfl rfl
  rw [if_neg c8] at h
  by_cases c9 : p = 9
  · rw [if_pos c9] at h; exact one 9 _ _ (by decide) c9 h rfl rfl
  rw [if_neg c9] at h
  by_cases d0 : p = 10
  · rw [if_pos d0] at h; exact one 10 _ _ (by decide) d0 h rfl rfl
  rw [if_neg d0] at h
  by_cases d1 : p = 11
  · rw [if_pos d1] at h; exact one 11 _ _ (by decide) d1 h rfl rfl
  rw [if_neg d1] at h
  by_cases d2 : p = 12
  · rw [if_pos d2] at h; exact one 12 _ _ (by decide) d2 h rfl rfl
  rw [if_neg d2] at h
  by_cases d3 : p = 13
  · rw [if_pos d3] at h; exact one 13 _ _ (by decide) d3 h rfl rfl
  rw [if_neg d3] at h
  by_cases d4 : p = 14
  · rw [if_pos d4] at h; exact one 14 _ _ (by decide) d4 h rfl rfl
  rw [if_neg d4] at h
  by_cases d5 : p = 15
  · rw [if_pos d5] at h; exact one 15 _ _ (by decide) d5 h rfl rfl
  rw [if_neg d5] at h
  by_cases d6 : p = 16
  · rw [if_pos d6] at h; exact one 16 _ _ (by decide) d6 h rfl rfl
  rw [if_neg d6] at h
  by_cases d7 : p = 17
  · rw [if_pos d7] at h; exact one 17 _ _ (by decide) d7 h rfl rfl
  rw [if_neg d7] at h
  cases h
theorem call_is {p : Int} {r t : List Int} {c : List (List Int)} (h : PyFlat.call PySr122.shape (p :: r) = some (c, t)) :
    ∃ d : CR, c = rowsOf d ∧ p :: r = d.enc ++ t ∧ d.kind < 18 ∧ d.singles.length = (form d.kind).1 ∧ ((form d.kind).2 = false → d.row = []) := by
  unfold PyFlat.call at h
  simp only at h
  cases hs : PySr122.shape p with
  | none => rw [hs] at h; cases h
  | some nk =>
    obtain ⟨n, k⟩ := nk
    rw [hs] at h
    simp only at h
    by_cases hl : r.length < n
    · rw [if_pos hl] at h
      cases h
    · rw [if_neg hl] at h
      obtain ⟨i, i18, rfl, rfl, rfl⟩ := shape_is hs
      cases hf : (form i).2 with
      | false =>
        rw [hf] at h
        simp only [PyFlat.rows, Bool.false_eq_true, if_false] at h
        have h' := Option.some.inj h
        have e1 := congrArg Prod.fst h'
        have e2 := congrArg Prod.snd h'
        simp only at e1 e2
        refine ⟨⟨i, r.take (form i).1, []⟩, ?_, ?_, i18, ?_, fun _ => rfl⟩
        · rw [← e1]
          unfold rowsOf
          simp [hf]
        · unfold CR.enc
          simp only [hf, Bool.false_eq_true, if_false, List.append_nil, List.cons_append]
          rw [← e2, List.take_append_drop]
        · show (r.take (form i).1).length = (form i).1
          rw [List.length_take]
          omega
      | true =>
        rw [hf] at h
        simp only [PyFlat.rows, if_true] at h
        cases hr : PyFlat.row (r.drop (form i).1) with
        | none => rw [hr] at h; cases h
        | some xs =>
          obtain ⟨x, s⟩ := xs
          rw [hr] at h
          simp only at h
          have h' := Option.some.inj h
          have e1 := congrArg Prod.fst h'
          have e2 := congrArg Prod.snd h'
          simp only at e1 e2
          cases hd : r.drop (form i).1 with
          | nil => rw [hd] at hr; cases hr
          | cons z zs =>
            rw [hd] at hr
            unfold PyFlat.row at hr
            simp only at hr
            by_cases hz : 0 ≤ z ∧ z.toNat ≤ zs.length
            · rw [if_pos hz] at hr
              have hr' := Option.some.inj hr
              have f1 := congrArg Prod.fst hr'
              have f2 := congrArg Prod.snd hr'
              simp only at f1 f2
              have f3 : x.length = z.toNat := by
                rw [← f1, List.length_take]
                omega
              refine ⟨⟨i, r.take (form i).1, x⟩, ?_, ?_, i18, ?_, fun q => by rw [show (form i).2 = true from hf] at q; cases q⟩
              · rw [← e1]
                unfold rowsOf
                simp [hf]
              · unfold CR.enc
                simp only [hf, if_true, List.cons_append, List.append_assoc]
                have e3 : ((x.length : Nat) : Int) = z := by
                  rw [f3]
                  omega
                rw [e3, ← e2, ← f1, ← f2, List.take_append_drop, ← hd, List.take_append_drop]
              · show (r.take (form i).1).length = (form i).1
                rw [List.length_take]
                omega
            · rw [if_neg hz] at hr
              cases hr
structure Read (l : List Int) (raw : List (List (List Int))) (cs : List CR) : Prop where
  rows : raw = cs.map rowsOf
  enc : l = cs.flatMap CR.enc
  each : ∀ d ∈ cs, d.kind < 18 ∧ d.singles.length = (form d.kind).1 ∧ ((form d.kind).2 = false → d.row = [])
theorem calls_is : ∀ (f : Nat) (l : List Int) (raw : List (List (List Int))), PyFlat.calls PySr122.shape f l = some raw → ∃ cs, Read l raw cs
  | 0, [], raw, h => by
    simp only [PyFlat.calls] at h
    rw [← Option.some.inj h]
    exact ⟨[], rfl, rfl, fun d hd => (List.not_mem_nil hd).elim⟩
  | f + 1, [], raw, h => by
    simp only [PyFlat.calls] at h
    rw [← Option.some.inj h]
    exact ⟨[], rfl, rfl, fun d hd => (List.not_mem_nil hd).elim⟩
  | 0, p :: r, raw, h => by
    simp only [PyFlat.calls] at h
    cases h
  | f + 1, p :: r, raw, h => by
    simp only [PyFlat.calls] at h
    cases hc : PyFlat.call PySr122.shape (p :: r) with
    | none => rw [hc] at h; cases h
    | some ct =>
      obtain ⟨c, t⟩ := ct
      rw [hc] at h
      simp only at h
      cases hq : PyFlat.calls PySr122.shape f t with
      | none => rw [hq] at h; cases h
      | some cs =>
        rw [hq] at h
        simp only at h
        obtain ⟨ds, e1, e2, e3⟩ := calls_is f t cs hq
        obtain ⟨d, d1, d2, d3⟩ := call_is hc
        refine ⟨d :: ds, ?_, ?_, ?_⟩
        · rw [← Option.some.inj h, d1, e1]
          rfl
        · rw [d2, List.flatMap_cons, ← e2]
        · intro x hx
          rcases List.mem_cons.mp hx with q | q
          · rw [q]
            exact d3
          · exact e3 x q
theorem row_len {d : CR} (h1 : d.kind < 18) (h3 : (form d.kind).2 = false → d.row = []) (hb : PyInside.call PySr122.bound (rowsOf d) = true) : d.row.length ≤ 70 := by
  obtain ⟨k, s, r⟩ := d
  simp only at h1 h3
  show r.length ≤ 70
  by_cases hf : (form k).2 = false
  · rw [h3 hf]
    exact Nat.zero_le _
  · have k3 : k = 5 ∨ k = 9 ∨ k = 11 := by
      match k, h1 with
      | 5, _ => exact .inl rfl
      | 9, _ => exact .inr (.inl rfl)
      | 11, _ => exact .inr (.inr rfl)
      | 0, _ | 1, _ | 2, _ | 3, _ | 4, _ | 6, _ | 7, _ | 8, _ | 10, _ | 12, _ | 13, _ | 14, _ | 15, _ | 16, _ | 17, _ => exact absurd rfl hf
      | k + 18, h => exact absurd h (by omega)
    have big : ∀ {lo hi : Int} {a b : Nat}, PyInside.lists [(lo, hi, a, b)] [r] = true → r.length ≤ b := by
      intro lo hi a b h
      unfold PyInside.lists at h
      simp only [Bool.and_eq_true] at h
      exact of_decide_eq_true h.1.1.2
    unfold PyInside.call at hb
    rcases k3 with rfl | rfl | rfl
    · have hb' : (_ && PyInside.lists [(-2147483648, 2147483647, 0, 70)] [r]) = true := hb
      rw [Bool.and_eq_true] at hb'
      exact big hb'.2
    · have hb' : (_ && PyInside.lists [(-2147483648, 2147483647, 0, 70)] [r]) = true := hb
      rw [Bool.and_eq_true] at hb'
      exact big hb'.2
    · have hb' : (_ && PyInside.lists [(-2147483648, 2147483647, 0, 70)] [r]) = true := hb
      rw [Bool.and_eq_true] at hb'
      exact big hb'.2
/-- what is asked of the list of numbers, and what is due of it -/
theorem asked_is {l : List Int} (h : PySr122.answers_asked l = true) : ∃ cs : List CR, l = cs.flatMap CR.enc ∧ (∀ c ∈ cs, c.Ok) ∧ cs.length ≤ 60 ∧ PySr122.answers l = (runR cs).2 := by
  unfold PySr122.answers_asked at h
  cases hq : PyFlat.calls PySr122.shape l.length l with
  | none => rw [hq] at h; cases h
  | some raw =>
    rw [hq] at h
    simp only [Bool.and_eq_true] at h
    obtain ⟨cs, e1, e2, e3⟩ := calls_is _ _ _ hq
    have h60 : raw.length ≤ 60 := of_decide_eq_true h.1.1.1.2
    have hin : raw.all (PyInside.call PySr122.bound) = true := h.1.1.2
    rw [List.all_eq_true] at hin
    have hok : ∀ c ∈ cs, c.Ok := by
      intro c hc
      obtain ⟨a, b, d⟩ := e3 c hc
      refine ⟨a, b, d, row_len a d (hin _ ?_)⟩
      rw [e1]
      exact List.mem_map.mpr ⟨c, hc, rfl⟩
    refine ⟨cs, e2, hok, ?_, ?_⟩
    · rw [e1, List.length_map] at h60
      exact h60
    · unfold PySr122.answers PySr122.calls
      rw [hq, runR_is hok]
      simp only
      rw [show (raw.map PySr122.whole) = raw from (List.map_congr_left fun c _ => whole_id c).trans (List.map_id raw), e1]
end Mo
/-! ### 3. Rules that the layer lacks -/
namespace Mo
open PySem PySem.Spec PyProof.Rows L2

/-- max(xs, default=z) of a list of ints -/
def rMaxDef (K : PySem.W.Frag) : List V → List V → Hp → VK → Prop := fun vs zs H Q => ∃ (a : Addr) (ns : List Int) (z : Int), vs = [V.ref a] ∧ zs = [V.int z] ∧ SqL K H a (ns.map V.int) ∧
  (ns = [] → Q (.int z) H) ∧ ∀ m, m ∈ ns → (∀ y, y ∈ ns → y ≤ m) → Q (.int m) H
theorem hold_ints {h : Heap} : ∀ {vs : List Value} {ns : List Int}, IntsAre vs ns → PySem.W.HoldAll h vs ns
  | _, _, .nil => ⟨[], .nil⟩
  | _, _, .cons n t r => by
    obtain ⟨as, q⟩ := hold_ints (h := h) r
    exact ⟨_, .cons (.int n t) q⟩
theorem maxOf_ge : ∀ (l : List Int) (y x : Int), (x = y ∨ x ∈ l) → x ≤ PySem.W.maxOf y l
  | [], y, x, h => by
    rcases h with h | h
    · exact h ▸ Int.le_refl _
    · cases h
  | z :: l, y, x, h => by
    show x ≤ PySem.W.maxOf (if decide (y < z) = true then z else y) l
    by_cases c : y < z
    · rw [if_pos (decide_eq_true c)]
      rcases h with h | h
      · exact Int.le_trans (by omega) (maxOf_ge l z z (.inl rfl))
      · rcases List.mem_cons.mp h with h | h
        · exact maxOf_ge l z x (.inl h)
        · exact maxOf_ge l z x (.inr h)
    · rw [if_neg (by rw [decide_eq_false c]; exact Bool.false_ne_true)]
      rcases h with h | h
      · exact maxOf_ge l y x (.inl h)
      · rcases List.mem_cons.mp h with h | h
        · exact Int.le_trans (by omega) (maxOf_ge l y y (.inl rfl))
        · exact maxOf_ge l y x (.inr h)
theorem maxOf_mem : ∀ (l : List Int) (y : Int), PySem.W.maxOf y l ∈ y :: l
  | [], y => List.mem_cons_self
  | z :: l, y => by
    show PySem.W.maxOf (if decide (y < z) = true then z else y) l ∈ y :: z :: l
    by_cases c : y < z
    · rw [if_pos (decide_eq_true c)]
      exact List.mem_cons_of_mem _ (maxOf_mem l z)
    · rw [if_neg (by rw [decide_eq_false c]; exact Bool.false_ne_true)]
      rcases List.mem_cons.mp (maxOf_mem l y) with h | h
      · rw [h]
        exact List.mem_cons_self
      · exact List.mem_cons_of_mem _ (List.mem_cons_of_mem _ h)
theorem cr_maxDef {X : Cx} (hc : X.calm = true) (hu : X.A.units + 1 < cLine) : CallRK X (.builtin "max") [Str.ofString "default"] (rMaxDef X.K) := by
  intro pins s σ H vs zs us ws Q I r rz h
  obtain ⟨a, ns, z, rfl, rfl, hs, h0, h1⟩ := h
  obtain ⟨its, rv, hl, _⟩ := I.list hs
  obtain rfl := Vals.ref1 r
  obtain ⟨w1, rfl, t, rfl⟩ := vals1 rz
  refine PySem.W.max_list_datum_default (α := Int) (xs := ns) (I.ok.hd hc) hl.isList (hold_ints rv.ints) (by exact hu) (fun e h' tk hk => ?_) (fun y ys i v h' tk e hi hv hk => ?_)
  · exact ⟨.int z, H, I.kept hk, ⟨_, rfl⟩, h0 e⟩
  · obtain ⟨bs, hv⟩ := hv
    subst e
    have e2 : ∃ t, v = .int (PySem.W.maxOf y ys) t := by
      generalize PySem.W.maxOf y ys = q at hv
      have hv' : Reads h' v (.int q) bs := hv
      cases hv' with
      | int _ t => exact ⟨t, rfl⟩
    obtain ⟨t2, rfl⟩ := e2
    exact ⟨.int _, H, I.kept hk, ⟨_, rfl⟩, h1 _ (maxOf_mem ys y) fun x hx => maxOf_ge ys y x (List.mem_cons.mp hx)⟩

/-! comprehensions whose items are values that their turn alone tells -/
theorem same_upd {H : Hp} {p : Addr} {o : HO} (h : H p = none) : Same H (upd H p o) := fun b x e => by
  rw [upd_ne (ne_of_none e h)]
  exact e
theorem same_over {H H1 : Hp} {p : Addr} {o : HO} (s : Same H H1) (h : H p = none) : Same H (upd H1 p o) := fun b x e => by
  rw [upd_ne (ne_of_none e h)]
  exact s b x e
theorem range_more (n : Nat) (f : Nat → V) : (List.range (n + 1)).map f = (List.range n).map f ++ [f n] := by
  rw [List.range_succ, List.map_append]
  rfl
theorem lcr {n : Nat} {te : TE} {vs : List Nat} {σ : L2.St} {H1 : Hp} {D : Addr} {Qd : Hp → Prop} (i : Nat) (f : Nat → V) (hn : n ≤ 1000) (hD : H1 D = none)
    (hw : ∀ x, wipe ((wipe σ vs).set i (some x)) vs = wipe σ vs)
    (turn : ∀ k H' (Qe : VK), k < n → Same H1 H' → (∀ H'', Same H' H'' → Qe (f k) H'') → te ((wipe σ vs).set i (some (.int (0 + (k : Int))))) H' Qe)
    (hd : ∀ H', Same H1 H' → H' D = some (.lst ((List.range n).map f)) → Qd H') :
    ∃ W : Nat → Nat → Hp → Prop, (∃ m, W 0 m (upd H1 D (.lst []))) ∧ ∀ i_1 m H, W i_1 m H →
      ((Itr 0 n).stop i_1 H ∧ Qd H) ∨ ((Itr 0 n).go i_1 H ∧ ∃ Nx : Hp → Prop, (∀ H', Nx H' → ∃ m', m' < m ∧ W (i_1 + 1) m' H') ∧ ∀ x H', (Itr 0 n).yld i_1 H x H' → gName i x (wipe σ vs) H' fun σ2 H2 => wipe σ2 vs = wipe σ vs ∧ tYes σ2 H2 fun b H3 =>
        if b = true then te σ2 H3 fun y H4 => ∃ acc, H4 D = some (.lst acc) ∧ acc.length < sizeLine ∧ Nx (upd H4 D (.lst (acc ++ [y]))) else Nx H3) := by
  refine lc_range (fun k H' => Same H1 H' ∧ H' D = some (.lst ((List.range k).map f))) ⟨same_upd hD, upd_same⟩ ?_ (fun H' ⟨s, e⟩ => hd H' s e)
  rintro k H' hk ⟨s, e⟩
  refine ⟨hw _, ?_⟩
  show te _ _ _
  refine turn k H' _ hk s fun H'' s' => ⟨_, s' _ _ e, ?_, same_over (s.trans s') hD, ?_⟩
  · rw [List.length_map, List.length_range]
    exact small1000 (by omega)
  · rw [upd_same, range_more]
theorem lcl {K : PySem.W.Frag} {a : Addr} {xs : List V} {te : TE} {vs : List Nat} {σ : L2.St} {H1 : Hp} {D : Addr} {Qd : Hp → Prop} (i : Nat) (f : Nat → V) (hn : xs.length ≤ 1000) (hS : SqL K H1 a xs) (hD : H1 D = none)
    (hw : ∀ x, wipe ((wipe σ vs).set i (some x)) vs = wipe σ vs)
    (turn : ∀ k x H' (Qe : VK), xs[k]? = some x → Same H1 H' → (∀ H'', Same H' H'' → Qe (f k) H'') → te ((wipe σ vs).set i (some x)) H' Qe)
    (hd : ∀ H', Same H1 H' → H' D = some (.lst ((List.range xs.length).map f)) → Qd H') :
    ∃ W : Nat → Nat → Hp → Prop, (∃ m, W 0 m (upd H1 D (.lst []))) ∧ ∀ i_1 m H, W i_1 m H →
      ((Itl K a).stop i_1 H ∧ Qd H) ∨ ((Itl K a).go i_1 H ∧ ∃ Nx : Hp → Prop, (∀ H', Nx H' → ∃ m', m' < m ∧ W (i_1 + 1) m' H') ∧ ∀ x H', (Itl K a).yld i_1 H x H' → gName i x (wipe σ vs) H' fun σ2 H2 => wipe σ2 vs = wipe σ vs ∧ tYes σ2 H2 fun b H3 =>
        if b = true then te σ2 H3 fun y H4 => ∃ acc, H4 D = some (.lst acc) ∧ acc.length < sizeLine ∧ Nx (upd H4 D (.lst (acc ++ [y]))) else Nx H3) := by
  refine lc_list (fun k H' => Same H1 H' ∧ H' D = some (.lst ((List.range k).map f))) ⟨same_upd hD, upd_same⟩ (fun _ H' _ ⟨s, _⟩ => s.seq hS) ?_ (fun H' ⟨s, e⟩ => hd H' s e)
  rintro k x H' hx ⟨s, e⟩
  refine ⟨hw _, ?_⟩
  show te _ _ _
  refine turn k x H' _ hx s fun H'' s' => ⟨_, s' _ _ e, ?_, same_over (s.trans s') hD, ?_⟩
  · have hk := (List.getElem?_eq_some_iff.mp hx).1
    rw [List.length_map, List.length_range]
    exact small1000 (by omega)
  · rw [upd_same, range_more]
/-- over zip of two lists of one length, the target two names -/
theorem lcz {K : PySem.W.Frag} {a b : Addr} {xs ys : List V} {te : TE} {vs : List Nat} {σ : L2.St} {H1 : Hp} {D : Addr} {Qd : Hp → Prop} (i j : Nat) (f : Nat → V) (hn : xs.length ≤ 1000) (hl : xs.length = ys.length) (hS : SqL K H1 a xs) (hT : SqL K H1 b ys) (hD : H1 D = none)
    (hw : ∀ x y, wipe (((wipe σ vs).set i (some x)).set j (some y)) vs = wipe σ vs)
    (turn : ∀ k x y H' (Qe : VK), xs[k]? = some x → ys[k]? = some y → Same H1 H' → (∀ H'', Same H' H'' → Qe (f k) H'') → te (((wipe σ vs).set i (some x)).set j (some y)) H' Qe)
    (hd : ∀ H', Same H1 H' → H' D = some (.lst ((List.range xs.length).map f)) → Qd H') :
    ∃ W : Nat → Nat → Hp → Prop, (∃ m, W 0 m (upd H1 D (.lst []))) ∧ ∀ i_1 m H, W i_1 m H →
      ((Itz K a b).stop i_1 H ∧ Qd H) ∨ ((Itz K a b).go i_1 H ∧ ∃ Nx : Hp → Prop, (∀ H', Nx H' → ∃ m', m' < m ∧ W (i_1 + 1) m' H') ∧ ∀ x H', (Itz K a b).yld i_1 H x H' → gTup K 2 (gCons (gName i) (gCons (gName j) gNil)) x (wipe σ vs) H' fun σ2 H2 => wipe σ2 vs = wipe σ vs ∧ tYes σ2 H2 fun b H3 =>
        if b = true then te σ2 H3 fun y H4 => ∃ acc, H4 D = some (.lst acc) ∧ acc.length < sizeLine ∧ Nx (upd H4 D (.lst (acc ++ [y]))) else Nx H3) := by
  refine ⟨fun k m H' => m = xs.length - k ∧ k ≤ xs.length ∧ Same H1 H' ∧ H' D = some (.lst ((List.range k).map f)), ⟨xs.length, rfl, Nat.zero_le _, same_upd hD, upd_same⟩, ?_⟩
  rintro k m H' ⟨rfl, hk, s, e⟩
  by_cases hlt : k < xs.length
  · have hx : xs[k]? = some xs[k] := List.getElem?_eq_getElem hlt
    have hy : ys[k]? = some (ys[k]'(by omega)) := List.getElem?_eq_getElem (by omega)
    refine .inr ⟨⟨xs, ys, _, _, s.seq hS, s.seq hT, hx, hy⟩, fun H'' => Same H1 H'' ∧ H'' D = some (.lst ((List.range (k + 1)).map f)), fun H'' p => ⟨xs.length - (k + 1), by omega, rfl, hlt, p⟩, ?_⟩
    rintro v H'' ⟨T, x, y, rfl, nT, rfl, q1, q2⟩
    have q1 := q1 xs (s.seq hS)
    have q2 := q2 ys (s.seq hT)
    have sT : Same H' (upd H' T (.tup [x, y])) := same_upd nT
    refine ⟨T, [x, y], rfl, .inl (.inl upd_same), rfl, x, [y], rfl, y, [], rfl, rfl, hw _ _, ?_⟩
    show te _ _ _
    refine turn k x y _ _ q1 q2 (s.trans sT) fun H3 s' => ⟨_, s' _ _ (sT _ _ e), ?_, same_over (s.trans (sT.trans s')) hD, ?_⟩
    · rw [List.length_map, List.length_range]
      exact small1000 (by omega)
    · rw [upd_same, range_more]
  · have ek : k = xs.length := by omega
    subst ek
    exact .inl ⟨⟨xs, ys, s.seq hS, s.seq hT, .inl (Nat.le_refl _)⟩, hd _ s e⟩
end Mo
/-! ### 4. The text by its places, the heap, what the top has written -/
namespace Mo
open PySem PySem.Spec PyProof.Rows L2
def top (i : Nat) : Stmt := PySem.Challenge.pw_mouldorders_s01_answers.main.body.getD i (.Pass ⟨0, 0, 0, 0⟩)

/-- a list of ints at a -/
def LI (H : Hp) (a : Addr) (l : List Int) : Prop := H a = some (.lst (l.map V.int))
/-- lists of ints at each of some addresses -/
def Rws (H : Hp) : List Addr → List (List Int) → Prop
  | [], [] => True
  | r :: rs, m :: ms => LI H r m ∧ Rws H rs ms
  | _, _ => False
/-- a list of lists of ints -/
def LL (H : Hp) (a : Addr) (rs : List Addr) (ms : List (List Int)) : Prop := H a = some (.lst (rs.map V.ref)) ∧ Rws H rs ms
theorem LI.same {H H' : Hp} {a : Addr} {l : List Int} (h : LI H a l) (s : Same H H') : LI H' a l := s _ _ h
theorem LI.sq {K : PySem.W.Frag} {H : Hp} {a : Addr} {l : List Int} (h : LI H a l) : SqL K H a (l.map V.int) := .inl (.inl h)
theorem Rws.same {H H' : Hp} (s : Same H H') : ∀ {rs : List Addr} {ms : List (List Int)}, Rws H rs ms → Rws H' rs ms
  | [], [], h => h
  | _ :: _, _ :: _, h => ⟨h.1.same s, Rws.same s h.2⟩
  | [], _ :: _, h => h
  | _ :: _, [], h => h
theorem LL.same {H H' : Hp} {a : Addr} {rs : List Addr} {ms : List (List Int)} (h : LL H a rs ms) (s : Same H H') : LL H' a rs ms := ⟨s _ _ h.1, h.2.same s⟩
theorem LL.sq {K : PySem.W.Frag} {H : Hp} {a : Addr} {rs : List Addr} {ms : List (List Int)} (h : LL H a rs ms) : SqL K H a (rs.map V.ref) := .inl (.inl h.1)
theorem Rws.len {H : Hp} : ∀ {rs : List Addr} {ms : List (List Int)}, Rws H rs ms → rs.length = ms.length
  | [], [], _ => rfl
  | _ :: _, _ :: _, h => congrArg (· + 1) (Rws.len h.2)
  | [], _ :: _, h => h.elim
  | _ :: _, [], h => h.elim
theorem Rws.at {H : Hp} : ∀ {rs : List Addr} {ms : List (List Int)} {k : Nat}, Rws H rs ms → k < ms.length → ∃ r, rs[k]? = some r ∧ LI H r (ms.getD k []) ∧ ms.getD k [] ∈ ms
  | [], [], _, _, h => absurd h (Nat.not_lt_zero _)
  | r :: _, m :: _, 0, h, _ => ⟨r, rfl, h.1, List.mem_cons_self⟩
  | _ :: _, m :: ms, k + 1, h, hk => by
    obtain ⟨r, a, b, c⟩ := Rws.at h.2 (k := k) (by simpa using hk)
    exact ⟨r, by simpa using a, by simpa using b, by simpa using List.mem_cons_of_mem m c⟩
  | [], _ :: _, _, h, _ => h.elim
  | _ :: _, [], _, h, _ => h.elim
theorem at_g {l : List Int} {k : Nat} (h : k < l.length) : atI (l.map V.int) (0 + (k : Int)) = some (V.int (g l k)) := by
  rw [Int.zero_add]
  refine atI_nat ?_
  rw [List.getElem?_map, List.getElem?_eq_getElem h]
  unfold g
  rw [List.getD_eq_getElem?_getD, List.getElem?_eq_getElem h]
  rfl
theorem at_i {l : List Int} {i : Int} (h0 : 0 ≤ i) (h : i < l.length) : atI (l.map V.int) i = some (V.int (g l i.toNat)) := by
  have e : i = 0 + ((i.toNat : Nat) : Int) := by omega
  have q := at_g (l := l) (k := i.toNat) (by omega)
  rw [← e] at q
  exact q
theorem range_getD {α β : Type} (F : α → β) (d : α) : ∀ l : List α, (List.range l.length).map (fun k => F (l.getD k d)) = l.map F
  | [] => rfl
  | a :: l => by
    rw [List.length_cons, List.range_succ_eq_map, List.map_cons, List.map_map, List.map_cons, ← range_getD F d l]
    rfl
/-- a new list is given back; what was there stands -/
abbrev Gives (H : Hp) (Q : VK) (l : List Int) : Prop := ∀ H' p, Same H H' → H p = none → LI H' p l → Q (.ref p) H'
theorem Gives.later {H H1 : Hp} {Q : VK} {l : List Int} (h : Gives H Q l) (s : Same H H1) : Gives H1 Q l := fun H' p s' n e => h H' p (s.trans s') (s.free n) e
/-- a new list or None -/
abbrev GivesO (H : Hp) (Q : VK) (o : Option (List Int)) : Prop := (o = none → ∀ H', Same H H' → Q .non H') ∧ ∀ l, o = some l → Gives H Q l

theorem pe_gint {X : Cx} {x : Str} {n : Int} {pos : Pos} (hg : Gl X x) (hm : ∃ t, X.mg x = some (.int n t)) (hd : (x == ("__debug__" : Str)) = false := by decide) : PE X (.Name x pos) (tC (.int n)) := by
  obtain ⟨t, hm⟩ := hm
  exact pe_glob hg hm ⟨_, rfl⟩ hd
/-- what the top has written of constants and what it has left of built-ins -/
structure Txt (mg : Str → Option Value) : Prop where
  range : mg "range" = none
  len : mg "len" = none
  max : mg "max" = none
  sum : mg "sum" = none
  all : mg "all" = none
  zip : mg "zip" = none
  list : mg "list" = none
  noInst : ∃ t, mg "NO_INSTANCE" = some (.int (-11) t)
  noIndex : ∃ t, mg "NO_SUCH_INDEX" = some (.int (-2) t)
  outRange : ∃ t, mg "OUT_OF_RANGE" = some (.int (-22) t)
  tooMany : ∃ t, mg "TOO_MANY_MOULDS" = some (.int (-28) t)
  noPlan : ∃ t, mg "NO_BEST_PLAN" = some (.int (-33) t)
  kinds : ∃ t, mg "PART_KINDS" = some (.int 3 t)
  shots : ∃ t, mg "MOST_SHOTS" = some (.int 20 t)
  moulds : ∃ t, mg "MOST_MOULDS" = some (.int 4 t)
  yield_ : ∃ t, mg "MOST_YIELD" = some (.int 6 t)
  amount : ∃ t, mg "MOST_AMOUNT" = some (.int 40 t)
  planned : ∃ t, mg "MOST_PLANNED" = some (.int 99 t)
  made : ∃ t, mg "MOST_MADE" = some (.int 20 t)
  level : ∃ t, mg "MOST_LEVEL" = some (.int 6 t)
  checked : ∃ t, mg "MOST_LEVEL_CHECKED" = some (.int 999 t)
  price : ∃ t, mg "MOST_PRICE" = some (.int 999 t)
structure DefAt (P : Program) (w : World) (K : PySem.W.Frag) (mg : Str → Option Value) (base : Heap) (x : Str) (ps : List Str) (k : Nat) (sp : Sp) (f : Addr) (fd : FuncData) : Prop where
  ok : FnOk P w K mg base CX0 k f fd ps sp
  gl : mg x = some (.ref f)
  kp : PySem.W.keepIn K (.ref f) = true
  bn : Binds K fd ps []

/-! ### 5. The plan's defs -/
section
variable {P : Program} {w : World} {K : PySem.W.Frag} {mg : Str → Option Value} {base : Heap}
def spNeed : Sp := fun vs H Q _ => ∃ (a b : Addr) (need mould : List Int) (n : Int), vs = [.ref a, .ref b, .int n] ∧ LI H a need ∧ LI H b mould ∧ need.length = 3 ∧ mould.length = 3 ∧ (0 ≤ n ∧ n ≤ 100) ∧ Gives H Q (needAfter need mould n)
theorem scNeed : FnScope ["need", "mould", "shots", "j"] ["need", "mould", "shots"] (defScope (top 16)) := ⟨rfl, rfl, rfl, by decide +kernel, rfl, by decide +kernel, by decide +kernel⟩
theorem ok_need {f : Addr} {fd : FuncData} (F : Fun K "need_after" "need_after" (top 16) f fd) (T : Txt mg) : FnOk P w K mg base CX0 1 f fd ["need", "mould", "shots"] spNeed := by
  refine F.ok scNeed (fun vs H Q E h => ?_) (fun cdv A outer s H vs Q E hr h => ?_)
  · obtain ⟨a, b, need, mould, n, rfl, _⟩ := h
    rfl
  · obtain ⟨a, b, need, mould, n, rfl, ha, hb, l1, l2, hn, q⟩ := h
    refine ⟨_, pss_one (ps_ret (pe_lc (own := [("j", 3)]) (g := gName 3) (tt := tYes) rfl scNeed.nd (pi_range1 rfl T.range (pa_cons (pe_gint rfl T.kinds) pa_nil)) (blkOk_by (N := ["need", "mould", "shots", "j"]) (sc := defScope (top 16)) (by decide +kernel))
      (fun _ _ _ _ _ => pg_name (i := 3) scNeed.nd rfl (Or.inl rfl)) (fun _ _ _ _ _ => pts_nil)
      (fun _ _ _ _ _ => pe_op op_sub (pe_ix (r := rIxL K) ix_list (pv 0) (pv 3) (fun _ _ => rfl)) (pe_op op_mul (pv 2) (pe_ix (r := rIxL K) ix_list (pv 1) (pv 3) (fun _ _ => rfl)))))), ?_⟩
    refine ⟨3, rfl, by decide, by decide, fun D hD => lcr 3 (fun k => V.int (g need k - n * g mould k)) (by decide) hD (fun _ => rfl) ?_ ?_⟩
    · intro k H' Qe hk s qe
      exact ⟨_, rfl, _, rfl, a, _, _, _, rfl, rfl, (ha.same s).sq, at_g (by omega), _, rfl, _, rfl, _, rfl, b, _, _, _, rfl, rfl, (hb.same s).sq, at_g (by omega), _, _, rfl, rfl, .inl (by omega), _, _, rfl, rfl, qe H' (Same.refl _)⟩
    · intro H' s e
      exact q H' D s hD (e.trans (by unfold needAfter; rw [List.map_map]; rfl))
end
end Mo
namespace Mo
open PySem PySem.Spec PyProof.Rows L2
theorem maxdef_one {K : PySem.W.Frag} {H : Hp} {D : Addr} {ns : List Int} {Q : VK} (h : SqL K H D (ns.map V.int)) (q : Q (.int (maxd ns)) H) : rMaxDef K [.ref D] [.int 0] H Q :=
  ⟨D, ns, 0, rfl, rfl, h, fun e => by subst e; exact q, fun m h1 h2 => by rw [maxd_is h1 h2]; exact q⟩
theorem out_true {ms : List (List Int)} {need : List Int} {t : Int} {i : Nat} (hi : i < 3) (c : t * most ms i < g need i) : outOf ms need t = true := by
  unfold outOf
  rw [List.any_eq_true]
  exact ⟨i, List.mem_range.mpr hi, decide_eq_true c⟩
theorem out_false {ms : List (List Int)} {need : List Int} {t : Int} (h : ∀ k, k < 3 → ¬ t * most ms k < g need k) : outOf ms need t = false := by
  unfold outOf
  rw [List.any_eq_false]
  intro i hi q
  exact h i (List.mem_range.mp hi) (of_decide_eq_true q)
theorem ref_at {rs : List Addr} {k : Nat} {x : V} (h : (rs.map V.ref)[k]? = some x) : ∃ r, x = .ref r ∧ rs[k]? = some r := by
  rw [List.getElem?_map] at h
  cases e : rs[k]? with
  | none =>
    rw [e] at h
    cases h
  | some r =>
    rw [e] at h
    exact ⟨r, (Option.some.inj h).symm, rfl⟩
theorem int_at {l : List Int} {k : Nat} {x : V} (h : (l.map V.int)[k]? = some x) : x = .int (g l k) ∧ k < l.length ∧ g l k ∈ l := by
  rw [List.getElem?_map] at h
  unfold g
  rw [List.getD_eq_getElem?_getD]
  cases e : l[k]? with
  | none =>
    rw [e] at h
    cases h
  | some r =>
    rw [e] at h
    exact ⟨(Option.some.inj h).symm, (List.getElem?_eq_some_iff.mp e).1, List.mem_of_getElem? e⟩
/-- the row that stands at a turn's address -/
theorem Rws.get {H : Hp} {rs : List Addr} {ms : List (List Int)} {k : Nat} {r : Addr} (h : Rws H rs ms) (e : rs[k]? = some r) : k < ms.length ∧ LI H r (ms.getD k []) ∧ ms.getD k [] ∈ ms := by
  have hk : k < ms.length := by
    rw [← h.len]
    exact (List.getElem?_eq_some_iff.mp e).1
  obtain ⟨r', a, b, c⟩ := h.at hk
  rw [e] at a
  rw [Option.some.inj a]
  exact ⟨hk, b, c⟩
section
variable {P : Program} {w : World} {K : PySem.W.Frag} {mg : Str → Option Value} {base : Heap}
/-! is_out_of_reach -/
def spOut : Sp := fun vs H Q _ => ∃ (a b : Addr) (rs : List Addr) (ms : List (List Int)) (need : List Int) (t : Int), vs = [.ref a, .ref b, .int t] ∧ LL H a rs ms ∧ LI H b need ∧ need.length = 3 ∧ (∀ m ∈ ms, m.length = 3) ∧ ms.length ≤ 4 ∧ (0 ≤ t ∧ t ≤ 100) ∧
  ∀ H', Same H H' → Q (.bl (outOf ms need t)) H'
theorem scOut : FnScope ["moulds", "need", "total", "j", "most", "mould"] ["moulds", "need", "total"] (defScope (top 15)) := ⟨rfl, rfl, rfl, by decide +kernel, rfl, by decide +kernel, by decide +kernel⟩
theorem ok_out {f : Addr} {fd : FuncData} (F : Fun K "is_out_of_reach" "is_out_of_reach" (top 15) f fd) (T : Txt mg) : FnOk P w K mg base CX0 1 f fd ["moulds", "need", "total"] spOut := by
  refine F.ok scOut (fun vs H Q E h => ?_) (fun cdv A outer s H vs Q E hr h => ?_)
  · obtain ⟨a, b, rs, ms, need, t, rfl, _⟩ := h
    rfl
  · obtain ⟨a, b, rs, ms, need, t, rfl, ha, hb, l1, l2, l3, ht, q⟩ := h
    have hu := hu_of hr
    refine ⟨_, pss_cons (ps_for PassesOwn.never rfl (pi_range1 rfl T.range (pa_cons (pe_gint rfl T.kinds) pa_nil)) (pg_name (i := 3) scOut.nd rfl (Or.inr rfl))
      (pss_cons (ps_set (i := 4) scOut.nd rfl (Or.inl rfl) (pe_callBK (cr_maxDef rfl hu) rfl T.max (by decide +kernel)
          (pa_cons (pe_lc (own := [("mould", 5)]) (g := gName 5) (tt := tYes) rfl scOut.nd (pi_list (pv 0)) (blkOk_by (N := ["moulds", "need", "total", "j", "most", "mould"]) (sc := defScope (top 15)) (by decide +kernel))
            (fun _ _ _ _ _ => pg_name (i := 5) scOut.nd rfl (Or.inl rfl)) (fun _ _ _ _ _ => pts_nil) (fun _ _ _ _ _ => pe_ix (r := rIxL K) ix_list (pv 5) (pv 3) (fun _ _ => rfl))) pa_nil)
          (pk_cons pe_int pk_nil)))
      (pss_one (ps_if (pt_cmpR op_gt (pe_ix ix_list (pv 1) (pv 3) (fun _ _ => rfl)) (pe_op op_mul (pv 2) (pv 4)) (nomark _)) (pss_one (ps_ret pe_bl)) pss_nil))))
      (pss_one (ps_ret pe_bl)), ?_⟩
    refine ⟨3, rfl, by decide, by decide, for_range (fun i σ H' => ∃ v3 v4, σ = [some (.ref a), some (.ref b), some (.int t), v3, v4, none] ∧ Same H H' ∧ ∀ k, k < i → ¬ t * most ms k < g need k)
      ⟨none, none, rfl, Same.refl _, fun k hk => absurd hk (Nat.not_lt_zero _)⟩ ?_ ?_⟩
    · rintro i σ H1 hi ⟨v3, v4, rfl, s1, hk⟩
      refine ⟨_, rfl, a, rfl, ⟨_, (ha.same s1).sq⟩, fun D hD => lcl 5 (fun k => V.int (g (ms.getD k []) i)) ?_ (ha.same s1).sq hD (fun _ => rfl) ?_ ?_⟩
      · rw [List.length_map, ha.2.len]
        omega
      · intro k x H2 Qe hx s2 qe
        obtain ⟨r, rfl, hx2⟩ := ref_at hx
        obtain ⟨k1, k2, k3⟩ := (ha.2.same (s1.trans s2)).get hx2
        exact ⟨_, rfl, _, rfl, r, _, _, _, rfl, rfl, k2.sq, at_g (by rw [l2 _ k3]; exact hi), qe H2 (Same.refl _)⟩
      · intro H2 s2 e
        have eL : LI H2 D (ms.map fun m => g m i) := by
          refine e.trans ?_
          rw [List.length_map, ha.2.len, range_getD (fun m => V.int (g m i)) [] ms, List.map_map]
          rfl
        dsimp only [tNil, tCons, tC]
        refine maxdef_one eL.sq ?_
        refine ⟨_, rfl, _, rfl, b, _, _, _, rfl, rfl, (hb.same (s1.trans s2)).sq, at_g (by omega), _, rfl, _, rfl, _, _, rfl, rfl, .inl (by omega), _, _, rfl, rfl, _, rfl, ?_⟩
        refine ite2 (fun c => ?_) (fun c => ?_)
        · have c' : t * most ms i < g need i := of_decide_eq_true c
          show Q (.bl true) H2
          rw [← out_true hi c']
          exact q H2 (s1.trans s2)
        · refine ⟨_, _, rfl, s1.trans s2, fun k hk' => ?_⟩
          by_cases ek : k = i
          · rw [ek]
            exact fun z => c (decide_eq_true z)
          · exact hk k (by omega)
    · rintro σ H1 ⟨v3, v4, rfl, s1, hk⟩
      show Q (.bl false) H1
      rw [← out_false hk]
      exact q H1 s1
/-! greatest_plan -/
def spG : Nat → Sp
  | 0 => fun _ _ _ _ => False
  | d + 1 => fun vs H Q _ => ∃ (a b : Addr) (rs : List Addr) (ms : List (List Int)) (need : List Int) (t : Nat), vs = [.ref a, .ref b, .int t] ∧ LL H a rs ms ∧ LI H b need ∧ need.length = 3 ∧ (∀ m ∈ ms, m.length = 3) ∧ ms.length ≤ d ∧ d ≤ 4 ∧ t ≤ 20 ∧
    GivesO H Q (greatest ms need t)
theorem scG : FnScope ["moulds", "need", "total", "shots", "left", "rest"] ["moulds", "need", "total"] (defScope (top 14)) := ⟨rfl, rfl, rfl, by decide +kernel, rfl, by decide +kernel, by decide +kernel⟩
theorem cut_one (xs : List V) : cutV xs (some 1) none = xs.drop 1 := by
  unfold cutV
  rw [show HT.sIx xs.length 0 (some 1) = min 1 xs.length from HT.sIx_nat xs.length 0 1, HT.sIx_none]
  cases xs with
  | nil => rfl
  | cons x r =>
    rw [show min 1 (x :: r).length = 1 by
      rw [List.length_cons]
      omega]
    show (List.take ((x :: r).length - 1) r) = r
    rw [List.length_cons, Nat.add_sub_cancel]
    exact List.take_length
theorem some_in {l : List Int} {ms : List (List Int)} : ∀ {need : List Int} {t : Nat}, greatest ms need t = some l → l.length = ms.length ∧ ∀ x ∈ l, 0 ≤ x ∧ x ≤ t := by
  induction ms generalizing l with
  | nil =>
    intro need t h
    have h' : (if outOf [] need t = true then none else if t = 0 then some [] else none) = some l := h
    by_cases c : outOf [] need t = true
    · rw [if_pos c] at h'
      cases h'
    · rw [if_neg c] at h'
      by_cases d : t = 0
      · rw [if_pos d] at h'
        rw [← Option.some.inj h']
        exact ⟨rfl, fun x hx => (List.not_mem_nil hx).elim⟩
      · rw [if_neg d] at h'
        cases h'
  | cons m ms ih =>
    intro need t h
    have h' : (if outOf (m :: ms) need t = true then none else (List.range (t + 1)).findSome? fun (i : Nat) => (greatest ms (needAfter need m ((t : Int) - i)) i).map (((t : Int) - i) :: ·)) = some l := h
    by_cases c : outOf (m :: ms) need t = true
    · rw [if_pos c] at h'
      cases h'
    · rw [if_neg c] at h'
      obtain ⟨i, hi, h2⟩ := List.exists_of_findSome?_eq_some h'
      have hi' : i < t + 1 := List.mem_range.mp hi
      cases e : greatest ms (needAfter need m ((t : Int) - i)) i with
      | none =>
        rw [e] at h2
        cases h2
      | some r =>
        rw [e] at h2
        have h3 : ((t : Int) - i) :: r = l := Option.some.inj h2
        obtain ⟨a, b⟩ := ih e
        rw [← h3]
        refine ⟨congrArg (· + 1) a, fun x hx => ?_⟩
        rcases List.mem_cons.mp hx with z | z
        · omega
        · have := b x z
          omega
theorem find_none {α : Type} {f : Nat → Option α} {n : Nat} (h : ∀ k, k < n → f k = none) : (List.range n).findSome? f = none := by
  rw [List.findSome?_eq_none_iff]
  intro k hk
  exact h k (List.mem_range.mp hk)
theorem find_some {α : Type} {f : Nat → Option α} {n i : Nat} {x : α} (h : ∀ k, k < i → f k = none) (hi : i < n) (e : f i = some x) : (List.range n).findSome? f = some x := by
  have e2 : List.range n = List.range i ++ i :: (List.range' (i + 1) (n - i - 1)) := by
    rw [List.range_eq_range', show n = i + (1 + (n - i - 1)) by omega, ← List.range'_append_1, List.range_eq_range']
    congr 1
    rw [← List.range'_append_1]
    simp
  rw [e2, List.findSome?_append, find_none h, List.findSome?_cons, e]
  rfl
theorem ok_great {fO fN f : Addr} {fdO fdN fd : FuncData} (DO : DefAt P w K mg base "is_out_of_reach" ["moulds", "need", "total"] 1 spOut fO fdO) (DN : DefAt P w K mg base "need_after" ["need", "mould", "shots"] 1 spNeed fN fdN)
    (F : Fun K "greatest_plan" "greatest_plan" (top 14) f fd) (gl : mg "greatest_plan" = some (.ref f)) (bn : Binds K fd ["moulds", "need", "total"] []) (T : Txt mg) : ∀ d, FnOk P w K mg base CX0 (d + 2) f fd ["moulds", "need", "total"] (spG d)
  | 0 => ⟨fun _ _ _ _ h => h.elim, fun _ _ _ _ _ _ _ _ _ _ _ _ _ h => h.elim⟩
  | d + 1 => by
    have ih := ok_great DO DN F gl bn T d
    refine F.ok scG (fun vs H Q E h => ?_) (fun cdv A outer s H vs Q E hr h => ?_)
    · obtain ⟨a, b, rs, ms, need, t, rfl, _⟩ := h
      rfl
    · obtain ⟨a, b, rs, ms, need, t, rfl, ha, hb, l1, l2, l3, l4, ht, q0, q1⟩ := h
      have hr1 : Room 1 _ := hr.mono (by omega)
      refine ⟨_, pss_cons (ps_if (pt_val (pe_call DO.ok hr1 rfl DO.gl DO.kp DO.bn .nil pass0 (pa_cons (pv 0) (pa_cons (pv 1) (pa_cons (pv 2) pa_nil))))) (pss_one (ps_ret pe_non)) pss_nil)
        (pss_cons (ps_if (pt_cmpR op_eq (pe_callB call_len_seq (by rfl) T.len PySem.boot_len (pa_cons (pv 0) pa_nil)) pe_int (nomark _)) (pss_one (ps_ret (pe_ifExp (pt_cmpR op_eq (pv 2) pe_int (nomark _)) (pe_lst pa_nil) pe_non))) pss_nil)
        (pss_cons (ps_for PassesOwn.never rfl (pi_range3 rfl T.range (pa_cons (pv 2) (pa_cons (pe_un un_neg pe_int) (pa_cons (pe_un un_neg pe_int) pa_nil)))) (pg_name (i := 3) scG.nd rfl (Or.inl rfl))
          (pss_cons (ps_set (i := 4) scG.nd rfl (Or.inl rfl) (pe_call DN.ok hr1 rfl DN.gl DN.kp DN.bn .nil pass0 (pa_cons (pv 1) (pa_cons (pe_ix ix_list (pv 0) pe_int (fun _ _ => rfl)) (pa_cons (pv 3) pa_nil)))))
          (pss_cons (ps_set (i := 5) scG.nd rfl (Or.inl rfl) (pe_call ih hr rfl gl F.kp bn .nil pass0 (pa_cons (pe_slice sl_list (pv 0) (po_some pe_int) po_none) (pa_cons (pv 4) (pa_cons (pe_op op_sub (pv 2) (pv 3)) pa_nil)))))
          (pss_one (ps_if (pt_cmpR op_notN (pv 5) pe_non (nomark _)) (pss_one (ps_ret (pe_op op_cat (pe_lst (pa_cons (pv 3) pa_nil)) (pv 5)))) pss_nil)))))
        (pss_one (ps_ret pe_non)))), ?_⟩
      refine ⟨_, rfl, _, rfl, _, rfl, a, b, rs, ms, need, t, rfl, ha, hb, l1, l2, by omega, by omega, fun H1 s1 => ⟨_, rfl, ?_⟩⟩
      refine ite2 (fun c => ?_) (fun c => ?_)
      · refine q0 ?_ H1 s1
        cases ms with
        | nil => exact if_pos c
        | cons m ms => exact if_pos c
      · refine ⟨_, rfl, a, _, rfl, .inl (ha.same s1).sq, rfl, _, rfl, ?_⟩
        refine ite2 (fun c2 => ?_) (fun c2 => ?_)
        · -- no mould
          have e0 : rs.length = 0 := by
            have := of_decide_eq_true c2
            rw [V.int.injEq, List.length_map] at this
            omega
          have em : ms = [] := List.eq_nil_of_length_eq_zero (by rw [← ha.2.len]; exact e0)
          subst em
          have eg : greatest [] need t = if t = 0 then some [] else none := if_neg c
          refine ⟨_, rfl, rfl, _, rfl, ?_⟩
          refine ite2 (fun c3 => ?_) (fun c3 => ?_)
          · have t0 : t = 0 := by
              have := of_decide_eq_true c3
              rw [V.int.injEq] at this
              omega
            refine ⟨Nat.zero_le _, fun p hp => ?_⟩
            exact q1 [] (by rw [eg, if_pos t0]) _ p (same_over s1 (s1.free hp)) (s1.free hp) upd_same
          · have t0 : ¬ t = 0 := fun z => c3 (decide_eq_true (by rw [z]; rfl))
            exact q0 (by rw [eg, if_neg t0]) H1 s1
        · -- a mould
          cases ms with
          | nil =>
            have e0 := ha.2.len
            exact absurd (decide_eq_true (by rw [List.length_map, e0]; rfl)) c2
          | cons m ms =>
            cases rs with
            | nil => exact ha.2.elim
            | cons r rs =>
              have eg : greatest (m :: ms) need t = (List.range (t + 1)).findSome? fun (i : Nat) => (greatest ms (needAfter need m ((t : Int) - i)) i).map (((t : Int) - i) :: ·) := if_neg c
              have hm : m.length = 3 := l2 m List.mem_cons_self
              have rg : RgC (t : Int) (-1) (-1) (t + 1) := by
                have q := RgC.neg (i := (t : Int)) (j := -1) (by omega) (by omega) (by omega) (by omega)
                rw [show ((t : Int) - -1).toNat = t + 1 by omega] at q
                exact q
              refine ⟨_, rfl, 1, rfl, 1, rfl, _, _, _, t + 1, rfl, rg, for_rangeC (fun i σ H' => ∃ v3 v4 v5, σ = [some (.ref a), some (.ref b), some (.int t), v3, v4, v5] ∧ Same H H' ∧ ∀ k, k < i → greatest ms (needAfter need m ((t : Int) - k)) k = none)
                ⟨none, none, none, rfl, s1, fun k hk => absurd hk (Nat.not_lt_zero _)⟩ ?_ ?_⟩
              · rintro i σ H2 hi ⟨v3, v4, v5, rfl, s2, hk⟩
                rw [show ((t : Int) + (i : Nat) * -1) = (t : Int) - i by omega]
                have ha2 := ha.same s2
                refine ⟨_, rfl, _, rfl, a, _, _, V.ref r, rfl, rfl, ha2.sq, (by exact atI_nat (j := 0) rfl), _, rfl, b, r, need, m, (t : Int) - i, rfl, hb.same s2, ha2.2.1, l1, hm, by omega, fun H3 p s3 np hp => ?_⟩
                have ha3 := ha2.same s3
                refine ⟨_, rfl, 1, rfl, a, _, rfl, ha3.sq, fun c nc => ?_⟩
                have s4 : Same H3 (upd H3 c (.lst (cutV ((r :: rs).map V.ref) (some 1) none))) := same_upd nc
                refine ⟨_, rfl, _, rfl, _, rfl, _, _, rfl, rfl, ?_⟩
                cases d with
                | zero => exact absurd l3 (by rw [List.length_cons]; omega)
                | succ d =>
                refine ⟨c, p, rs, ms, needAfter need m ((t : Int) - i), i, by show [V.ref c, V.ref p, V.int ((t : Int) - ((t : Int) - i))] = _; rw [show (t : Int) - ((t : Int) - i) = (i : Int) by omega], ⟨?_, (ha3.same s4).2.2⟩, hp.same s4, rfl, fun x hx => l2 x (List.mem_cons_of_mem m hx), by rw [List.length_cons] at l3; omega, by omega, by omega, fun en H5 s5 => ?_, fun l el H5 p2 s5 np2 hp2 => ?_⟩
                · rw [upd_same, cut_one]
                  rfl
                · refine ⟨_, rfl, rfl, _, rfl, ?_⟩
                  refine iteF ?_
                  refine ⟨_, _, _, rfl, s2.trans (s3.trans (s4.trans s5)), fun k hk' => ?_⟩
                  by_cases ek : k = i
                  · rw [ek]
                    exact en
                  · exact hk k (by omega)
                · refine ⟨_, rfl, rfl, _, rfl, ?_⟩
                  refine iteT ?_
                  have s6 : Same H H5 := s2.trans (s3.trans (s4.trans s5))
                  refine ⟨_, rfl, (by show 1 ≤ sizeLine; decide), fun p3 n3 => ?_⟩
                  have n32 : p2 ≠ p3 := ne_of_none hp2 n3
                  obtain ⟨ll, _⟩ := some_in el
                  refine ⟨_, rfl, p3, p2, _, _, rfl, rfl, upd_same, by rw [upd_ne n32]; exact hp2, ?_, fun p4 n4 => ?_⟩
                  · rw [List.length_map, ll]
                    have := l3
                    rw [List.length_cons] at this
                    exact Nat.le_of_lt (small1000 (by show 1 + ms.length ≤ 1000; omega))
                  · have s7 : Same H (upd H5 p3 (.lst [V.int ((t : Int) - i)])) := s6.trans (same_upd n3)
                    refine q1 (((t : Int) - i) :: l) ?_ _ p4 (same_over s7 (s7.free n4)) (s7.free n4) upd_same
                    rw [eg]
                    refine find_some (i := i) (fun k hk' => by rw [hk k hk']; rfl) hi (by rw [el]; rfl)
              · rintro σ H2 ⟨v3, v4, v5, rfl, s2, hk⟩
                refine q0 ?_ H2 s2
                rw [eg]
                exact find_none fun k hk' => by rw [hk k hk']; rfl
end
end Mo
namespace Mo
open PySem PySem.Spec PyProof.Rows L2
theorem zip_range (j : Nat) : ∀ (p : List Int) (ms : List (List Int)), p.length = ms.length → (List.range p.length).map (fun k => V.int (g p k * g (ms.getD k []) j)) = ((p.zip ms).map fun q => q.1 * g q.2 j).map V.int
  | [], [], _ => rfl
  | x :: p, m :: ms, h => by
    have ih := zip_range j p ms (by simpa using h)
    rw [List.length_cons, List.range_succ_eq_map, List.map_cons, List.map_map, List.zip_cons_cons, List.map_cons, List.map_cons, ← ih]
    rfl
theorem best_some {ms : List (List Int)} {need l : List Int} (h : findBest ms need = some l) : l.length = ms.length ∧ ∀ x ∈ l, 0 ≤ x ∧ x ≤ 20 := by
  unfold findBest at h
  obtain ⟨t, ht, h2⟩ := List.exists_of_findSome?_eq_some h
  have ht' : t < 21 := List.mem_range.mp ht
  obtain ⟨a, b⟩ := some_in h2
  refine ⟨a, fun x hx => ?_⟩
  have := b x hx
  omega
section
variable {P : Program} {w : World} {K : PySem.W.Frag} {mg : Str → Option Value} {base : Heap}
/-! find_best_plan -/
def spBest : Sp := fun vs H Q _ => ∃ (a b : Addr) (rs : List Addr) (ms : List (List Int)) (need : List Int), vs = [.ref a, .ref b] ∧ LL H a rs ms ∧ LI H b need ∧ need.length = 3 ∧ (∀ m ∈ ms, m.length = 3) ∧ ms.length ≤ 4 ∧ GivesO H Q (findBest ms need)
theorem scBest : FnScope ["moulds", "demand", "total", "plan"] ["moulds", "demand"] (defScope (top 13)) := ⟨rfl, rfl, rfl, by decide +kernel, rfl, by decide +kernel, by decide +kernel⟩
theorem ok_best {fG f : Addr} {fdG fd : FuncData} (DG : DefAt P w K mg base "greatest_plan" ["moulds", "need", "total"] 7 (spG 5) fG fdG)
    (F : Fun K "find_best_plan" "find_best_plan" (top 13) f fd) (T : Txt mg) : FnOk P w K mg base CX0 8 f fd ["moulds", "demand"] spBest := by
  refine F.ok scBest (fun vs H Q E h => ?_) (fun cdv A outer s H vs Q E hr h => ?_)
  · obtain ⟨a, b, rs, ms, need, rfl, _⟩ := h
    rfl
  · obtain ⟨a, b, rs, ms, need, rfl, ha, hb, l1, l2, l3, q0, q1⟩ := h
    refine ⟨_, pss_cons (ps_for PassesOwn.never rfl (pi_range1 rfl T.range (pa_cons (pe_op op_add (pe_gint rfl T.shots) pe_int) pa_nil)) (pg_name (i := 2) scBest.nd rfl (Or.inl rfl))
      (pss_cons (ps_set (i := 3) scBest.nd rfl (Or.inl rfl) (pe_call DG.ok hr rfl DG.gl DG.kp DG.bn .nil pass0 (pa_cons (pv 0) (pa_cons (pv 1) (pa_cons (pv 2) pa_nil)))))
      (pss_one (ps_if (pt_cmpR op_notN (pv 3) pe_non (nomark _)) (pss_one (ps_ret (pv 3))) pss_nil))))
      (pss_one (ps_ret pe_non)), ?_⟩
    refine ⟨_, _, rfl, rfl, 21, rfl, by decide, by decide, for_range (n := 21) (fun i σ H' => ∃ v2 v3, σ = [some (.ref a), some (.ref b), v2, v3] ∧ Same H H' ∧ ∀ k, k < i → greatest ms need k = none)
      ⟨none, none, rfl, Same.refl _, fun k hk => absurd hk (Nat.not_lt_zero _)⟩ ?_ ?_⟩
    · rintro i σ H1 hi ⟨v2, v3, rfl, s1, hk⟩
      rw [show (0 : Int) + (i : Nat) = (i : Int) by omega]
      refine ⟨_, rfl, _, rfl, _, rfl, a, b, rs, ms, need, i, rfl, ha.same s1, hb.same s1, l1, l2, l3, Nat.le_refl _, by omega, fun en H2 s2 => ?_, fun l el H2 p s2 np hp => ?_⟩
      · refine ⟨_, rfl, rfl, _, rfl, ?_⟩
        refine iteF ?_
        refine ⟨_, _, rfl, s1.trans s2, fun k hk' => ?_⟩
        by_cases ek : k = i
        · rw [ek]
          exact en
        · exact hk k (by omega)
      · refine ⟨_, rfl, rfl, _, rfl, ?_⟩
        refine iteT ?_
        exact ⟨_, rfl, q1 l (find_some hk hi el) H2 p (s1.trans s2) (s1.free np) hp⟩
    · rintro σ H1 ⟨v2, v3, rfl, s1, hk⟩
      exact q0 (find_none hk) H1 s1
/-! parts_of_kind -/
def spParts : Sp := fun vs H Q _ => ∃ (a b : Addr) (rs : List Addr) (ms : List (List Int)) (p : List Int) (j : Nat), vs = [.ref a, .ref b, .int (0 + (j : Int))] ∧ LL H a rs ms ∧ LI H b p ∧ p.length = ms.length ∧ (∀ m ∈ ms, m.length = 3) ∧ ms.length ≤ 4 ∧ (∀ x ∈ p, 0 ≤ x ∧ x ≤ 100) ∧ j < 3 ∧
  ∀ H', Same H H' → Q (.int (partsOf ms p j)) H'
theorem scParts : FnScope ["moulds", "plan", "j", "shots", "mould"] ["moulds", "plan", "j"] (defScope (top 18)) := ⟨rfl, rfl, rfl, by decide +kernel, rfl, by decide +kernel, by decide +kernel⟩
theorem ok_parts {f : Addr} {fd : FuncData} (F : Fun K "parts_of_kind" "parts_of_kind" (top 18) f fd) (T : Txt mg) : FnOk P w K mg base CX0 1 f fd ["moulds", "plan", "j"] spParts := by
  refine F.ok scParts (fun vs H Q E h => ?_) (fun cdv A outer s H vs Q E hr h => ?_)
  · obtain ⟨a, b, rs, ms, p, j, rfl, _⟩ := h
    rfl
  · obtain ⟨a, b, rs, ms, p, j, rfl, ha, hb, l1, l2, l3, hp, hj, q⟩ := h
    refine ⟨_, pss_one (ps_ret (pe_callB (cr_sum rfl) (by rfl) T.sum (by decide +kernel) (pa_cons
      (pe_lc (own := [("shots", 3), ("mould", 4)]) (g := gTup K 2 (gCons (gName 3) (gCons (gName 4) gNil))) (tt := tYes) rfl scParts.nd (pi_zip (by rfl) T.zip (pa_cons (pv 1) (pa_cons (pv 0) pa_nil)))
        (blkOk_by (N := ["moulds", "plan", "j", "shots", "mould"]) (sc := defScope (top 18)) (by decide +kernel))
        (fun _ _ _ _ _ => pg_tup rfl (pgs_cons (pg_name (i := 3) scParts.nd rfl (.inl rfl)) (pgs_cons (pg_name (i := 4) scParts.nd rfl (.inl rfl)) pgs_nil))) (fun _ _ _ _ _ => pts_nil)
        (fun _ _ _ _ _ => pe_op op_mul (pv 3) (pe_ix (r := rIxL K) ix_list (pv 4) (pv 2) (fun _ _ => rfl)))) pa_nil))), ?_⟩
    refine ⟨_, rfl, _, rfl, b, a, _, _, rfl, hb.sq, ha.sq, fun D hD => lcz 3 4 (fun k => V.int (g p k * g (ms.getD k []) j)) ?_ ?_ hb.sq ha.sq hD (fun _ _ => rfl) ?_ ?_⟩
    · rw [List.length_map]
      omega
    · rw [List.length_map, List.length_map, ha.2.len, l1]
    · intro k x y H2 Qe hx hy s2 qe
      obtain ⟨rfl, _, hxm⟩ := int_at hx
      obtain ⟨r, rfl, hy2⟩ := ref_at hy
      obtain ⟨k1, k2, k3⟩ := (ha.2.same s2).get hy2
      have := hp _ hxm
      exact ⟨_, rfl, _, rfl, _, rfl, r, _, _, _, rfl, rfl, k2.sq, at_g (by rw [l2 _ k3]; exact hj), _, _, rfl, rfl, .inl (by omega), qe H2 (Same.refl _)⟩
    · intro H2 s2 e
      rw [List.length_map, zip_range j p ms l1] at e
      exact ⟨D, _, rfl, .inl (.inl e), q H2 s2⟩
/-! produced -/
def spProd : Sp := fun vs H Q _ => ∃ (a b : Addr) (rs : List Addr) (ms : List (List Int)) (p : List Int), vs = [.ref a, .ref b] ∧ LL H a rs ms ∧ LI H b p ∧ p.length = ms.length ∧ (∀ m ∈ ms, m.length = 3) ∧ ms.length ≤ 4 ∧ (∀ x ∈ p, 0 ≤ x ∧ x ≤ 100) ∧
  Gives H Q (produced ms p)
theorem scProd : FnScope ["moulds", "plan", "j"] ["moulds", "plan"] (defScope (top 17)) := ⟨rfl, rfl, rfl, by decide +kernel, rfl, by decide +kernel, by decide +kernel⟩
theorem ok_prod {fP f : Addr} {fdP fd : FuncData} (DP : DefAt P w K mg base "parts_of_kind" ["moulds", "plan", "j"] 1 spParts fP fdP) (F : Fun K "produced" "produced" (top 17) f fd) (T : Txt mg) : FnOk P w K mg base CX0 2 f fd ["moulds", "plan"] spProd := by
  refine F.ok scProd (fun vs H Q E h => ?_) (fun cdv A outer s H vs Q E hr h => ?_)
  · obtain ⟨a, b, rs, ms, p, rfl, _⟩ := h
    rfl
  · obtain ⟨a, b, rs, ms, p, rfl, ha, hb, l1, l2, l3, hp, q⟩ := h
    refine ⟨_, pss_one (ps_ret (pe_lc (own := [("j", 2)]) (g := gName 2) (tt := tYes) rfl scProd.nd (pi_range1 rfl T.range (pa_cons (pe_gint rfl T.kinds) pa_nil)) (blkOk_by (N := ["moulds", "plan", "j"]) (sc := defScope (top 17)) (by decide +kernel))
      (fun _ _ _ _ _ => pg_name (i := 2) scProd.nd rfl (Or.inl rfl)) (fun _ _ _ _ _ => pts_nil)
      (fun _ _ _ _ _ => pe_call DP.ok hr rfl DP.gl DP.kp DP.bn .nil pass0 (pa_cons (pv 0) (pa_cons (pv 1) (pa_cons (pv 2) pa_nil)))))), ?_⟩
    refine ⟨3, rfl, by decide, by decide, fun D hD => lcr 2 (fun k => V.int (partsOf ms p k)) (by decide) hD (fun _ => rfl) ?_ ?_⟩
    · intro k H' Qe hk s qe
      exact ⟨_, rfl, _, rfl, _, rfl, a, b, rs, ms, p, k, rfl, ha.same s, hb.same s, l1, l2, l3, hp, hk, fun H2 s2 => qe H2 s2⟩
    · intro H' s e
      exact q H' D s hD (e.trans (by unfold produced; rw [List.map_map]; rfl))
/-! is_sufficient -/
def spSuff : Sp := fun vs H Q _ => ∃ (a b : Addr) (x y : List Int), vs = [.ref a, .ref b] ∧ LI H a x ∧ LI H b y ∧ x.length = 3 ∧ y.length = 3 ∧ ∀ H', Same H H' → Q (.bl (suff x y)) H'
theorem scSuff : FnScope ["parts", "demand", "j"] ["parts", "demand"] (defScope (top 19)) := ⟨rfl, rfl, rfl, by decide +kernel, rfl, by decide +kernel, by decide +kernel⟩
theorem ok_suff {f : Addr} {fd : FuncData} (F : Fun K "is_sufficient" "is_sufficient" (top 19) f fd) (T : Txt mg) : FnOk P w K mg base CX0 1 f fd ["parts", "demand"] spSuff := by
  refine F.ok scSuff (fun vs H Q E h => ?_) (fun cdv A outer s H vs Q E hr h => ?_)
  · obtain ⟨a, b, x, y, rfl, _⟩ := h
    rfl
  · obtain ⟨a, b, x, y, rfl, ha, hb, l1, l2, q⟩ := h
    refine ⟨_, pss_one (ps_ret (pe_callB (cr_all rfl) (by rfl) T.all (by decide +kernel) (pa_cons
      (pe_lc (own := [("j", 2)]) (g := gName 2) (tt := tYes) rfl scSuff.nd (pi_range1 rfl T.range (pa_cons (pe_gint rfl T.kinds) pa_nil)) (blkOk_by (N := ["parts", "demand", "j"]) (sc := defScope (top 19)) (by decide +kernel))
      (fun _ _ _ _ _ => pg_name (i := 2) scSuff.nd rfl (Or.inl rfl)) (fun _ _ _ _ _ => pts_nil)
      (fun _ _ _ _ _ => pe_cmpR op_ge (pe_ix (r := rIxL K) ix_list (pv 0) (pv 2) (fun _ _ => rfl)) (pe_ix (r := rIxL K) ix_list (pv 1) (pv 2) (fun _ _ => rfl)) (nomark _))) pa_nil))), ?_⟩
    refine ⟨3, rfl, by decide, by decide, fun D hD => lcr 2 (fun k => V.bl (decide (g y k ≤ g x k))) (by decide) hD (fun _ => rfl) ?_ ?_⟩
    · intro k H' Qe hk s qe
      exact ⟨_, rfl, _, rfl, a, _, _, _, rfl, rfl, (ha.same s).sq, at_g (by omega), _, rfl, _, rfl, b, _, _, _, rfl, rfl, (hb.same s).sq, at_g (by omega), _, _, rfl, rfl, qe H' (Same.refl _)⟩
    · intro H' s e
      refine ⟨D, (List.range 3).map fun k => decide (g y k ≤ g x k), rfl, .inl (.inl (e.trans (by rw [List.map_map]; rfl))), ?_⟩
      show Q (.bl (((List.range 3).map fun k => decide (g y k ≤ g x k)).all id)) H'
      rw [List.all_map]
      exact q H' s
/-! all_within -/
def spWithin : Sp := fun vs H Q _ => ∃ (a : Addr) (x : List Int) (m : Int), vs = [.ref a, .int m] ∧ LI H a x ∧ x.length ≤ 1000 ∧ ∀ H', Same H H' → Q (.bl (allIn x m)) H'
theorem scWithin : FnScope ["numbers", "most", "number"] ["numbers", "most"] (defScope (top 36)) := ⟨rfl, rfl, rfl, by decide +kernel, rfl, by decide +kernel, by decide +kernel⟩
theorem ok_within {f : Addr} {fd : FuncData} (F : Fun K "all_within" "all_within" (top 36) f fd) (T : Txt mg) : FnOk P w K mg base CX0 1 f fd ["numbers", "most"] spWithin := by
  refine F.ok scWithin (fun vs H Q E h => ?_) (fun cdv A outer s H vs Q E hr h => ?_)
  · obtain ⟨a, x, m, rfl, _⟩ := h
    rfl
  · obtain ⟨a, x, m, rfl, ha, l1, q⟩ := h
    refine ⟨_, pss_one (ps_ret (pe_callB (cr_all rfl) (by rfl) T.all (by decide +kernel) (pa_cons
      (pe_lc (own := [("number", 2)]) (g := gName 2) (tt := tYes) rfl scWithin.nd (pi_list (pv 0)) (blkOk_by (N := ["numbers", "most", "number"]) (sc := defScope (top 36)) (by decide +kernel))
      (fun _ _ _ _ _ => pg_name (i := 2) scWithin.nd rfl (Or.inl rfl)) (fun _ _ _ _ _ => pts_nil)
      (fun _ _ _ _ _ => pe_chain op_le op_le pe_int (pv 2) (pv 1))) pa_nil))), ?_⟩
    refine ⟨_, rfl, a, rfl, ⟨_, ha.sq⟩, fun D hD => lcl 2 (fun k => V.bl (decide (0 ≤ g x k ∧ g x k ≤ m))) (by rw [List.length_map]; exact l1) ha.sq hD (fun _ => rfl) ?_ ?_⟩
    · intro k y H' Qe hy s qe
      obtain ⟨rfl, _, _⟩ := int_at hy
      refine ⟨_, rfl, _, _, rfl, rfl, _, rfl, ?_⟩
      refine ite2 (fun c => ?_) (fun c => ?_)
      · refine ⟨_, rfl, _, _, rfl, rfl, ?_⟩
        have c' : (0 : Int) ≤ g x k := of_decide_eq_true c
        have e : decide (g x k ≤ m) = decide (0 ≤ g x k ∧ g x k ≤ m) := decide_eq_decide.mpr ⟨fun z => ⟨c', z⟩, fun z => z.2⟩
        show Qe (V.bl (decide (g x k ≤ m))) H'
        rw [e]
        exact qe H' (Same.refl _)
      · have e : false = decide (0 ≤ g x k ∧ g x k ≤ m) := (decide_eq_false fun z => c (decide_eq_true z.1)).symm
        show Qe (V.bl false) H'
        rw [e]
        exact qe H' (Same.refl _)
    · intro H' s e
      have e2 : ((List.range (x.map V.int).length).map fun k => V.bl (decide (0 ≤ g x k ∧ g x k ≤ m))) = (x.map fun y => decide (0 ≤ y ∧ y ≤ m)).map V.bl := by
        rw [List.length_map, List.map_map]
        exact range_getD (fun y => V.bl (decide (0 ≤ y ∧ y ≤ m))) 0 x
      refine ⟨D, x.map fun y => decide (0 ≤ y ∧ y ≤ m), rfl, .inl (.inl (e.trans (by rw [e2]))), ?_⟩
      show Q (.bl ((x.map fun y => decide (0 ≤ y ∧ y ≤ m)).all id)) H'
      rw [List.all_map]
      exact q H' s
/-! total_of_best_plan -/
def spTotal : Sp := fun vs H Q _ => ∃ (a b : Addr) (rs : List Addr) (ms : List (List Int)) (need : List Int), vs = [.ref a, .ref b] ∧ LL H a rs ms ∧ LI H b need ∧ need.length = 3 ∧ (∀ m ∈ ms, m.length = 3) ∧ ms.length ≤ 4 ∧ Gives H Q (totalBest ms need)
theorem scTotal : FnScope ["moulds", "demand", "plan"] ["moulds", "demand"] (defScope (top 37)) := ⟨rfl, rfl, rfl, by decide +kernel, rfl, by decide +kernel, by decide +kernel⟩
theorem total_none {ms : List (List Int)} {need : List Int} (e : findBest ms need = none) : totalBest ms need = [-33] := by
  unfold totalBest
  rw [e]
theorem total_some {ms : List (List Int)} {need l : List Int} (e : findBest ms need = some l) : totalBest ms need = [l.sum] := by
  unfold totalBest
  rw [e]
theorem ok_total {fB f : Addr} {fdB fd : FuncData} (DB : DefAt P w K mg base "find_best_plan" ["moulds", "demand"] 8 spBest fB fdB) (F : Fun K "total_of_best_plan" "total_of_best_plan" (top 37) f fd) (T : Txt mg) : FnOk P w K mg base CX0 9 f fd ["moulds", "demand"] spTotal := by
  refine F.ok scTotal (fun vs H Q E h => ?_) (fun cdv A outer s H vs Q E hr h => ?_)
  · obtain ⟨a, b, rs, ms, need, rfl, _⟩ := h
    rfl
  · obtain ⟨a, b, rs, ms, need, rfl, ha, hb, l1, l2, l3, q⟩ := h
    refine ⟨_, pss_cons (ps_set (i := 2) scTotal.nd rfl (Or.inl rfl) (pe_call DB.ok hr rfl DB.gl DB.kp DB.bn .nil pass0 (pa_cons (pv 0) (pa_cons (pv 1) pa_nil))))
      (pss_cons (ps_if (pt_cmpR op_isN (pv 2) pe_non (nomark _)) (pss_one (ps_ret (pe_lst (pa_cons (pe_gint rfl T.noPlan) pa_nil)))) pss_nil)
      (pss_one (ps_ret (pe_lst (pa_cons (pe_callB (cr_sum rfl) (by rfl) T.sum (by decide +kernel) (pa_cons (pv 2) pa_nil)) pa_nil))))), ?_⟩
    refine ⟨_, rfl, _, rfl, a, b, rs, ms, need, rfl, ha, hb, l1, l2, l3, fun en H1 s1 => ?_, fun l el H1 p s1 np hp => ?_⟩
    · refine ⟨_, rfl, rfl, _, rfl, ?_⟩
      refine iteT ?_
      refine ⟨by show 1 ≤ sizeLine; decide, fun p hp => ?_⟩
      rw [total_none en] at q
      exact q _ p (same_over s1 (s1.free hp)) (s1.free hp) upd_same
    · refine ⟨_, rfl, rfl, _, rfl, ?_⟩
      refine iteF ?_
      refine ⟨_, rfl, p, l, rfl, hp.sq, by show 1 ≤ sizeLine; decide, fun p2 hp2 => ?_⟩
      rw [total_some el] at q
      exact q _ p2 (same_over s1 (s1.free hp2)) (s1.free hp2) upd_same
end
end Mo
namespace Mo
open PySem PySem.Spec PyProof.Rows L2
section
variable {P : Program} {w : World} {K : PySem.W.Frag} {mg : Str → Option Value} {base : Heap}
/-! worth -/
def spWorth : Sp := fun vs H Q _ => ∃ (a b : Addr) (x y : List Int), vs = [.ref a, .ref b] ∧ LI H a x ∧ LI H b y ∧ x.length = 3 ∧ y.length = 3 ∧ (∀ z ∈ x, 0 ≤ z ∧ z ≤ 999) ∧ ∀ H', Same H H' → Q (.int (worth x y)) H'
theorem scWorth : FnScope ["prices", "parts", "j"] ["prices", "parts"] (defScope (top 21)) := ⟨rfl, rfl, rfl, by decide +kernel, rfl, by decide +kernel, by decide +kernel⟩
theorem g_in {l : List Int} {k : Nat} (h : k < l.length) : g l k ∈ l := by
  unfold g
  rw [List.getD_eq_getElem?_getD, List.getElem?_eq_getElem h]
  exact List.getElem_mem h
theorem ok_worth {f : Addr} {fd : FuncData} (F : Fun K "worth" "worth" (top 21) f fd) (T : Txt mg) : FnOk P w K mg base CX0 1 f fd ["prices", "parts"] spWorth := by
  refine F.ok scWorth (fun vs H Q E h => ?_) (fun cdv A outer s H vs Q E hr h => ?_)
  · obtain ⟨a, b, x, y, rfl, _⟩ := h
    rfl
  · obtain ⟨a, b, x, y, rfl, ha, hb, l1, l2, hx, q⟩ := h
    refine ⟨_, pss_one (ps_ret (pe_callB (cr_sum rfl) (by rfl) T.sum (by decide +kernel) (pa_cons
      (pe_lc (own := [("j", 2)]) (g := gName 2) (tt := tYes) rfl scWorth.nd (pi_range1 rfl T.range (pa_cons (pe_gint rfl T.kinds) pa_nil)) (blkOk_by (N := ["prices", "parts", "j"]) (sc := defScope (top 21)) (by decide +kernel))
      (fun _ _ _ _ _ => pg_name (i := 2) scWorth.nd rfl (Or.inl rfl)) (fun _ _ _ _ _ => pts_nil)
      (fun _ _ _ _ _ => pe_op op_mul (pe_ix (r := rIxL K) ix_list (pv 0) (pv 2) (fun _ _ => rfl)) (pe_ix (r := rIxL K) ix_list (pv 1) (pv 2) (fun _ _ => rfl)))) pa_nil))), ?_⟩
    refine ⟨3, rfl, by decide, by decide, fun D hD => lcr 2 (fun k => V.int (g x k * g y k)) (by decide) hD (fun _ => rfl) ?_ ?_⟩
    · intro k H' Qe hk s qe
      have := hx _ (g_in (l := x) (k := k) (by omega))
      exact ⟨_, rfl, _, rfl, a, _, _, _, rfl, rfl, (ha.same s).sq, at_g (by omega), _, rfl, _, rfl, b, _, _, _, rfl, rfl, (hb.same s).sq, at_g (by omega), _, _, rfl, rfl, .inl (by omega), qe H' (Same.refl _)⟩
    · intro H' s e
      exact ⟨D, (List.range 3).map fun k => g x k * g y k, rfl, .inl (.inl (e.trans (by rw [List.map_map]; rfl))), q H' s⟩
/-! are_feasible -/
def spFeas : Sp := fun vs H Q _ => ∃ (a b : Addr) (rs : List Addr) (ms : List (List Int)) (x : List Int) (level : Int), vs = [.ref a, .int level, .ref b] ∧ LL H a rs ms ∧ LI H b x ∧ x.length = 3 ∧ (∀ m ∈ ms, m.length = 3) ∧ ms.length ≤ 4 ∧ (∀ z ∈ x, 0 ≤ z ∧ z ≤ 999) ∧
  ∀ H', Same H H' → Q (.bl (feasible ms level x)) H'
theorem scFeas : FnScope ["moulds", "level", "prices", "mould"] ["moulds", "level", "prices"] (defScope (top 22)) := ⟨rfl, rfl, rfl, by decide +kernel, rfl, by decide +kernel, by decide +kernel⟩
theorem ok_feas {fW f : Addr} {fdW fd : FuncData} (DW : DefAt P w K mg base "worth" ["prices", "parts"] 1 spWorth fW fdW) (F : Fun K "are_feasible" "are_feasible" (top 22) f fd) (T : Txt mg) : FnOk P w K mg base CX0 2 f fd ["moulds", "level", "prices"] spFeas := by
  refine F.ok scFeas (fun vs H Q E h => ?_) (fun cdv A outer s H vs Q E hr h => ?_)
  · obtain ⟨a, b, rs, ms, x, level, rfl, _⟩ := h
    rfl
  · obtain ⟨a, b, rs, ms, x, level, rfl, ha, hb, l1, l2, l3, hx, q⟩ := h
    refine ⟨_, pss_one (ps_ret (pe_callB (cr_all rfl) (by rfl) T.all (by decide +kernel) (pa_cons
      (pe_lc (own := [("mould", 3)]) (g := gName 3) (tt := tYes) rfl scFeas.nd (pi_list (pv 0)) (blkOk_by (N := ["moulds", "level", "prices", "mould"]) (sc := defScope (top 22)) (by decide +kernel))
      (fun _ _ _ _ _ => pg_name (i := 3) scFeas.nd rfl (Or.inl rfl)) (fun _ _ _ _ _ => pts_nil)
      (fun _ _ _ _ _ => pe_cmpR op_le (pe_call DW.ok hr rfl DW.gl DW.kp DW.bn .nil pass0 (pa_cons (pv 2) (pa_cons (pv 3) pa_nil))) (pv 1) (nomark _))) pa_nil))), ?_⟩
    refine ⟨_, rfl, a, rfl, ⟨_, ha.sq⟩, fun D hD => lcl 3 (fun k => V.bl (decide (worth x (ms.getD k []) ≤ level))) ?_ ha.sq hD (fun _ => rfl) ?_ ?_⟩
    · rw [List.length_map, ha.2.len]
      omega
    · intro k y H' Qe hy s qe
      obtain ⟨r, rfl, hy2⟩ := ref_at hy
      obtain ⟨k1, k2, k3⟩ := (ha.2.same s).get hy2
      exact ⟨_, rfl, _, rfl, b, r, x, _, rfl, hb.same s, k2, l1, l2 _ k3, hx, fun H2 s2 => ⟨_, rfl, _, _, rfl, rfl, qe H2 s2⟩⟩
    · intro H' s e
      have e2 : ((List.range (rs.map V.ref).length).map fun k => V.bl (decide (worth x (ms.getD k []) ≤ level))) = (ms.map fun m => decide (worth x m ≤ level)).map V.bl := by
        rw [List.length_map, ha.2.len, List.map_map]
        exact range_getD (fun m => V.bl (decide (worth x m ≤ level))) [] ms
      refine ⟨D, ms.map fun m => decide (worth x m ≤ level), rfl, .inl (.inl (e.trans (by rw [e2]))), ?_⟩
      show Q (.bl ((ms.map fun m => decide (worth x m ≤ level)).all id)) H'
      rw [List.all_map]
      exact q H' s
/-! lower_bound -/
def spLower : Sp := fun vs H Q _ => ∃ (a b : Addr) (d x : List Int) (level : Int), vs = [.ref a, .int level, .ref b] ∧ LI H a d ∧ LI H b x ∧ d.length = 3 ∧ x.length = 3 ∧ (∀ z ∈ x, 0 ≤ z ∧ z ≤ 999) ∧ (1 ≤ level ∧ level ≤ 999) ∧ ∀ H', Same H H' → Q (.int (lower d level x)) H'
theorem scLower : FnScope ["demand", "level", "prices"] ["demand", "level", "prices"] (defScope (top 23)) := ⟨rfl, rfl, rfl, by decide +kernel, rfl, by decide +kernel, by decide +kernel⟩
theorem ok_lower {fW f : Addr} {fdW fd : FuncData} (DW : DefAt P w K mg base "worth" ["prices", "parts"] 1 spWorth fW fdW) (F : Fun K "lower_bound" "lower_bound" (top 23) f fd) (T : Txt mg) : FnOk P w K mg base CX0 2 f fd ["demand", "level", "prices"] spLower := by
  refine F.ok scLower (fun vs H Q E h => ?_) (fun cdv A outer s H vs Q E hr h => ?_)
  · obtain ⟨a, b, d, x, level, rfl, _⟩ := h
    rfl
  · obtain ⟨a, b, d, x, level, rfl, ha, hb, l1, l2, hx, hl, q⟩ := h
    refine ⟨_, pss_one (ps_ret (pe_op op_fdivN (pe_op op_sub (pe_op op_add (pe_call DW.ok hr rfl DW.gl DW.kp DW.bn .nil pass0 (pa_cons (pv 2) (pa_cons (pv 0) pa_nil))) (pv 1)) pe_int) (pv 1))), ?_⟩
    refine ⟨_, rfl, _, rfl, b, a, x, d, rfl, hb, ha, l2, l1, hx, fun H1 s1 => ?_⟩
    exact ⟨_, rfl, _, _, rfl, rfl, _, _, rfl, rfl, _, rfl, _, _, rfl, rfl, ⟨by omega, by omega⟩, q H1 s1⟩
/-! with_one_more_price -/
def spOne : Sp := fun vs H Q _ => ∃ (a : Addr) (rs : List Addr) (ls : List (List Int)) (level : Nat), vs = [.ref a, .int level] ∧ LL H a rs ls ∧ ls.length ≤ 49 ∧ (∀ l ∈ ls, l.length ≤ 3) ∧ level ≤ 6 ∧ ∀ H' p rs', Same H H' → H p = none → LL H' p rs' (withOne ls level) → Q (.ref p) H'
theorem scOne : FnScope ["lists", "level", "longer", "prices", "price"] ["lists", "level"] (defScope (top 26)) := ⟨rfl, rfl, rfl, by decide +kernel, rfl, by decide +kernel, by decide +kernel⟩
theorem Rws.app {H : Hp} : ∀ {rs qs : List Addr} {ms ns : List (List Int)}, Rws H rs ms → Rws H qs ns → Rws H (rs ++ qs) (ms ++ ns)
  | [], _, [], _, _, h2 => h2
  | _ :: _, _, _ :: _, _, h1, h2 => ⟨h1.1, Rws.app h1.2 h2⟩
  | [], _, _ :: _, _, h1, _ => h1.elim
  | _ :: _, _, [], _, h1, _ => h1.elim
/-- rows that hold something stand when a list of lists is stored to -/
theorem Rws.keep {H : Hp} {D : Addr} {ds : List Addr} {o : HO} : ∀ {rs : List Addr} {ms : List (List Int)}, Rws H rs ms → (∀ m ∈ ms, m ≠ []) → H D = some (.lst (ds.map V.ref)) → Rws (upd H D o) rs ms
  | [], [], _, _, _ => trivial
  | r :: rs, m :: ms, h, hn, hD => by
    refine ⟨(upd_ne fun z => ?_).trans h.1, Rws.keep h.2 (fun x hx => hn x (List.mem_cons_of_mem m hx)) hD⟩
    have h1 : H r = some (.lst (m.map V.int)) := h.1
    rw [z, hD] at h1
    have h2 : ds.map V.ref = m.map V.int := by
      have := Option.some.inj h1
      rw [HO.lst.injEq] at this
      exact this
    cases m with
    | nil => exact hn [] List.mem_cons_self rfl
    | cons x m =>
      cases ds with
      | nil => cases h2
      | cons d ds =>
        rw [List.map_cons, List.map_cons] at h2
        have := (List.cons.inj h2).1
        cases this
  | [], _ :: _, h, _, _ => h.elim
  | _ :: _, [], h, _, _ => h.elim
theorem withOne_len (l : Nat) : ∀ ls : List (List Int), (withOne ls l).length = ls.length * (l + 1)
  | [] => by
    unfold withOne
    simp
  | p :: ls => by
    have ih := withOne_len l ls
    unfold withOne at ih ⊢
    rw [List.flatMap_cons, List.length_append, ih, List.length_map, List.length_range, List.length_cons, Nat.add_mul]
    omega
theorem withOne_item {l : Nat} {n : Nat} {ls : List (List Int)} (h : ∀ p ∈ ls, p.length = n ∧ ∀ z ∈ p, 0 ≤ z ∧ z ≤ l) : ∀ p ∈ withOne ls l, p.length = n + 1 ∧ ∀ z ∈ p, 0 ≤ z ∧ z ≤ l := by
  intro p hp
  unfold withOne at hp
  obtain ⟨q, hq, h2⟩ := List.mem_flatMap.mp hp
  obtain ⟨x, hx, rfl⟩ := List.mem_map.mp h2
  have hx' : x < l + 1 := List.mem_range.mp hx
  obtain ⟨a, b⟩ := h q hq
  refine ⟨by rw [List.length_append, a]; rfl, fun z hz => ?_⟩
  rcases List.mem_append.mp hz with c | c
  · exact b z c
  · rw [List.mem_singleton.mp c]
    show 0 ≤ (x : Int) ∧ (x : Int) ≤ l
    omega
theorem withOne_snoc (ls : List (List Int)) (p : List Int) (l : Nat) : withOne (ls ++ [p]) l = withOne ls l ++ (List.range (l + 1)).map fun x => p ++ [Int.ofNat x] := by
  unfold withOne
  rw [List.flatMap_append]
  simp
theorem take_snoc {α : Type} {l : List α} {i : Nat} {d : α} (h : i < l.length) : l.take (i + 1) = l.take i ++ [l.getD i d] := by
  rw [List.take_add_one, List.getElem?_eq_getElem h, List.getD_eq_getElem?_getD, List.getElem?_eq_getElem h]
  rfl
theorem ok_one {f : Addr} {fd : FuncData} (F : Fun K "with_one_more_price" "with_one_more_price" (top 26) f fd) (T : Txt mg) : FnOk P w K mg base CX0 1 f fd ["lists", "level"] spOne := by
  refine F.ok scOne (fun vs H Q E h => ?_) (fun cdv A outer s H vs Q E hr h => ?_)
  · obtain ⟨a, rs, ls, level, rfl, _⟩ := h
    rfl
  · obtain ⟨a, rs, ls, level, rfl, ha, l1, l2, l3, q⟩ := h
    refine ⟨_, pss_cons (ps_set (i := 2) scOne.nd rfl (Or.inl rfl) (pe_lst pa_nil))
      (pss_cons (ps_for PassesOwn.never rfl (pi_list (pv 0)) (pg_name (i := 3) scOne.nd rfl (Or.inr rfl))
        (pss_one (ps_expr (pe_bm PySem.F.plainAttrs_list PySem.F.slot_list_extend PySem.F.type_list_extend mt_extend (pv 2) (pa_cons
          (pe_lc (own := [("price", 4)]) (g := gName 4) (tt := tYes) rfl scOne.nd (pi_range1 rfl T.range (pa_cons (pe_op op_add (pv 1) pe_int) pa_nil)) (blkOk_by (N := ["lists", "level", "longer", "prices", "price"]) (sc := defScope (top 26)) (by decide +kernel))
            (fun _ _ _ _ _ => pg_name (i := 4) scOne.nd rfl (Or.inl rfl)) (fun _ _ _ _ _ => pts_nil)
            (fun _ _ _ _ _ => pe_op op_cat (pv 3) (pe_lst (pa_cons (pv 4) pa_nil)))) pa_nil)))))
      (pss_one (ps_ret (pv 2)))), ?_⟩
    refine ⟨Nat.zero_le _, fun o no => ?_⟩
    have s0 : Same H (upd H o (.lst [])) := same_upd no
    refine ⟨_, rfl, a, rfl, ⟨_, (ha.same s0).sq⟩, for_list (K := K) (a := a) (xs := rs.map V.ref) (fun i σ H' => ∃ (v3 : Option V) (qs : List Addr), σ = [some (.ref a), some (.int level), some (.ref o), v3, none] ∧ Same H H' ∧ LL H' o qs (withOne (ls.take i) level))
      ⟨none, [], rfl, s0, upd_same, trivial⟩ (fun i σ H' _ ⟨_, _, _, s1, _⟩ => (ha.same s1).sq) ?_ ?_⟩
    · rintro i y σ H1 hy ⟨v3, qs, rfl, s1, ho, hw⟩
      obtain ⟨r, rfl, hy2⟩ := ref_at hy
      obtain ⟨k1, k2, k3⟩ := (ha.2.same s1).get hy2
      have lq : qs.length ≤ 343 := by
        rw [hw.len, withOne_len, List.length_take]
        have e1 : min i ls.length ≤ 49 := by omega
        have e2 : level + 1 ≤ 7 := by omega
        exact Nat.mul_le_mul e1 e2
      have ln := l2 _ k3
      refine ⟨_, rfl, .inl ⟨rfl, _, .inl (.inl ho)⟩, ?_⟩
      refine ⟨_, rfl, _, _, rfl, rfl, (level : Int) + 1, rfl, by omega, by omega, fun D hD => ?_⟩
      have nDo : o ≠ D := ne_of_none ho hD
      -- the new lists, one an address
      refine ⟨fun k m H' => m = (level + 1) - k ∧ k ≤ level + 1 ∧ Same H1 H' ∧ ∃ ds : List Addr, LL H' D ds ((List.range k).map fun x => ls.getD i [] ++ [Int.ofNat x]), ⟨level + 1, rfl, Nat.zero_le _, same_upd hD, [], upd_same, trivial⟩, ?_⟩
      rintro k m H2 ⟨rfl, hk, s2, ds, hd, hdr⟩
      rw [show ((level : Int) + 1).toNat = level + 1 by omega]
      by_cases hlt : k < level + 1
      · refine .inr ⟨hlt, fun H' => Same H1 H' ∧ ∃ ds : List Addr, LL H' D ds ((List.range (k + 1)).map fun x => ls.getD i [] ++ [Int.ofNat x]), fun H' p => ⟨(level + 1) - (k + 1), by omega, rfl, hlt, p⟩, ?_⟩
        rintro x H3 ⟨rfl, rfl⟩
        refine ⟨rfl, ?_⟩
        refine iteT (B := Same H1 H3 ∧ ∃ ds : List Addr, LL H3 D ds ((List.range (k + 1)).map fun x => ls.getD i [] ++ [Int.ofNat x])) ?_
        refine ⟨_, rfl, _, rfl, by show 1 ≤ sizeLine; decide, fun u nu => ?_⟩
        have s3 : Same H3 (upd H3 u (.lst [V.int (0 + (k : Int))])) := same_upd nu
        refine ⟨r, u, _, _, rfl, rfl, s3 _ _ (s2 _ _ k2), upd_same, ?_, fun v nv => ?_⟩
        · rw [List.length_map]
          exact Nat.le_of_lt (small1000 (by show (ls.getD i []).length + 1 ≤ 1000; omega))
        · have s4 : Same H3 (upd (upd H3 u (.lst [V.int (0 + (k : Int))])) v (.lst ((ls.getD i []).map V.int ++ [V.int (0 + (k : Int))]))) := s3.trans (same_upd nv)
          refine ⟨_, s4 _ _ hd, ?_, same_over (s2.trans s4) hD, ds ++ [v], ?_, ?_⟩
          · rw [List.length_map, hdr.len, List.length_map, List.length_range]
            exact small1000 (by omega)
          · rw [upd_same, List.map_append]
            rfl
          · rw [List.range_succ, List.map_append]
            have nDv : v ≠ D := fun z => by
              rw [z] at nv
              have := s3 _ _ hd
              rw [nv] at this
              cases this
            have hd4 := s4 _ _ hd
            refine Rws.app (Rws.keep (hdr.same s4) (fun m hm => ?_) hd4) ⟨?_, trivial⟩
            · obtain ⟨x, _, rfl⟩ := List.mem_map.mp hm
              intro z
              have := congrArg List.length z
              rw [List.length_append] at this
              exact absurd this (by show ¬ (ls.getD i []).length + 1 = 0; omega)
            · show upd _ D _ v = _
              rw [upd_ne nDv, upd_same, List.map_append, Int.zero_add]
              rfl
      · have ek : k = level + 1 := by omega
        subst ek
        refine .inl ⟨Nat.le_refl _, ?_⟩
        -- longer.extend(..)
        have ho2 := s2 _ _ ho
        refine ⟨o, D, _, _, rfl, rfl, ho2, hd, ?_, ?_⟩
        · rw [List.length_map, List.length_map, hdr.len, List.length_map, List.length_range]
          exact Nat.le_of_lt (small1000 (by omega))
        · have hi : i < ls.length := k1
          refine ⟨some (.ref r), qs ++ ds, rfl, same_over (s1.trans s2) no, ?_, ?_⟩
          · rw [upd_same, List.map_append]
          · rw [take_snoc (d := []) hi, withOne_snoc]
            refine Rws.app (Rws.keep (hw.same s2) (fun m hm => ?_) ho2) (Rws.keep hdr (fun m hm => ?_) ho2)
            · unfold withOne at hm
              obtain ⟨q, _, h2⟩ := List.mem_flatMap.mp hm
              obtain ⟨x, _, rfl⟩ := List.mem_map.mp h2
              intro z
              have := congrArg List.length z
              rw [List.length_append] at this
              exact absurd this (by show ¬ q.length + 1 = 0; omega)
            · obtain ⟨x, _, rfl⟩ := List.mem_map.mp hm
              intro z
              have := congrArg List.length z
              rw [List.length_append] at this
              exact absurd this (by show ¬ (ls.getD i []).length + 1 = 0; omega)
    · rintro σ H1 ⟨v3, qs, rfl, s1, ho⟩
      rw [List.length_map, ha.2.len, List.take_length] at ho
      exact ⟨_, rfl, q H1 o qs s1 no ho⟩
end
end Mo
namespace Mo
open PySem PySem.Spec PyProof.Rows L2
def iter (level : Nat) : Nat → List (List Int)
  | 0 => [[]]
  | i + 1 => withOne (iter level i) level
theorem iter_item (l : Nat) : ∀ i, ∀ p ∈ iter l i, p.length = i ∧ ∀ z ∈ p, 0 ≤ z ∧ z ≤ l
  | 0, p, h => by
    rw [List.mem_singleton.mp h]
    exact ⟨rfl, fun z hz => (List.not_mem_nil hz).elim⟩
  | i + 1, p, h => withOne_item (iter_item l i) p h
theorem iter_len (l : Nat) (h : l ≤ 6) : ∀ i, i ≤ 2 → (iter l i).length ≤ 49
  | 0, _ => by show 1 ≤ 49; decide
  | 1, _ => by
    show (withOne [[]] l).length ≤ 49
    rw [withOne_len]
    show 1 * (l + 1) ≤ 49
    omega
  | 2, _ => by
    show (withOne (withOne [[]] l) l).length ≤ 49
    rw [withOne_len, withOne_len]
    show 1 * (l + 1) * (l + 1) ≤ 49
    rw [Nat.one_mul]
    exact Nat.mul_le_mul (show l + 1 ≤ 7 by omega) (show l + 1 ≤ 7 by omega)
  | i + 3, h => absurd h (by omega)
theorem all_len (l : Nat) (h : l ≤ 6) : (allPrices l).length ≤ 343 := by
  show (withOne (iter l 2) l).length ≤ 343
  rw [withOne_len]
  exact Nat.mul_le_mul (iter_len l h 2 (by decide)) (show l + 1 ≤ 7 by omega)
theorem all_item {l : Nat} {p : List Int} (h : p ∈ allPrices l) : p.length = 3 ∧ ∀ z ∈ p, 0 ≤ z ∧ z ≤ l := iter_item l 3 p h
section
variable {P : Program} {w : World} {K : PySem.W.Frag} {mg : Str → Option Value} {base : Heap}
/-! all_prices -/
def spAll : Sp := fun vs H Q _ => ∃ (level : Nat), vs = [.int level] ∧ level ≤ 6 ∧ ∀ H' p rs, Same H H' → LL H' p rs (allPrices level) → Q (.ref p) H'
theorem scAll : FnScope ["level", "found", "j"] ["level"] (defScope (top 25)) := ⟨rfl, rfl, rfl, by decide +kernel, rfl, by decide +kernel, by decide +kernel⟩
theorem ok_all {fO f : Addr} {fdO fd : FuncData} (DO : DefAt P w K mg base "with_one_more_price" ["lists", "level"] 1 spOne fO fdO) (F : Fun K "all_prices" "all_prices" (top 25) f fd) (T : Txt mg) : FnOk P w K mg base CX0 2 f fd ["level"] spAll := by
  refine F.ok scAll (fun vs H Q E h => ?_) (fun cdv A outer s H vs Q E hr h => ?_)
  · obtain ⟨level, rfl, _⟩ := h
    rfl
  · obtain ⟨level, rfl, l1, q⟩ := h
    refine ⟨_, pss_cons (ps_set (i := 1) scAll.nd rfl (Or.inl rfl) (pe_lst (pa_cons (pe_lst pa_nil) pa_nil)))
      (pss_cons (ps_for PassesOwn.never rfl (pi_range1 rfl T.range (pa_cons (pe_gint rfl T.kinds) pa_nil)) (pg_name (i := 2) scAll.nd rfl (Or.inl rfl))
        (pss_one (ps_set (i := 1) scAll.nd rfl (Or.inl rfl) (pe_call DO.ok hr rfl DO.gl DO.kp DO.bn .nil pass0 (pa_cons (pv 1) (pa_cons (pv 0) pa_nil))))))
      (pss_one (ps_ret (pv 1)))), ?_⟩
    refine ⟨Nat.zero_le _, fun u nu => ⟨by show 1 ≤ sizeLine; decide, fun p np => ?_⟩⟩
    have nup : u ≠ p := ne_of_none upd_same np
    have s0 : Same H (upd (upd H u (.lst [])) p (.lst [V.ref u])) := (same_upd nu).trans (same_upd np)
    refine ⟨3, rfl, by decide, by decide, for_range (n := 3) (fun i σ H' => ∃ (v2 : Option V) (p : Addr) (rs : List Addr), σ = [some (.int level), some (.ref p), v2] ∧ Same H H' ∧ LL H' p rs (iter level i))
      ⟨none, p, [u], rfl, s0, upd_same, ⟨(upd_ne nup).trans upd_same, trivial⟩⟩ ?_ ?_⟩
    · rintro i σ H1 hi ⟨v2, p1, rs, rfl, s1, hp⟩
      exact ⟨_, rfl, _, rfl, p1, rs, iter level i, level, rfl, hp, iter_len level l1 i (by omega), fun l hl => by rw [(iter_item level i l hl).1]; omega, l1, fun H2 p2 rs2 s2 _ hp2 => ⟨_, p2, rs2, rfl, s1.trans s2, hp2⟩⟩
    · rintro σ H1 ⟨v2, p1, rs, rfl, s1, hp⟩
      exact ⟨_, rfl, q H1 p1 rs s1 hp⟩
/-! find_best_prices -/
def spPrices : Sp := fun vs H Q _ => ∃ (a b : Addr) (rs : List Addr) (ms : List (List Int)) (d : List Int) (level : Nat), vs = [.ref a, .ref b, .int level] ∧ LL H a rs ms ∧ LI H b d ∧ d.length = 3 ∧ (∀ m ∈ ms, m.length = 3) ∧ ms.length ≤ 4 ∧ (1 ≤ level ∧ level ≤ 6) ∧
  ∀ H' p, Same H H' → LI H' p (bestPrices ms d level) → Q (.ref p) H'
theorem scPrices : FnScope ["moulds", "demand", "level", "best", "greatest", "prices", "bound"] ["moulds", "demand", "level"] (defScope (top 24)) := ⟨rfl, rfl, rfl, by decide +kernel, rfl, by decide +kernel, by decide +kernel⟩
/-- behind i lists of prices -/
def bestAt (ms : List (List Int)) (d : List Int) (level i : Nat) : List Int × Int := ((allPrices level).take i).foldl (better ms d level) ([0, 0, 0], 0)
theorem bestAt_more {ms : List (List Int)} {d : List Int} {level i : Nat} (h : i < (allPrices level).length) : bestAt ms d level (i + 1) = better ms d level (bestAt ms d level i) ((allPrices level).getD i []) := by
  unfold bestAt
  rw [take_snoc (d := []) h, List.foldl_append]
  rfl
theorem ok_prices {fA fL fE f : Addr} {fdA fdL fdE fd : FuncData} (DA : DefAt P w K mg base "all_prices" ["level"] 2 spAll fA fdA) (DL : DefAt P w K mg base "lower_bound" ["demand", "level", "prices"] 2 spLower fL fdL)
    (DE : DefAt P w K mg base "are_feasible" ["moulds", "level", "prices"] 2 spFeas fE fdE) (F : Fun K "find_best_prices" "find_best_prices" (top 24) f fd) (T : Txt mg) : FnOk P w K mg base CX0 3 f fd ["moulds", "demand", "level"] spPrices := by
  refine F.ok scPrices (fun vs H Q E h => ?_) (fun cdv A outer s H vs Q E hr h => ?_)
  · obtain ⟨a, b, rs, ms, d, level, rfl, _⟩ := h
    rfl
  · obtain ⟨a, b, rs, ms, d, level, rfl, ha, hb, l1, l2, l3, l4, q⟩ := h
    refine ⟨_, pss_cons (ps_set (i := 3) scPrices.nd rfl (Or.inl rfl) (pe_op op_rep (pe_lst (pa_cons pe_int pa_nil)) (pe_gint rfl T.kinds)))
      (pss_cons (ps_set (i := 4) scPrices.nd rfl (Or.inl rfl) pe_int)
      (pss_cons (ps_for PassesOwn.never rfl (pi_list (pe_call DA.ok hr rfl DA.gl DA.kp DA.bn .nil pass0 (pa_cons (pv 2) pa_nil))) (pg_name (i := 5) scPrices.nd rfl (Or.inl rfl))
        (pss_cons (ps_set (i := 6) scPrices.nd rfl (Or.inl rfl) (pe_call DL.ok hr rfl DL.gl DL.kp DL.bn .nil pass0 (pa_cons (pv 1) (pa_cons (pv 2) (pa_cons (pv 5) pa_nil)))))
        (pss_one (ps_if (PW.pt (pw_and (pt_cmpR op_gt (pv 6) (pv 4) (nomark _)) (pw_and1 (pt_val (pe_call DE.ok hr rfl DE.gl DE.kp DE.bn .nil pass0 (pa_cons (pv 0) (pa_cons (pv 2) (pa_cons (pv 5) pa_nil)))))))) (pss_cons (ps_set (i := 3) scPrices.nd rfl (Or.inl rfl) (pv 5)) (pss_one (ps_set (i := 4) scPrices.nd rfl (Or.inl rfl) (pv 6)))) pss_nil))))
      (pss_one (ps_ret (pv 3))))), ?_⟩
    refine ⟨by show 1 ≤ sizeLine; decide, fun u nu => ?_⟩
    refine ⟨u, 3, _, rfl, rfl, upd_same, by decide, by decide, by show 1 * 3 ≤ sizeLine; decide, fun p np => ?_⟩
    have s0 : Same H (upd (upd H u (.lst [V.int 0])) p (.lst (List.replicate (3 : Int).toNat [V.int 0]).flatten)) := (same_upd nu).trans (same_upd np)
    refine ⟨_, rfl, level, rfl, l4.2, fun H1 p1 qs s1 hq => ?_⟩
    refine ⟨p1, rfl, ⟨_, hq.sq⟩, for_list (K := K) (a := p1) (xs := qs.map V.ref) (fun i σ H' => ∃ (v5 v6 : Option V) (p : Addr), σ = [some (.ref a), some (.ref b), some (.int level), some (.ref p), some (.int (bestAt ms d level i).2), v5, v6] ∧ Same H1 H' ∧ LI H' p (bestAt ms d level i).1)
      ⟨none, none, p, rfl, Same.refl _, s1 _ _ upd_same⟩ (fun i σ H' _ ⟨_, _, _, _, s2, _⟩ => (hq.same s2).sq) ?_ ?_⟩
    · rintro i y σ H2 hy ⟨v5, v6, p2, rfl, s2, hp2⟩
      obtain ⟨r, rfl, hy2⟩ := ref_at hy
      obtain ⟨k1, k2, k3⟩ := (hq.2.same s2).get hy2
      obtain ⟨m1, m2⟩ := all_item k3
      have m3 : ∀ z ∈ (allPrices level).getD i [], 0 ≤ z ∧ z ≤ 999 := fun z hz => by
        have := m2 z hz
        omega
      have sH : Same H H2 := s0.trans (s1.trans s2)
      have more := bestAt_more (ms := ms) (d := d) k1
      refine ⟨_, rfl, _, rfl, _, rfl, b, r, d, _, level, rfl, hb.same sH, k2, l1, m1, m3, by omega, fun H3 s3 => ?_⟩
      refine ⟨_, rfl, _, rfl, _, _, rfl, rfl, _, rfl, ?_⟩
      refine ite2 (fun c => ?_) (fun c => ?_)
      · refine ⟨_, rfl, _, rfl, _, rfl, a, r, rs, ms, _, level, rfl, ha.same (sH.trans s3), k2.same s3, m1, l2, l3, m3, fun H4 s4 => ⟨_, rfl, ?_⟩⟩
        refine ite2 (fun c2 => ?_) (fun c2 => ?_)
        · refine ⟨_, rfl, _, rfl, ?_⟩
          have e : bestAt ms d level (i + 1) = ((allPrices level).getD i [], lower d level ((allPrices level).getD i [])) := by
            rw [more]
            exact if_pos ⟨of_decide_eq_true c, c2⟩
          rw [e]
          exact ⟨_, _, r, rfl, s2.trans (s3.trans s4), k2.same (s3.trans s4)⟩
        · have e : bestAt ms d level (i + 1) = bestAt ms d level i := by
            rw [more]
            exact if_neg fun z => c2 z.2
          rw [e]
          exact ⟨_, _, p2, rfl, s2.trans (s3.trans s4), hp2.same (s3.trans s4)⟩
      · have e : bestAt ms d level (i + 1) = bestAt ms d level i := by
          rw [more]
          exact if_neg fun z => c (decide_eq_true z.1)
        refine iteF ?_
        rw [e]
        exact ⟨_, _, p2, rfl, s2.trans s3, hp2.same s3⟩
    · rintro σ H2 ⟨v5, v6, p2, rfl, s2, hp2⟩
      refine ⟨_, rfl, q H2 p2 (s0.trans (s1.trans s2)) ?_⟩
      have e : bestAt ms d level (qs.map V.ref).length = (allPrices level).foldl (better ms d level) ([0, 0, 0], 0) := by
        unfold bestAt
        rw [List.length_map, hq.2.len, List.take_length]
      rw [e] at hp2
      exact hp2
end
end Mo
/-! ### 6. The shop: how it lies in the heap; its methods -/
namespace Mo
open PySem PySem.Spec PyProof.Rows L2
abbrev mS (j : Nat) : Stmt := inClass (top 38) j
def sF (a d : Addr) : List (Str × V) := [("moulds", .ref a), ("demand", .ref d)]
theorem lk_here {k : Str} {v : V} {r : List (Str × V)} : List.lookup k ((k, v) :: r) = some v := by
  have e : (k == k) = true := beq_self_eq_true k
  simp only [List.lookup, e]
theorem lk_past {k g : Str} {v : V} {r : List (Str × V)} (h : (k == g) = false) : List.lookup k ((g, v) :: r) = List.lookup k r := by
  simp only [List.lookup, h]
theorem put_here {f : Str} {v x : V} {r : List (Str × V)} : putF f v ((f, x) :: r) = (f, v) :: r := if_pos rfl
theorem put_past {f g : Str} {v x : V} {r : List (Str × V)} (h : ¬ g = f) : putF f v ((g, x) :: r) = (g, x) :: putF f v r := if_neg h
theorem sF_m (a d : Addr) : (sF a d).lookup ("moulds" : Str) = some (.ref a) := lk_here
theorem sF_d (a d : Addr) : (sF a d).lookup ("demand" : Str) = some (.ref d) := (lk_past (by decide +kernel)).trans lk_here
theorem sF_no {n : Str} (a d : Addr) (h1 : (n == ("moulds" : Str)) = false) (h2 : (n == ("demand" : Str)) = false) : (sF a d).lookup n = none := (lk_past h1).trans ((lk_past h2).trans rfl)
theorem sF_put (a d e : Addr) : putF "demand" (.ref e) (sF a d) = sF a e := (put_past (by decide +kernel)).trans (congrArg _ put_here)
theorem sF_new (a d : Addr) : putF "demand" (.ref d) (putF "moulds" (.ref a) []) = sF a d := (put_past (by decide +kernel)).trans rfl
/-- rows stand when something else is stored to -/
theorem Rws.other {H : Hp} {D : Addr} {o : HO} : ∀ {rs : List Addr} {ms : List (List Int)}, Rws H rs ms → (∀ r ∈ rs, r ≠ D) → Rws (upd H D o) rs ms
  | [], [], h, _ => h
  | r :: _, _ :: _, h, n => ⟨(upd_ne (n r List.mem_cons_self)).trans h.1, Rws.other h.2 fun b hb => n b (List.mem_cons_of_mem r hb)⟩
  | [], _ :: _, h, _ => h.elim
  | _ :: _, [], h, _ => h.elim
/-- a shop at x; nothing of it was there at H0, and all that was is still there -/
structure ShopIn (C : Addr) (H0 H : Hp) (x : Addr) (m : M) (dx a d : Addr) (rs : List Addr) : Prop where
  ins : H x = some (.ins C dx (sF a d))
  ml : LL H a rs m.moulds
  dl : LI H d m.demand
  fx : H0 x = none
  fa : H0 a = none
  fd : H0 d = none
  ad : a ≠ d
  rd : ∀ r ∈ rs, r ≠ d ∧ H0 r = none
  ext : ∀ b, H b = none → H0 b = none
def ShopAt (C : Addr) (H0 H : Hp) (x : Addr) (m : M) : Prop := ∃ dx a d rs, ShopIn C H0 H x m dx a d rs
theorem ShopIn.same {C : Addr} {H0 H H' : Hp} {x : Addr} {m : M} {dx a d : Addr} {rs : List Addr} (h : ShopIn C H0 H x m dx a d rs) (s : Same H H') : ShopIn C H0 H' x m dx a d rs :=
  ⟨s _ _ h.ins, h.ml.same s, h.dl.same s, h.fx, h.fa, h.fd, h.ad, h.rd, fun b e => h.ext b (s.free e)⟩
/-- a store to what was there before leaves the shop -/
theorem ShopIn.past {C : Addr} {H0 H : Hp} {x : Addr} {m : M} {dx a d : Addr} {rs : List Addr} (h : ShopIn C H0 H x m dx a d rs) {z : Addr} {o : HO} (hz : H0 z ≠ none) : ShopIn C H0 (upd H z o) x m dx a d rs := by
  have ne : ∀ b, H0 b = none → b ≠ z := fun b e q => hz (by rw [← q]; exact e)
  refine ⟨(upd_ne (ne _ h.fx)).trans h.ins, ⟨(upd_ne (ne _ h.fa)).trans h.ml.1, Rws.other h.ml.2 fun r hr => ne r (h.rd r hr).2⟩, (upd_ne (ne _ h.fd)).trans h.dl, h.fx, h.fa, h.fd, h.ad, h.rd, fun b e => ?_⟩
  by_cases c : b = z
  · rw [c, upd_same] at e
    cases e
  · rw [upd_ne c] at e
    exact h.ext b e
theorem ShopIn.at {C : Addr} {H0 H : Hp} {x : Addr} {m : M} {dx a d : Addr} {rs : List Addr} (h : ShopIn C H0 H x m dx a d rs) : ShopAt C H0 H x m := ⟨dx, a, d, rs, h⟩
theorem ShopIn.xa {C : Addr} {H0 H : Hp} {x : Addr} {m : M} {dx a d : Addr} {rs : List Addr} (h : ShopIn C H0 H x m dx a d rs) : x ≠ a := ne_of h.ins h.ml.1 (by intro z; cases z)
theorem ShopIn.xd {C : Addr} {H0 H : Hp} {x : Addr} {m : M} {dx a d : Addr} {rs : List Addr} (h : ShopIn C H0 H x m dx a d rs) : x ≠ d := ne_of h.ins h.dl (by intro z; cases z)
/-- what a call on the shop is to bring: the state and the answer -/
def Does (C : Addr) (H0 H : Hp) (x : Addr) (Q : VK) (r : M × List Int) : Prop := ∀ H' p, ShopAt C H0 H' x r.1 → (∀ b o, H0 b ≠ none → H b = some o → H' b = some o) → H0 p = none → LI H' p r.2 → Q (.ref p) H'
theorem Does.asks {C : Addr} {H0 H : Hp} {x : Addr} {Q : VK} {m : M} {l : List Int} (h : Does C H0 H x Q (m, l)) (S : ShopAt C H0 H x m) : Gives H Q l := by
  obtain ⟨dx, a, d, rs, S⟩ := S
  exact fun H' p s n e => h H' p (S.same s).at (fun b o _ q => s b o q) (S.ext p n) e
theorem Does.later {C : Addr} {H0 H H1 : Hp} {x : Addr} {Q : VK} {r : M × List Int} (h : Does C H0 H x Q r) (s : Same H H1) : Does C H0 H1 x Q r :=
  fun H' p S k n e => h H' p S (fun b o hb q => k b o hb (s b o q)) n e
theorem give1 {H H1 : Hp} {Q : VK} {z : Int} (q : Gives H Q [z]) (s : Same H H1) : ([V.int z] : List V).length ≤ sizeLine ∧ ∀ p, H1 p = none → Q (.ref p) (upd H1 p (.lst [V.int z])) :=
  ⟨by show 1 ≤ sizeLine; decide, fun p hp => q _ p (same_over s (s.free hp)) (s.free hp) upd_same⟩
theorem give2 {H H1 : Hp} {Q : VK} {y z : Int} (q : Gives H Q [y, z]) (s : Same H H1) : ([V.int y, V.int z] : List V).length ≤ sizeLine ∧ ∀ p, H1 p = none → Q (.ref p) (upd H1 p (.lst [V.int y, V.int z])) :=
  ⟨by show 2 ≤ sizeLine; decide, fun p hp => q _ p (same_over s (s.free hp)) (s.free hp) upd_same⟩
/-- what the top has written of the class -/
structure TxtS (K : PySem.W.Frag) (mg : Str → Option Value) (C : Addr) : Prop extends Txt mg where
  cl : Cls K C
  nM : NoAttr K C "moulds"
  nD : NoAttr K C "demand"
structure MethAt (P : Program) (w : World) (K : PySem.W.Frag) (mg : Str → Option Value) (base : Heap) (C : Addr) (x : Str) (ps : List Str) (k : Nat) (sp : Sp) (f : Addr) (fd : FuncData) : Prop where
  ok : FnOk P w K mg base CX0 k f fd ps sp
  mt : Meth K C x f
  bn : Binds K fd ps []
/-! chains of two comparisons -/
def rLe : R2 := rI0 fun i j => .bl (decide (i ≤ j))
def rLt : R2 := rI0 fun i j => .bl (decide (i < j))
theorem chain_lt {ta tb tc : TE} {σ : L2.St} {H : Hp} {x y z : Int} {Q : VK} (ha : ∀ Q' : VK, Q' (.int x) H → ta σ H Q') (hb : ∀ Q' : VK, Q' (.int y) H → tb σ H Q') (hc : ∀ Q' : VK, Q' (.int z) H → tc σ H Q')
    (q : Q (.bl (decide (x ≤ y ∧ y < z))) H) : tChain rLe rLt ta tb tc σ H Q := by
  refine ha _ (hb _ ⟨x, y, rfl, rfl, _, rfl, ?_⟩)
  by_cases c : x ≤ y
  · have e : decide (x ≤ y ∧ y < z) = decide (y < z) := decide_eq_decide.mpr ⟨fun h => h.2, fun h => ⟨c, h⟩⟩
    rw [e] at q
    rw [if_pos (decide_eq_true c)]
    exact hc _ ⟨y, z, rfl, rfl, q⟩
  · have e : decide (x ≤ y ∧ y < z) = false := decide_eq_false fun h => c h.1
    rw [e] at q
    rw [if_neg (by rw [decide_eq_false c]; exact Bool.false_ne_true)]
    exact q
theorem chain_le {ta tb tc : TE} {σ : L2.St} {H : Hp} {x y z : Int} {Q : VK} (ha : ∀ Q' : VK, Q' (.int x) H → ta σ H Q') (hb : ∀ Q' : VK, Q' (.int y) H → tb σ H Q') (hc : ∀ Q' : VK, Q' (.int z) H → tc σ H Q')
    (q : Q (.bl (decide (x ≤ y ∧ y ≤ z))) H) : tChain rLe rLe ta tb tc σ H Q := by
  refine ha _ (hb _ ⟨x, y, rfl, rfl, _, rfl, ?_⟩)
  by_cases c : x ≤ y
  · have e : decide (x ≤ y ∧ y ≤ z) = decide (y ≤ z) := decide_eq_decide.mpr ⟨fun h => h.2, fun h => ⟨c, h⟩⟩
    rw [e] at q
    rw [if_pos (decide_eq_true c)]
    exact hc _ ⟨y, z, rfl, rfl, q⟩
  · have e : decide (x ≤ y ∧ y ≤ z) = false := decide_eq_false fun h => c h.1
    rw [e] at q
    rw [if_neg (by rw [decide_eq_false c]; exact Bool.false_ne_true)]
    exact q
/-- if not b: one way; else the other -/
theorem not_if {b : Bool} {A B : Prop} (h1 : b = false → A) (h2 : b = true → B) : if (!b) = true then A else B := by
  cases b with
  | false => exact h1 rfl
  | true => exact h2 rfl
theorem ix_in {n : Nat} {i : Int} (h0 : 0 ≤ i) (h : i < n) : ixN n i = some i.toNat := by
  unfold ixN
  rw [if_pos h0, if_pos h]
theorem ref_i {rs : List Addr} {i : Int} (h0 : 0 ≤ i) (h : i < rs.length) : ∃ r, rs[i.toNat]? = some r ∧ atI (rs.map V.ref) i = some (.ref r) := by
  have hk : i.toNat < rs.length := by omega
  refine ⟨rs[i.toNat], List.getElem?_eq_getElem hk, ?_⟩
  have e : ((i.toNat : Nat) : Int) = i := by omega
  have q := atI_nat (xs := rs.map V.ref) (j := i.toNat) (v := V.ref rs[i.toNat]) (by rw [List.getElem?_map, List.getElem?_eq_getElem hk]; rfl)
  rw [e] at q
  exact q
theorem Rws.erase {H : Hp} : ∀ {rs : List Addr} {ms : List (List Int)} (k : Nat), Rws H rs ms → Rws H (rs.eraseIdx k) (ms.eraseIdx k)
  | [], [], _, h => h
  | _ :: _, _ :: _, 0, h => h.2
  | _ :: _, _ :: _, k + 1, h => ⟨h.1, Rws.erase k h.2⟩
  | [], _ :: _, _, h => h.elim
  | _ :: _, [], _, h => h.elim
theorem Rws.put {H : Hp} {l : Addr} {y : List Int} (e : LI H l y) : ∀ {rs : List Addr} {ms : List (List Int)} (k : Nat), Rws H rs ms → Rws H (rs.set k l) (ms.set k y)
  | [], [], _, h => h
  | _ :: _, _ :: _, 0, h => ⟨e, h.2⟩
  | _ :: _, _ :: _, k + 1, h => ⟨h.1, Rws.put e k h.2⟩
  | [], _ :: _, _, h => h.elim
  | _ :: _, [], _, h => h.elim
theorem len3 {l : List Int} (h : l.length = 3) : l ≠ [] := fun z => by
  rw [z] at h
  cases h
section
variable {P : Program} {w : World} {K : PySem.W.Frag} {mg : Str → Option Value} {base : Heap} {C : Addr}
/-! __init__ -/
def spInit (C : Addr) : Sp := fun vs H Q _ => ∃ (x dx : Addr) (H0 : Hp), vs = [.ref x] ∧ H x = some (.ins C dx []) ∧ H0 x = none ∧ (∀ b, H b = none → H0 b = none) ∧ ∀ H', ShopAt C H0 H' x M.fresh → (∀ b o, H b = some o → b ≠ x → H' b = some o) → Q .non H'
theorem scInit : FnScope ["self"] ["self"] (defScope (mS 0)) := ⟨rfl, rfl, rfl, by decide +kernel, rfl, by decide +kernel, by decide +kernel⟩
theorem ok_init {f : Addr} {fd : FuncData} (F : Fun K "__init__" "Shop.__init__" (mS 0) f fd) (T : TxtS K mg C) : FnOk P w K mg base CX0 1 f fd ["self"] (spInit C) := by
  refine F.ok scInit (fun vs H Q E h => ?_) (fun cdv A outer s H vs Q E hr h => ?_)
  · obtain ⟨x, dx, H0, rfl, _⟩ := h
    rfl
  · obtain ⟨x, dx, H0, rfl, hx, fx, ext, q⟩ := h
    refine ⟨_, pss_cons (ps_fld (pv 0) (pe_lst pa_nil) rfl) (pss_one (ps_fld (pv 0) (pe_lst (pa_cons pe_int (pa_cons pe_int (pa_cons pe_int pa_nil)))) rfl)), ?_⟩
    refine ⟨Nat.zero_le _, fun a na => ?_⟩
    have xa : x ≠ a := ne_of_none hx na
    refine ⟨_, rfl, x, C, dx, [], rfl, (upd_ne xa).trans hx, T.cl, T.nM, by decide, ?_⟩
    refine ⟨by show 3 ≤ sizeLine; decide, fun d nd => ?_⟩
    have xd : x ≠ d := ne_of_none upd_same nd
    have nd1 : upd H a (.lst []) d = none := (upd_ne xd.symm).symm.trans nd
    have ad : a ≠ d := ne_of_none upd_same nd1
    have nd2 : H d = none := (upd_ne ad.symm).symm.trans nd1
    refine ⟨_, rfl, x, C, dx, _, rfl, (upd_ne xd).trans upd_same, T.cl, T.nD, by show 1 < 1000; decide, ?_⟩
    rw [sF_new]
    refine q _ ⟨dx, a, d, [], ⟨upd_same, ⟨?_, trivial⟩, ?_, fx, ext a na, ext d nd2, ad, fun r hr => (List.not_mem_nil hr).elim, fun b e => ?_⟩⟩ fun b o e n => ?_
    · rw [upd_ne xa.symm, upd_ne ad, upd_ne xa.symm]
      exact upd_same
    · show upd _ x _ d = _
      rw [upd_ne xd.symm, upd_same]
      rfl
    · by_cases c : b = x
      · rw [c]
        exact fx
      · rw [upd_ne c] at e
        by_cases c2 : b = d
        · rw [c2]
          exact ext d nd2
        · rw [upd_ne c2, upd_ne c] at e
          by_cases c3 : b = a
          · rw [c3]
            exact ext a na
          · rw [upd_ne c3] at e
            exact ext b e
    · rw [upd_ne n, upd_ne (ne_of_none e nd2), upd_ne n, upd_ne (ne_of_none e na)]
      exact e
/-! has_mould -/
def spHas (C : Addr) : Sp := fun vs H Q _ => ∃ (x : Addr) (i : Int) (H0 : Hp) (m : M), vs = [.ref x, .int i] ∧ ShopAt C H0 H x m ∧ Q (.bl (m.has i)) H
theorem scHas : FnScope ["self", "i"] ["self", "i"] (defScope (mS 1)) := ⟨rfl, rfl, rfl, by decide +kernel, rfl, by decide +kernel, by decide +kernel⟩
theorem ok_has {f : Addr} {fd : FuncData} (F : Fun K "has_mould" "Shop.has_mould" (mS 1) f fd) (T : TxtS K mg C) : FnOk P w K mg base CX0 1 f fd ["self", "i"] (spHas C) := by
  refine F.ok scHas (fun vs H Q E h => ?_) (fun cdv A outer s H vs Q E hr h => ?_)
  · obtain ⟨x, i, H0, m, rfl, _⟩ := h
    rfl
  · obtain ⟨x, i, H0, m, rfl, ⟨dx, a, d, rs, S⟩, q⟩ := h
    refine ⟨_, pss_one (ps_ret (pe_chain op_le op_lt pe_int (pv 1) (pe_callB call_len_seq (by rfl) T.len PySem.boot_len (pa_cons (pe_fld (pv 0) rfl) pa_nil)))), ?_⟩
    refine chain_lt (x := 0) (y := i) (z := (m.moulds.length : Int)) (fun _ q => q) (fun _ q => ⟨_, rfl, q⟩) (fun Q' q => ?_) q
    refine ⟨_, rfl, x, C, dx, _, _, rfl, S.ins, T.cl, T.nM, sF_m a d, a, _, rfl, .inl S.ml.sq, ?_⟩
    rw [List.length_map, S.ml.2.len]
    exact q
/-! add_mould -/
def spAdd (C : Addr) : Sp := fun vs H Q _ => ∃ (x y : Addr) (ys : List Int) (H0 : Hp) (m : M), vs = [.ref x, .ref y] ∧ ShopAt C H0 H x m ∧ m.Ok ∧ LI H y ys ∧ ys.length = 3 ∧ Does C H0 H x Q (m.addMould ys)
theorem scAdd : FnScope ["self", "yields"] ["self", "yields"] (defScope (mS 2)) := ⟨rfl, rfl, rfl, by decide +kernel, rfl, by decide +kernel, by decide +kernel⟩
theorem ok_add {fW f : Addr} {fdW fd : FuncData} (DW : DefAt P w K mg base "all_within" ["numbers", "most"] 1 spWithin fW fdW) (F : Fun K "add_mould" "Shop.add_mould" (mS 2) f fd) (T : TxtS K mg C) : FnOk P w K mg base CX0 2 f fd ["self", "yields"] (spAdd C) := by
  refine F.ok scAdd (fun vs H Q E h => ?_) (fun cdv A outer s H vs Q E hr h => ?_)
  · obtain ⟨x, y, ys, H0, m, rfl, _⟩ := h
    rfl
  · obtain ⟨x, y, ys, H0, m, rfl, S0, mo, hy, ly, q⟩ := h
    obtain ⟨dx, a, d, rs, S⟩ := id S0
    refine ⟨_, pss_cons (ps_if (pt_not (pt_val (pe_call DW.ok hr rfl DW.gl DW.kp DW.bn .nil pass0 (pa_cons (pv 1) (pa_cons (pe_gint rfl T.yield_) pa_nil))))) (pss_one (ps_ret (pe_lst (pa_cons (pe_gint rfl T.outRange) pa_nil)))) pss_nil)
      (pss_cons (ps_if (pt_cmpR op_eq (pe_callB call_len_seq (by rfl) T.len PySem.boot_len (pa_cons (pe_fld (pv 0) rfl) pa_nil)) (pe_gint rfl T.moulds) (nomark _)) (pss_one (ps_ret (pe_lst (pa_cons (pe_gint rfl T.tooMany) pa_nil)))) pss_nil)
      (pss_cons (ps_expr (pe_bm PySem.F.plainAttrs_list PySem.F.slot_list_append PySem.F.type_list_append mt_append (pe_fld (pv 0) rfl) (pa_cons (pe_callTy call_list_of (by rfl) T.list (by decide +kernel) (pa_cons (pv 1) pa_nil)) pa_nil)))
      (pss_one (ps_ret (pe_lst (pa_cons (pe_op op_sub (pe_callB call_len_seq (by rfl) T.len PySem.boot_len (pa_cons (pe_fld (pv 0) rfl) pa_nil)) pe_int) pa_nil)))))), ?_⟩
    refine ⟨_, rfl, y, ys, 6, rfl, hy, by omega, fun H1 s1 => ⟨_, rfl, ?_⟩⟩
    refine not_if (fun c => ?_) (fun c => ?_)
    · have e : m.addMould ys = (m, [-22]) := if_pos c
      rw [e] at q
      exact give1 (q.asks S0) s1
    · have S1 := S.same s1
      refine ⟨_, rfl, x, C, dx, _, _, rfl, S1.ins, T.cl, T.nM, sF_m a d, a, _, rfl, .inl S1.ml.sq, rfl, _, rfl, ?_⟩
      have el : (rs.map V.ref).length = m.moulds.length := by rw [List.length_map, S.ml.2.len]
      rw [el]
      refine ite2 (fun c2 => ?_) (fun c2 => ?_)
      · have c2' : m.moulds.length = 4 := by
          have := of_decide_eq_true c2
          rw [V.int.injEq] at this
          omega
        have e : m.addMould ys = (m, [-28]) := by
          unfold M.addMould
          rw [if_neg (by rw [c]; decide), if_pos c2']
        rw [e] at q
        exact give1 (q.asks S0) s1
      · have c2' : ¬ m.moulds.length = 4 := fun z => c2 (decide_eq_true (by rw [z]; rfl))
        have e : m.addMould ys = ({ m with moulds := m.moulds ++ [ys] }, [(m.moulds.length : Int)]) := by
          unfold M.addMould
          rw [if_neg (by rw [c]; decide), if_neg c2']
        rw [e] at q
        refine ⟨_, rfl, x, C, dx, _, _, rfl, S1.ins, T.cl, T.nM, sF_m a d, .inl ⟨rfl, _, S1.ml.sq⟩, ?_⟩
        refine ⟨_, rfl, y, _, rfl, .inl (hy.same s1).sq, fun l nl => ?_⟩
        have s2 : Same H1 (upd H1 l (.lst (ys.map V.int))) := same_upd nl
        have S2 := S1.same s2
        have la : l ≠ a := (ne_of_none S1.ml.1 nl).symm
        have lx : l ≠ x := (ne_of_none S1.ins nl).symm
        have ld : l ≠ d := (ne_of_none S1.dl nl).symm
        refine ⟨a, _, _, rfl, rfl, S2.ml.1, small1000 (by have := mo.few; rw [el]; omega), ?_⟩
        have hl : LI (upd H1 l (.lst (ys.map V.int))) l ys := upd_same
        have S3 : ShopIn C H0 (upd (upd H1 l (.lst (ys.map V.int))) a (.lst (rs.map V.ref ++ [V.ref l]))) x { m with moulds := m.moulds ++ [ys] } dx a d (rs ++ [l]) := by
          refine ⟨(upd_ne S.xa).trans S2.ins, ⟨?_, ?_⟩, (upd_ne S.ad.symm).trans S2.dl, S.fx, S.fa, S.fd, S.ad, fun r hr => ?_, fun b e => ?_⟩
          · rw [upd_same, List.map_append]
            rfl
          · refine Rws.app (Rws.keep S2.ml.2 (fun r hr => len3 (mo.rows r hr)) S2.ml.1) ⟨(upd_ne la).trans hl, trivial⟩
          · rcases List.mem_append.mp hr with z | z
            · exact S.rd r z
            · rw [List.mem_singleton.mp z]
              exact ⟨ld, S1.ext l nl⟩
          · by_cases c3 : b = a
            · rw [c3]
              exact S.fa
            · rw [upd_ne c3] at e
              exact S2.ext b e
        refine ⟨_, rfl, x, C, dx, _, _, rfl, S3.ins, T.cl, T.nM, sF_m a d, a, _, rfl, .inl S3.ml.sq, _, _, rfl, rfl, ?_⟩
        refine ⟨by show 1 ≤ sizeLine; decide, fun p np => ?_⟩
        refine q _ p (S3.same (same_upd np)).at (fun b o hb e => ?_) (S3.ext p np) ?_
        · refine same_upd np _ _ ?_
          have ba : b ≠ a := fun z => hb (by rw [z]; exact S.fa)
          rw [upd_ne ba]
          exact s2 _ _ (s1 _ _ e)
        · show upd _ p _ p = _
          rw [upd_same, List.length_map, List.length_append, S.ml.2.len]
          show some (HO.lst [V.int (((m.moulds.length + 1 : Nat) : Int) - 1)]) = some (HO.lst [V.int (m.moulds.length : Int)])
          rw [show (((m.moulds.length + 1 : Nat) : Int) - 1) = (m.moulds.length : Int) by omega]
end
end Mo
namespace Mo
open PySem PySem.Spec PyProof.Rows L2
theorem has_in {m : M} {i : Int} (h : m.has i = true) : 0 ≤ i ∧ i < m.moulds.length := of_decide_eq_true h
theorem seq_in {n : Nat} {i : Int} (h0 : 0 ≤ i) (h : i < n) : seqIndex? i n = some i.toNat := (ixN_seq (ix_in h0 h)).1
theorem set_row {H : Hp} {rs : List Addr} {ms : List (List Int)} {k : Nat} (h : Rws H rs ms) {r : Addr} (e : rs[k]? = some r) : LI H r (ms.getD k []) := (h.get e).2.1
section
variable {P : Program} {w : World} {K : PySem.W.Frag} {mg : Str → Option Value} {base : Heap} {C : Addr}
/-! remove_mould -/
def spRemove (C : Addr) : Sp := fun vs H Q _ => ∃ (x : Addr) (i : Int) (H0 : Hp) (m : M), vs = [.ref x, .int i] ∧ ShopAt C H0 H x m ∧ m.Ok ∧ Does C H0 H x Q (m.removeMould i)
theorem scRemove : FnScope ["self", "i"] ["self", "i"] (defScope (mS 3)) := ⟨rfl, rfl, rfl, by decide +kernel, rfl, by decide +kernel, by decide +kernel⟩
theorem ok_remove {fH f : Addr} {fdH fd : FuncData} (DH : MethAt P w K mg base C "has_mould" ["self", "i"] 1 (spHas C) fH fdH) (F : Fun K "remove_mould" "Shop.remove_mould" (mS 3) f fd) (T : TxtS K mg C) : FnOk P w K mg base CX0 2 f fd ["self", "i"] (spRemove C) := by
  refine F.ok scRemove (fun vs H Q E h => ?_) (fun cdv A outer s H vs Q E hr h => ?_)
  · obtain ⟨x, i, H0, m, rfl, _⟩ := h
    rfl
  · obtain ⟨x, i, H0, m, rfl, S0, mo, q⟩ := h
    obtain ⟨dx, a, d, rs, S⟩ := id S0
    refine ⟨_, pss_cons (ps_if (pt_not (pt_val (pe_meth (pv 0) T.cl DH.mt DH.ok hr DH.bn .nil pass0 (pa_cons (pv 1) pa_nil)))) (pss_one (ps_ret (pe_lst (pa_cons (pe_gint rfl T.noIndex) pa_nil)))) pss_nil)
      (pss_cons (ps_expr (pe_bm PySem.F.plainAttrs_list PySem.F.slot_list_pop PySem.F.type_list_pop mt_popAt (pe_fld (pv 0) rfl) (pa_cons (pv 1) pa_nil)))
      (pss_one (ps_ret (pe_lst (pa_cons (pe_callB call_len_seq (by rfl) T.len PySem.boot_len (pa_cons (pe_fld (pv 0) rfl) pa_nil)) pa_nil))))), ?_⟩
    refine ⟨_, rfl, x, dx, _, rfl, S.ins, sF_no a d (by decide +kernel) (by decide +kernel), _, rfl, x, i, H0, m, rfl, S0, _, rfl, ?_⟩
    refine not_if (fun c => ?_) (fun c => ?_)
    · have e : m.removeMould i = (m, [-2]) := if_pos c
      rw [e] at q
      exact give1 (q.asks S0) (Same.refl _)
    · have e : m.removeMould i = ({ m with moulds := m.moulds.eraseIdx i.toNat }, [((m.moulds.eraseIdx i.toNat).length : Int)]) := by
        unfold M.removeMould
        rw [if_neg (by rw [c]; decide)]
      rw [e] at q
      obtain ⟨i0, i1⟩ := has_in c
      have i2 : i < rs.length := by rw [S.ml.2.len]; exact i1
      obtain ⟨r, hr1, hr2⟩ := ref_i i0 i2
      have fw := mo.few
      refine ⟨_, rfl, x, C, dx, _, _, rfl, S.ins, T.cl, T.nM, sF_m a d, .inl ⟨rfl, _, S.ml.sq⟩, _, rfl, ?_⟩
      refine ⟨a, _, i, i.toNat, V.ref r, rfl, rfl, S.ml.1, by omega, by omega, seq_in i0 (by rw [List.length_map]; exact i2), by rw [List.getElem?_map, hr1]; rfl, ?_⟩
      have S3 : ShopIn C H0 (upd H a (.lst ((rs.map V.ref).eraseIdx i.toNat))) x { m with moulds := m.moulds.eraseIdx i.toNat } dx a d (rs.eraseIdx i.toNat) := by
        refine ⟨(upd_ne S.xa).trans S.ins, ⟨by rw [upd_same, map_erase], ?_⟩, (upd_ne S.ad.symm).trans S.dl, S.fx, S.fa, S.fd, S.ad, fun r hr => S.rd r (List.mem_of_mem_eraseIdx hr), fun b e => ?_⟩
        · exact Rws.erase _ (Rws.keep S.ml.2 (fun r hr => len3 (mo.rows r hr)) S.ml.1)
        · by_cases c3 : b = a
          · rw [c3]
            exact S.fa
          · rw [upd_ne c3] at e
            exact S.ext b e
      refine ⟨_, rfl, x, C, dx, _, _, rfl, S3.ins, T.cl, T.nM, sF_m a d, a, _, rfl, .inl S3.ml.sq, ?_⟩
      refine ⟨by show 1 ≤ sizeLine; decide, fun p np => ?_⟩
      refine q _ p (S3.same (same_upd np)).at (fun b o hb e => ?_) (S3.ext p np) ?_
      · refine same_upd np _ _ ?_
        rw [upd_ne (fun z => hb (by rw [z]; exact S.fa))]
        exact e
      · show upd _ p _ p = _
        rw [upd_same, List.length_map, S3.ml.2.len]
        rfl
/-! set_mould -/
def spSet (C : Addr) : Sp := fun vs H Q _ => ∃ (x y : Addr) (i : Int) (ys : List Int) (H0 : Hp) (m : M), vs = [.ref x, .int i, .ref y] ∧ ShopAt C H0 H x m ∧ m.Ok ∧ LI H y ys ∧ ys.length = 3 ∧ Does C H0 H x Q (m.setMould i ys)
theorem scSet : FnScope ["self", "i", "yields", "old"] ["self", "i", "yields"] (defScope (mS 4)) := ⟨rfl, rfl, rfl, by decide +kernel, rfl, by decide +kernel, by decide +kernel⟩
theorem ok_set {fH fW f : Addr} {fdH fdW fd : FuncData} (DH : MethAt P w K mg base C "has_mould" ["self", "i"] 1 (spHas C) fH fdH) (DW : DefAt P w K mg base "all_within" ["numbers", "most"] 1 spWithin fW fdW)
    (F : Fun K "set_mould" "Shop.set_mould" (mS 4) f fd) (T : TxtS K mg C) : FnOk P w K mg base CX0 2 f fd ["self", "i", "yields"] (spSet C) := by
  refine F.ok scSet (fun vs H Q E h => ?_) (fun cdv A outer s H vs Q E hr h => ?_)
  · obtain ⟨x, y, i, ys, H0, m, rfl, _⟩ := h
    rfl
  · obtain ⟨x, y, i, ys, H0, m, rfl, S0, mo, hy, ly, q⟩ := h
    obtain ⟨dx, a, d, rs, S⟩ := id S0
    refine ⟨_, pss_cons (ps_if (pt_not (pt_val (pe_meth (pv 0) T.cl DH.mt DH.ok hr DH.bn .nil pass0 (pa_cons (pv 1) pa_nil)))) (pss_one (ps_ret (pe_lst (pa_cons (pe_gint rfl T.noIndex) pa_nil)))) pss_nil)
      (pss_cons (ps_if (pt_not (pt_val (pe_call DW.ok hr rfl DW.gl DW.kp DW.bn .nil pass0 (pa_cons (pv 2) (pa_cons (pe_gint rfl T.yield_) pa_nil))))) (pss_one (ps_ret (pe_lst (pa_cons (pe_gint rfl T.outRange) pa_nil)))) pss_nil)
      (pss_cons (ps_set (i := 3) scSet.nd rfl (Or.inl rfl) (pe_ix ix_list (pe_fld (pv 0) rfl) (pv 1) (fun _ _ => rfl)))
      (pss_cons (ps_asg (pe_callTy call_list_of (by rfl) T.list (by decide +kernel) (pa_cons (pv 2) pa_nil)) (pg_sub (pe_fld (pv 0) rfl) (pv 1) set_list))
      (pss_one (ps_ret (pe_op op_cat (pe_lst (pa_cons pe_int pa_nil)) (pv 3))))))), ?_⟩
    refine ⟨_, rfl, x, dx, _, rfl, S.ins, sF_no a d (by decide +kernel) (by decide +kernel), _, rfl, x, i, H0, m, rfl, S0, _, rfl, ?_⟩
    refine not_if (fun c => ?_) (fun c => ?_)
    · have e : m.setMould i ys = (m, [-2]) := if_pos c
      rw [e] at q
      exact give1 (q.asks S0) (Same.refl _)
    · refine ⟨_, rfl, y, ys, 6, rfl, hy, by omega, fun H1 s1 => ⟨_, rfl, ?_⟩⟩
      refine not_if (fun c2 => ?_) (fun c2 => ?_)
      · have e : m.setMould i ys = (m, [-22]) := by
          unfold M.setMould
          rw [if_neg (by rw [c]; decide), if_pos c2]
        rw [e] at q
        exact give1 (q.asks S0) s1
      · have e : m.setMould i ys = ({ m with moulds := m.moulds.set i.toNat ys }, 0 :: m.moulds.getD i.toNat []) := by
          unfold M.setMould
          rw [if_neg (by rw [c]; decide), if_neg (by rw [c2]; decide)]
        rw [e] at q
        have S1 := S.same s1
        obtain ⟨i0, i1⟩ := has_in c
        have i2 : i < rs.length := by rw [S.ml.2.len]; exact i1
        obtain ⟨r, hr1, hr2⟩ := ref_i i0 i2
        obtain ⟨g1, g2, g3⟩ := S1.ml.2.get hr1
        refine ⟨_, rfl, x, C, dx, _, _, rfl, S1.ins, T.cl, T.nM, sF_m a d, _, rfl, a, _, _, _, rfl, rfl, S1.ml.sq, hr2, ?_⟩
        refine ⟨_, rfl, y, _, rfl, .inl (hy.same s1).sq, fun l nl => ?_⟩
        have s2 : Same H1 (upd H1 l (.lst (ys.map V.int))) := same_upd nl
        have S2 := S1.same s2
        have la : l ≠ a := (ne_of_none S1.ml.1 nl).symm
        have ld : l ≠ d := (ne_of_none S1.dl nl).symm
        have hl : LI (upd H1 l (.lst (ys.map V.int))) l ys := upd_same
        have hrow : LI (upd H1 l (.lst (ys.map V.int))) r (m.moulds.getD i.toNat []) := s2 _ _ g2
        refine ⟨_, rfl, x, C, dx, _, _, rfl, S2.ins, T.cl, T.nM, sF_m a d, _, rfl, a, _, _, i.toNat, rfl, rfl, S2.ml.1, ix_in i0 (by rw [List.length_map]; exact i2), ?_⟩
        have kp := Rws.keep (o := HO.lst ((rs.map V.ref).set i.toNat (V.ref l))) S2.ml.2 (fun r hr => len3 (mo.rows r hr)) S2.ml.1
        have S3 : ShopIn C H0 (upd (upd H1 l (.lst (ys.map V.int))) a (.lst ((rs.map V.ref).set i.toNat (V.ref l)))) x { m with moulds := m.moulds.set i.toNat ys } dx a d (rs.set i.toNat l) := by
          refine ⟨(upd_ne S.xa).trans S2.ins, ⟨by rw [upd_same, map_set], ?_⟩, (upd_ne S.ad.symm).trans S2.dl, S.fx, S.fa, S.fd, S.ad, fun r hr => ?_, fun b e => ?_⟩
          · exact Rws.put ((upd_ne la).trans hl) _ kp
          · rcases List.mem_or_eq_of_mem_set hr with z | z
            · exact S.rd r z
            · rw [z]
              exact ⟨ld, S1.ext l nl⟩
          · by_cases c3 : b = a
            · rw [c3]
              exact S.fa
            · rw [upd_ne c3] at e
              exact S2.ext b e
        have hrow3 := set_row kp hr1
        have l3 : (m.moulds.getD i.toNat []).length = 3 := mo.rows _ g3
        refine ⟨by show 1 ≤ sizeLine; decide, fun p np => ?_⟩
        have s4 := same_upd (o := HO.lst [V.int 0]) np
        refine ⟨_, rfl, p, r, _, _, rfl, rfl, upd_same, s4 _ _ hrow3, ?_, fun p2 np2 => ?_⟩
        · rw [List.length_map, l3]
          show 1 + 3 ≤ sizeLine
          decide
        · have s5 := s4.trans (same_upd (o := HO.lst ([V.int 0] ++ (m.moulds.getD i.toNat []).map V.int)) np2)
          refine q _ p2 (S3.same s5).at (fun b o hb e => ?_) (S3.ext p2 (s4.free np2)) ?_
          · refine s5 _ _ ?_
            rw [upd_ne (fun z => hb (by rw [z]; exact S.fa))]
            exact s2 _ _ (s1 _ _ e)
          · exact upd_same
/-! set_demand -/
def spDemand (C : Addr) : Sp := fun vs H Q _ => ∃ (x : Addr) (j n : Int) (H0 : Hp) (m : M), vs = [.ref x, .int j, .int n] ∧ ShopAt C H0 H x m ∧ m.Ok ∧ Does C H0 H x Q (m.setDemand j n)
theorem scDemand : FnScope ["self", "j", "amount", "old"] ["self", "j", "amount"] (defScope (mS 5)) := ⟨rfl, rfl, rfl, by decide +kernel, rfl, by decide +kernel, by decide +kernel⟩
theorem ok_demand {f : Addr} {fd : FuncData} (F : Fun K "set_demand" "Shop.set_demand" (mS 5) f fd) (T : TxtS K mg C) : FnOk P w K mg base CX0 1 f fd ["self", "j", "amount"] (spDemand C) := by
  refine F.ok scDemand (fun vs H Q E h => ?_) (fun cdv A outer s H vs Q E hr h => ?_)
  · obtain ⟨x, j, n, H0, m, rfl, _⟩ := h
    rfl
  · obtain ⟨x, j, n, H0, m, rfl, S0, mo, q⟩ := h
    obtain ⟨dx, a, d, rs, S⟩ := id S0
    refine ⟨_, pss_cons (ps_if (pt_not (pt_chain op_le op_lt pe_int (pv 1) (pe_gint rfl T.kinds))) (pss_one (ps_ret (pe_lst (pa_cons (pe_gint rfl T.noIndex) pa_nil)))) pss_nil)
      (pss_cons (ps_if (pt_not (pt_chain op_le op_le pe_int (pv 2) (pe_gint rfl T.amount))) (pss_one (ps_ret (pe_lst (pa_cons (pe_gint rfl T.outRange) pa_nil)))) pss_nil)
      (pss_cons (ps_set (i := 3) scDemand.nd rfl (Or.inl rfl) (pe_ix ix_list (pe_fld (pv 0) rfl) (pv 1) (fun _ _ => rfl)))
      (pss_cons (ps_asg (pv 2) (pg_sub (pe_fld (pv 0) rfl) (pv 1) set_list))
      (pss_one (ps_ret (pe_lst (pa_cons (pv 3) pa_nil))))))), ?_⟩
    refine chain_lt (x := 0) (y := j) (z := 3) (fun _ q => q) (fun _ q => ⟨_, rfl, q⟩) (fun _ q => q) ⟨_, rfl, ?_⟩
    refine not_if (fun c => ?_) (fun c => ?_)
    · have e : m.setDemand j n = (m, [-2]) := if_pos c
      rw [e] at q
      exact give1 (q.asks S0) (Same.refl _)
    · dsimp only [tNext, tSeq, tIfS, tNot, tTest]
      refine chain_le (x := 0) (y := n) (z := 40) (fun _ q => q) (fun _ q => ⟨_, rfl, q⟩) (fun _ q => q) ⟨_, rfl, ?_⟩
      refine not_if (fun c2 => ?_) (fun c2 => ?_)
      · have e : m.setDemand j n = (m, [-22]) := by
          unfold M.setDemand
          rw [if_neg (by rw [c]; decide), if_pos c2]
        rw [e] at q
        exact give1 (q.asks S0) (Same.refl _)
      · have e : m.setDemand j n = ({ m with demand := m.demand.set j.toNat n }, [g m.demand j.toNat]) := by
          unfold M.setDemand
          rw [if_neg (by rw [c]; decide), if_neg (by rw [c2]; decide)]
        rw [e] at q
        obtain ⟨j0, j1⟩ := of_decide_eq_true c
        have hd := mo.dem
        refine ⟨_, rfl, x, C, dx, _, _, rfl, S.ins, T.cl, T.nD, sF_d a d, _, rfl, d, _, _, _, rfl, rfl, S.dl.sq, at_i j0 (by omega), ?_⟩
        refine ⟨_, rfl, _, rfl, x, C, dx, _, _, rfl, S.ins, T.cl, T.nD, sF_d a d, _, rfl, d, _, _, j.toNat, rfl, rfl, S.dl, ix_in j0 (by rw [List.length_map]; omega), ?_⟩
        have S3 : ShopIn C H0 (upd H d (.lst ((m.demand.map V.int).set j.toNat (V.int n)))) x { m with demand := m.demand.set j.toNat n } dx a d rs := by
          refine ⟨(upd_ne S.xd).trans S.ins, ⟨(upd_ne S.ad).trans S.ml.1, Rws.other S.ml.2 fun r hr => (S.rd r hr).1⟩, ?_, S.fx, S.fa, S.fd, S.ad, S.rd, fun b e => ?_⟩
          · show upd _ d _ d = _
            rw [upd_same, map_set]
          · by_cases c3 : b = d
            · rw [c3]
              exact S.fd
            · rw [upd_ne c3] at e
              exact S.ext b e
        refine ⟨_, rfl, by show 1 ≤ sizeLine; decide, fun p np => ?_⟩
        refine q _ p (S3.same (same_upd np)).at (fun b o hb e => ?_) (S3.ext p np) upd_same
        refine same_upd np _ _ ?_
        rw [upd_ne (fun z => hb (by rw [z]; exact S.fd))]
        exact e
/-! set_all_demand -/
def spSetAll (C : Addr) : Sp := fun vs H Q _ => ∃ (x y : Addr) (ys : List Int) (H0 : Hp) (m : M), vs = [.ref x, .ref y] ∧ ShopAt C H0 H x m ∧ m.Ok ∧ LI H y ys ∧ ys.length ≤ 1000 ∧ Does C H0 H x Q (m.setAll ys)
theorem scSetAll : FnScope ["self", "amounts"] ["self", "amounts"] (defScope (mS 6)) := ⟨rfl, rfl, rfl, by decide +kernel, rfl, by decide +kernel, by decide +kernel⟩
theorem ok_setAll {fW f : Addr} {fdW fd : FuncData} (DW : DefAt P w K mg base "all_within" ["numbers", "most"] 1 spWithin fW fdW) (F : Fun K "set_all_demand" "Shop.set_all_demand" (mS 6) f fd) (T : TxtS K mg C) : FnOk P w K mg base CX0 2 f fd ["self", "amounts"] (spSetAll C) := by
  refine F.ok scSetAll (fun vs H Q E h => ?_) (fun cdv A outer s H vs Q E hr h => ?_)
  · obtain ⟨x, y, ys, H0, m, rfl, _⟩ := h
    rfl
  · obtain ⟨x, y, ys, H0, m, rfl, S0, mo, hy, ly, q⟩ := h
    obtain ⟨dx, a, d, rs, S⟩ := id S0
    refine ⟨_, pss_cons (ps_if (PW.pt (pw_or (pt_cmpR op_ne (pe_callB call_len_seq (by rfl) T.len PySem.boot_len (pa_cons (pv 1) pa_nil)) (pe_gint rfl T.kinds) (nomark _))
        (pw_or1 (pt_not (pt_val (pe_call DW.ok hr rfl DW.gl DW.kp DW.bn .nil pass0 (pa_cons (pv 1) (pa_cons (pe_gint rfl T.amount) pa_nil)))))))) (pss_one (ps_ret (pe_lst (pa_cons (pe_gint rfl T.outRange) pa_nil)))) pss_nil)
      (pss_cons (ps_fld (pv 0) (pe_callTy call_list_of (by rfl) T.list (by decide +kernel) (pa_cons (pv 1) pa_nil)) rfl)
      (pss_one (ps_ret (pe_lst (pa_cons (pe_callB (cr_sum rfl) (by rfl) T.sum (by decide +kernel) (pa_cons (pv 1) pa_nil)) pa_nil))))), ?_⟩
    refine ⟨_, rfl, y, _, rfl, .inl hy.sq, rfl, _, rfl, ?_⟩
    rw [List.length_map]
    refine ite2 (fun c => ?_) (fun c => ?_)
    · have c' : ys.length ≠ 3 := fun z => by
        rw [z] at c
        exact absurd c (by decide +kernel)
      have e : m.setAll ys = (m, [-22]) := if_pos (.inl c')
      rw [e] at q
      refine iteT ?_
      exact give1 (q.asks S0) (Same.refl _)
    · have c' : ys.length = 3 := by
        have c2 : decide (V.int (ys.length : Int) = V.int 3) = true := by
          cases z : decide (V.int (ys.length : Int) = V.int 3) with
          | true => rfl
          | false => exact absurd (by rw [z]; rfl) c
        have := of_decide_eq_true c2
        rw [V.int.injEq] at this
        omega
      refine ⟨_, rfl, y, ys, 40, rfl, hy, ly, fun H1 s1 => ⟨_, rfl, ?_⟩⟩
      refine not_if (fun c2 => ?_) (fun c2 => ?_)
      · have e : m.setAll ys = (m, [-22]) := if_pos (.inr c2)
        rw [e] at q
        exact give1 (q.asks S0) s1
      · have e : m.setAll ys = ({ m with demand := ys }, [ys.sum]) := by
          unfold M.setAll
          rw [if_neg (fun z => z.elim (fun z => z c') (fun z => by rw [c2] at z; cases z))]
        rw [e] at q
        have S1 := S.same s1
        refine ⟨_, rfl, y, _, rfl, .inl (hy.same s1).sq, fun l nl => ?_⟩
        have s2 : Same H1 (upd H1 l (.lst (ys.map V.int))) := same_upd nl
        have S2 := S1.same s2
        have lx : l ≠ x := (ne_of_none S1.ins nl).symm
        have la : l ≠ a := (ne_of_none S1.ml.1 nl).symm
        refine ⟨_, rfl, x, C, dx, _, rfl, S2.ins, T.cl, T.nD, by show 2 < 1000; decide, ?_⟩
        rw [sF_put]
        have S3 : ShopIn C H0 (upd (upd H1 l (.lst (ys.map V.int))) x (.ins C dx (sF a l))) x { m with demand := ys } dx a l rs := by
          refine ⟨upd_same, ⟨(upd_ne S.xa.symm).trans S2.ml.1, Rws.other S2.ml.2 fun r hr z => ?_⟩, (upd_ne lx).trans upd_same, S.fx, S.fa, S1.ext l nl, la.symm, fun r hr => ⟨fun z => ?_, (S.rd r hr).2⟩, fun b e => ?_⟩
          · obtain ⟨k, hk⟩ := List.getElem?_of_mem hr
            have := (S2.ml.2.get hk).2.1
            rw [z] at this
            exact (ne_of this S2.ins (by intro z; cases z)) rfl
          · obtain ⟨k, hk⟩ := List.getElem?_of_mem hr
            have := (S1.ml.2.get hk).2.1
            rw [z] at this
            exact (ne_of_none this nl) rfl
          · by_cases c3 : b = x
            · rw [c3]
              exact S.fx
            · rw [upd_ne c3] at e
              exact S2.ext b e
        have yx : y ≠ x := ne_of hy S.ins (by intro z; cases z)
        refine ⟨_, rfl, y, ys, rfl, .inl (.inl ((upd_ne yx).trans (s2 _ _ (s1 _ _ hy)))), by show 1 ≤ sizeLine; decide, fun p np => ?_⟩
        refine q _ p (S3.same (same_upd np)).at (fun b o hb e => ?_) (S3.ext p np) upd_same
        refine same_upd np _ _ ?_
        rw [upd_ne (fun z => hb (by rw [z]; exact S.fx))]
        exact s2 _ _ (s1 _ _ e)
/-! make_shots -/
def spMake (C : Addr) : Sp := fun vs H Q _ => ∃ (x : Addr) (i n : Int) (H0 : Hp) (m : M), vs = [.ref x, .int i, .int n] ∧ ShopAt C H0 H x m ∧ m.Ok ∧ Does C H0 H x Q (m.makeShots i n)
theorem scMake : FnScope ["self", "i", "n", "left", "amount"] ["self", "i", "n"] (defScope (mS 16)) := ⟨rfl, rfl, rfl, by decide +kernel, rfl, by decide +kernel, by decide +kernel⟩
theorem ok_make {fH fN f : Addr} {fdH fdN fd : FuncData} (DH : MethAt P w K mg base C "has_mould" ["self", "i"] 1 (spHas C) fH fdH) (DN : DefAt P w K mg base "need_after" ["need", "mould", "shots"] 1 spNeed fN fdN)
    (F : Fun K "make_shots" "Shop.make_shots" (mS 16) f fd) (T : TxtS K mg C) : FnOk P w K mg base CX0 2 f fd ["self", "i", "n"] (spMake C) := by
  refine F.ok scMake (fun vs H Q E h => ?_) (fun cdv A outer s H vs Q E hr h => ?_)
  · obtain ⟨x, i, n, H0, m, rfl, _⟩ := h
    rfl
  · obtain ⟨x, i, n, H0, m, rfl, S0, mo, q⟩ := h
    obtain ⟨dx, a, d, rs, S⟩ := id S0
    refine ⟨_, pss_cons (ps_if (pt_not (pt_val (pe_meth (pv 0) T.cl DH.mt DH.ok hr DH.bn .nil pass0 (pa_cons (pv 1) pa_nil)))) (pss_one (ps_ret (pe_lst (pa_cons (pe_gint rfl T.noIndex) pa_nil)))) pss_nil)
      (pss_cons (ps_if (pt_not (pt_chain op_le op_le pe_int (pv 2) (pe_gint rfl T.made))) (pss_one (ps_ret (pe_lst (pa_cons (pe_gint rfl T.outRange) pa_nil)))) pss_nil)
      (pss_cons (ps_set (i := 3) scMake.nd rfl (Or.inl rfl) (pe_call DN.ok hr rfl DN.gl DN.kp DN.bn .nil pass0 (pa_cons (pe_fld (pv 0) rfl) (pa_cons (pe_ix ix_list (pe_fld (pv 0) rfl) (pv 1) (fun _ _ => rfl)) (pa_cons (pv 2) pa_nil)))))
      (pss_cons (ps_fld (pv 0) (pe_lc (own := [("amount", 4)]) (g := gName 4) (tt := tYes) rfl scMake.nd (pi_list (pv 3)) (blkOk_by (N := ["self", "i", "n", "left", "amount"]) (sc := defScope (mS 16)) (by decide +kernel))
        (fun _ _ _ _ _ => pg_name (i := 4) scMake.nd rfl (Or.inl rfl)) (fun _ _ _ _ _ => pts_nil) (fun _ _ _ _ _ => pe_callB (call_max2 rfl) (by rfl) T.max (by decide +kernel) (pa_cons pe_int (pa_cons (pv 4) pa_nil)))) rfl)
      (pss_one (ps_ret (pe_op op_cat (pe_lst (pa_cons (pv 2) pa_nil)) (pe_fld (pv 0) rfl))))))), ?_⟩
    refine ⟨_, rfl, x, dx, _, rfl, S.ins, sF_no a d (by decide +kernel) (by decide +kernel), _, rfl, x, i, H0, m, rfl, S0, _, rfl, ?_⟩
    refine not_if (fun c => ?_) (fun c => ?_)
    · have e : m.makeShots i n = (m, [-2]) := if_pos c
      rw [e] at q
      exact give1 (q.asks S0) (Same.refl _)
    · dsimp only [tNext, tSeq, tIfS, tNot, tTest]
      refine chain_le (x := 1) (y := n) (z := 20) (fun _ q => q) (fun _ q => ⟨_, rfl, q⟩) (fun _ q => q) ⟨_, rfl, ?_⟩
      refine not_if (fun c2 => ?_) (fun c2 => ?_)
      · have e : m.makeShots i n = (m, [-22]) := by
          unfold M.makeShots
          rw [if_neg (by rw [c]; decide), if_pos c2]
        rw [e] at q
        exact give1 (q.asks S0) (Same.refl _)
      · have e : m.makeShots i n = ({ m with demand := m.afterShots i n }, n :: m.afterShots i n) := by
          unfold M.makeShots
          rw [if_neg (by rw [c]; decide), if_neg (by rw [c2]; decide)]
        rw [e] at q
        obtain ⟨n0, n1⟩ := of_decide_eq_true c2
        obtain ⟨i0, i1⟩ := has_in c
        have i2 : i < rs.length := by rw [S.ml.2.len]; exact i1
        obtain ⟨r, hr1, hr2⟩ := ref_i i0 i2
        obtain ⟨g1, g2, g3⟩ := S.ml.2.get hr1
        refine ⟨_, rfl, x, C, dx, _, _, rfl, S.ins, T.cl, T.nD, sF_d a d, _, rfl, x, C, dx, _, _, rfl, S.ins, T.cl, T.nM, sF_m a d, _, rfl, a, _, _, _, rfl, rfl, S.ml.sq, hr2, _, rfl, d, r, m.demand, _, n, rfl, S.dl, g2, mo.dem, mo.rows _ g3, by omega, fun H1 p1 s1 _ hp1 => ?_⟩
        have S1 := S.same s1
        refine ⟨_, rfl, p1, rfl, ⟨_, hp1.sq⟩, fun D hD => lcl 4 (fun k => V.int (if 0 < g (needAfter m.demand (m.moulds.getD i.toNat []) n) k then g (needAfter m.demand (m.moulds.getD i.toNat []) n) k else 0)) ?_ hp1.sq hD (fun _ => rfl) ?_ ?_⟩
        · rw [List.length_map]
          show 3 ≤ 1000
          decide
        · intro k v H2 Qe hv s2 qe
          obtain ⟨rfl, _, _⟩ := int_at hv
          exact ⟨_, rfl, 0, _, rfl, qe H2 (Same.refl _)⟩
        · intro H2 s2 e2
          have hD2 : LI H2 D (m.afterShots i n) := by
            refine e2.trans ?_
            have e3 : ∀ L : List Int, ((List.range L.length).map fun k => V.int (if 0 < g L k then g L k else 0)) = L.map fun y => V.int (if 0 < y then y else 0) := fun L => range_getD (fun y => V.int (if 0 < y then y else 0)) 0 L
            rw [List.length_map, e3]
            unfold M.afterShots
            rw [List.map_map]
            rfl
          have S2 := S1.same s2
          have Dx : D ≠ x := (ne_of_none S1.ins hD).symm
          have Da : D ≠ a := (ne_of_none S1.ml.1 hD).symm
          refine ⟨_, rfl, x, C, dx, _, rfl, S2.ins, T.cl, T.nD, by show 2 < 1000; decide, ?_⟩
          rw [sF_put]
          have S3 : ShopIn C H0 (upd H2 x (.ins C dx (sF a D))) x { m with demand := m.afterShots i n } dx a D rs := by
            refine ⟨upd_same, ⟨(upd_ne S.xa.symm).trans S2.ml.1, Rws.other S2.ml.2 fun r hr z => ?_⟩, (upd_ne Dx).trans hD2, S.fx, S.fa, S1.ext D hD, Da.symm, fun r hr => ⟨fun z => ?_, (S.rd r hr).2⟩, fun b e => ?_⟩
            · obtain ⟨k, hk⟩ := List.getElem?_of_mem hr
              have := (S2.ml.2.get hk).2.1
              rw [z] at this
              exact (ne_of this S2.ins (by intro z; cases z)) rfl
            · obtain ⟨k, hk⟩ := List.getElem?_of_mem hr
              have := (S1.ml.2.get hk).2.1
              rw [z] at this
              exact (ne_of_none this hD) rfl
            · by_cases c3 : b = x
              · rw [c3]
                exact S.fx
              · rw [upd_ne c3] at e
                exact S2.ext b e
          refine ⟨_, rfl, by show 1 ≤ sizeLine; decide, fun p np => ?_⟩
          have s4 := same_upd (o := HO.lst [V.int n]) np
          have S4 := S3.same s4
          refine ⟨_, rfl, x, C, dx, _, _, rfl, S4.ins, T.cl, T.nD, sF_d a D, p, D, _, _, rfl, rfl, upd_same, S4.dl, ?_, fun p2 np2 => ?_⟩
          · rw [List.length_map]
            show 1 + 3 ≤ sizeLine
            decide
          · have s5 := s4.trans (same_upd (o := HO.lst ([V.int n] ++ (m.afterShots i n).map V.int)) np2)
            refine q _ p2 (S3.same s5).at (fun b o hb e => ?_) (S3.ext p2 (s4.free np2)) upd_same
            refine s5 _ _ ?_
            rw [upd_ne (fun z => hb (by rw [z]; exact S.fx))]
            exact s2 _ _ (s1 _ _ e)
end
end Mo
namespace Mo
open PySem PySem.Spec PyProof.Rows L2
theorem cut_to {xs : List V} {i : Int} (h0 : 0 ≤ i) : cutV xs none (some i) = xs.take i.toNat := by
  have e : i = ((i.toNat : Nat) : Int) := by omega
  rw [e]
  unfold cutV
  rw [HT.sIx_none, show HT.sIx xs.length xs.length (some ((i.toNat : Nat) : Int)) = min i.toNat xs.length from HT.sIx_nat _ _ _, List.drop_zero, Nat.sub_zero, Int.toNat_natCast]
  by_cases c : i.toNat ≤ xs.length
  · rw [Nat.min_eq_left c]
  · rw [Nat.min_eq_right (by omega), List.take_length, List.take_of_length_le (by omega)]
theorem cut_from {xs : List V} {i : Int} (h0 : 0 ≤ i) : cutV xs (some i) none = xs.drop i.toNat := by
  have e : i = ((i.toNat : Nat) : Int) := by omega
  rw [e]
  unfold cutV
  rw [HT.sIx_none, show HT.sIx xs.length 0 (some ((i.toNat : Nat) : Int)) = min i.toNat xs.length from HT.sIx_nat _ _ _, Int.toNat_natCast]
  by_cases c : i.toNat ≤ xs.length
  · rw [Nat.min_eq_left c]
    exact List.take_of_length_le (by rw [List.length_drop]; exact Nat.le_refl _)
  · rw [Nat.min_eq_right (by omega), Nat.sub_self, List.take_zero, List.drop_eq_nil_of_le (by omega)]
theorem prod_len (ms : List (List Int)) (p : List Int) : (produced ms p).length = 3 := by
  unfold produced
  rw [List.length_map, List.length_range]
theorem prices_ok {ms : List (List Int)} {d : List Int} {level : Nat} (h : level ≤ 6) : (bestPrices ms d level).length = 3 ∧ ∀ z ∈ bestPrices ms d level, 0 ≤ z ∧ z ≤ 999 := by
  have key : ∀ (l : List (List Int)) (b : List Int × Int), (∀ p ∈ l, p.length = 3 ∧ ∀ z ∈ p, 0 ≤ z ∧ z ≤ 999) → (b.1.length = 3 ∧ ∀ z ∈ b.1, 0 ≤ z ∧ z ≤ 999) →
      ((l.foldl (better ms d level) b).1.length = 3 ∧ ∀ z ∈ (l.foldl (better ms d level) b).1, 0 ≤ z ∧ z ≤ 999) := by
    intro l
    induction l with
    | nil => exact fun b _ hb => hb
    | cons p l ih =>
      intro b hl hb
      rw [List.foldl_cons]
      refine ih _ (fun q hq => hl q (List.mem_cons_of_mem p hq)) ?_
      unfold better
      by_cases c : b.2 < lower d level p ∧ feasible ms level p = true
      · rw [if_pos c]
        exact hl p List.mem_cons_self
      · rw [if_neg c]
        exact hb
  refine key _ ([0, 0, 0], 0) (fun p hp => ?_) ⟨rfl, fun z hz => ?_⟩
  · obtain ⟨a, b⟩ := all_item hp
    refine ⟨a, fun z hz => ?_⟩
    have := b z hz
    omega
  · have : z = 0 := by
      simp at hz
      exact hz
    omega
section
variable {P : Program} {w : World} {K : PySem.W.Frag} {mg : Str → Option Value} {base : Heap} {C : Addr}
/-! min_shots -/
def spMin (C : Addr) : Sp := fun vs H Q _ => ∃ (x : Addr) (H0 : Hp) (m : M), vs = [.ref x] ∧ ShopAt C H0 H x m ∧ m.Ok ∧ Gives H Q m.minShots
theorem scMin : FnScope ["self"] ["self"] (defScope (mS 7)) := ⟨rfl, rfl, rfl, by decide +kernel, rfl, by decide +kernel, by decide +kernel⟩
theorem ok_min {fT f : Addr} {fdT fd : FuncData} (DT : DefAt P w K mg base "total_of_best_plan" ["moulds", "demand"] 9 spTotal fT fdT) (F : Fun K "min_shots" "Shop.min_shots" (mS 7) f fd) (T : TxtS K mg C) : FnOk P w K mg base CX0 10 f fd ["self"] (spMin C) := by
  refine F.ok scMin (fun vs H Q E h => ?_) (fun cdv A outer s H vs Q E hr h => ?_)
  · obtain ⟨x, H0, m, rfl, _⟩ := h
    rfl
  · obtain ⟨x, H0, m, rfl, ⟨dx, a, d, rs, S⟩, mo, q⟩ := h
    refine ⟨_, pss_one (ps_ret (pe_call DT.ok hr rfl DT.gl DT.kp DT.bn .nil pass0 (pa_cons (pe_fld (pv 0) rfl) (pa_cons (pe_fld (pv 0) rfl) pa_nil)))), ?_⟩
    exact ⟨_, rfl, x, C, dx, _, _, rfl, S.ins, T.cl, T.nM, sF_m a d, _, rfl, x, C, dx, _, _, rfl, S.ins, T.cl, T.nD, sF_d a d, a, d, rs, m.moulds, m.demand, rfl, S.ml, S.dl, mo.dem, mo.rows, mo.few, q⟩
/-! best_plan -/
def spBestPlan (C : Addr) : Sp := fun vs H Q _ => ∃ (x : Addr) (H0 : Hp) (m : M), vs = [.ref x] ∧ ShopAt C H0 H x m ∧ m.Ok ∧ Gives H Q m.bestPlan
theorem scBestPlan : FnScope ["self", "plan"] ["self"] (defScope (mS 8)) := ⟨rfl, rfl, rfl, by decide +kernel, rfl, by decide +kernel, by decide +kernel⟩
theorem ok_bestPlan {fB f : Addr} {fdB fd : FuncData} (DB : DefAt P w K mg base "find_best_plan" ["moulds", "demand"] 8 spBest fB fdB) (F : Fun K "best_plan" "Shop.best_plan" (mS 8) f fd) (T : TxtS K mg C) : FnOk P w K mg base CX0 9 f fd ["self"] (spBestPlan C) := by
  refine F.ok scBestPlan (fun vs H Q E h => ?_) (fun cdv A outer s H vs Q E hr h => ?_)
  · obtain ⟨x, H0, m, rfl, _⟩ := h
    rfl
  · obtain ⟨x, H0, m, rfl, ⟨dx, a, d, rs, S⟩, mo, q⟩ := h
    refine ⟨_, pss_cons (ps_set (i := 1) scBestPlan.nd rfl (Or.inl rfl) (pe_call DB.ok hr rfl DB.gl DB.kp DB.bn .nil pass0 (pa_cons (pe_fld (pv 0) rfl) (pa_cons (pe_fld (pv 0) rfl) pa_nil))))
      (pss_cons (ps_if (pt_cmpR op_isN (pv 1) pe_non (nomark _)) (pss_one (ps_ret (pe_lst (pa_cons (pe_gint rfl T.noPlan) pa_nil)))) pss_nil)
      (pss_one (ps_ret (pe_op op_cat (pe_lst (pa_cons (pe_callB (cr_sum rfl) (by rfl) T.sum (by decide +kernel) (pa_cons (pv 1) pa_nil)) pa_nil)) (pv 1))))), ?_⟩
    refine ⟨_, rfl, x, C, dx, _, _, rfl, S.ins, T.cl, T.nM, sF_m a d, _, rfl, x, C, dx, _, _, rfl, S.ins, T.cl, T.nD, sF_d a d, a, d, rs, m.moulds, m.demand, rfl, S.ml, S.dl, mo.dem, mo.rows, mo.few, fun en H1 s1 => ?_, fun l el H1 p s1 np hp => ?_⟩
    · refine ⟨_, rfl, rfl, _, rfl, ?_⟩
      refine iteT ?_
      have e : m.bestPlan = [-33] := by
        unfold M.bestPlan
        rw [en]
      rw [e] at q
      exact give1 q s1
    · refine ⟨_, rfl, rfl, _, rfl, ?_⟩
      refine iteF ?_
      have e : m.bestPlan = l.sum :: l := by
        unfold M.bestPlan
        rw [el]
      rw [e] at q
      obtain ⟨ll, _⟩ := best_some el
      have fw := mo.few
      refine ⟨_, rfl, p, l, rfl, hp.sq, by show 1 ≤ sizeLine; decide, fun p2 np2 => ?_⟩
      have s2 := same_upd (o := HO.lst [V.int l.sum]) np2
      refine ⟨_, rfl, p2, p, _, _, rfl, rfl, upd_same, s2 _ _ hp, ?_, fun p3 np3 => ?_⟩
      · rw [List.length_map, ll]
        exact Nat.le_of_lt (small1000 (by show 1 + m.moulds.length ≤ 1000; omega))
      · have s3 := s1.trans s2
        exact q _ p3 (same_over s3 (s3.free np3)) (s3.free np3) upd_same
/-! surplus -/
def spSurplus (C : Addr) : Sp := fun vs H Q _ => ∃ (x : Addr) (H0 : Hp) (m : M), vs = [.ref x] ∧ ShopAt C H0 H x m ∧ m.Ok ∧ Gives H Q m.surplus
theorem scSurplus : FnScope ["self", "plan", "parts", "beyond", "j"] ["self"] (defScope (mS 9)) := ⟨rfl, rfl, rfl, by decide +kernel, rfl, by decide +kernel, by decide +kernel⟩
theorem ok_surplus {fB fP f : Addr} {fdB fdP fd : FuncData} (DB : DefAt P w K mg base "find_best_plan" ["moulds", "demand"] 8 spBest fB fdB) (DP : DefAt P w K mg base "produced" ["moulds", "plan"] 2 spProd fP fdP)
    (F : Fun K "surplus" "Shop.surplus" (mS 9) f fd) (T : TxtS K mg C) : FnOk P w K mg base CX0 9 f fd ["self"] (spSurplus C) := by
  refine F.ok scSurplus (fun vs H Q E h => ?_) (fun cdv A outer s H vs Q E hr h => ?_)
  · obtain ⟨x, H0, m, rfl, _⟩ := h
    rfl
  · obtain ⟨x, H0, m, rfl, ⟨dx, a, d, rs, S⟩, mo, q⟩ := h
    have hr2 : Room 2 _ := hr.mono (by decide)
    refine ⟨_, pss_cons (ps_set (i := 1) scSurplus.nd rfl (Or.inl rfl) (pe_call DB.ok hr rfl DB.gl DB.kp DB.bn .nil pass0 (pa_cons (pe_fld (pv 0) rfl) (pa_cons (pe_fld (pv 0) rfl) pa_nil))))
      (pss_cons (ps_if (pt_cmpR op_isN (pv 1) pe_non (nomark _)) (pss_one (ps_ret (pe_lst (pa_cons (pe_gint rfl T.noPlan) pa_nil)))) pss_nil)
      (pss_cons (ps_set (i := 2) scSurplus.nd rfl (Or.inr rfl) (pe_call DP.ok hr2 rfl DP.gl DP.kp DP.bn .nil pass0 (pa_cons (pe_fld (pv 0) rfl) (pa_cons (pv 1) pa_nil))))
      (pss_cons (ps_setLc (i := 3) (own := [("j", 4)]) (g := gName 4) (tt := tYes) rfl scSurplus.nd rfl rfl (sw_true rfl rfl rfl (by decide +kernel)) (pi_range1 rfl T.range (pa_cons (pe_gint rfl T.kinds) pa_nil)) (blkOk_by (N := ["self", "plan", "parts", "beyond", "j"]) (sc := defScope (mS 9)) (by decide +kernel))
        (fun _ _ _ _ _ => pg_name (i := 4) scSurplus.nd rfl (Or.inl rfl)) (fun _ _ _ _ _ => pts_nil)
        (fun _ _ _ _ _ => pe_op op_sub (pe_ix (r := rIxL K) ix_list (pv 2) (pv 4) (fun _ _ => rfl)) (pe_ix (r := rIxL K) (ta := tFld K (tVar 0) "demand") ix_list (pe_fld (pv 0) rfl) (pv 4) (fun _ _ => rfl))))
      (pss_one (ps_ret (pe_op op_cat (pe_lst (pa_cons (pe_callB (cr_sum rfl) (by rfl) T.sum (by decide +kernel) (pa_cons (pv 3) pa_nil)) pa_nil)) (pv 3))))))), ?_⟩
    refine ⟨_, rfl, x, C, dx, _, _, rfl, S.ins, T.cl, T.nM, sF_m a d, _, rfl, x, C, dx, _, _, rfl, S.ins, T.cl, T.nD, sF_d a d, a, d, rs, m.moulds, m.demand, rfl, S.ml, S.dl, mo.dem, mo.rows, mo.few, fun en H1 s1 => ?_, fun l el H1 p s1 np hp => ?_⟩
    · refine ⟨_, rfl, rfl, _, rfl, ?_⟩
      refine iteT ?_
      have e : m.surplus = [-33] := by
        unfold M.surplus
        rw [en]
      rw [e] at q
      exact give1 q s1
    · refine ⟨_, rfl, rfl, _, rfl, ?_⟩
      refine iteF ?_
      have e : m.surplus = (m.beyond l).sum :: m.beyond l := by
        unfold M.surplus
        rw [el]
      rw [e] at q
      obtain ⟨ll, li⟩ := best_some el
      have S1 := S.same s1
      refine ⟨_, rfl, x, C, dx, _, _, rfl, S1.ins, T.cl, T.nM, sF_m a d, _, rfl, a, p, rs, m.moulds, l, rfl, S1.ml, hp, ll, mo.rows, mo.few, fun y hy => by have := li y hy; omega, fun H2 p2 s2 np2 hp2 => ?_⟩
      refine ⟨3, rfl, by decide, by decide, fun D hD => lcr 4 (fun k => V.int (g (produced m.moulds l) k - g m.demand k)) (by decide) hD (fun _ => rfl) ?_ ?_⟩
      · intro k H3 Qe hk s3 qe
        have S3 := S1.same (s2.trans s3)
        exact ⟨_, rfl, _, rfl, p2, _, _, _, rfl, rfl, (hp2.same s3).sq, at_g (by rw [prod_len]; exact hk), _, rfl, x, C, dx, _, _, rfl, S3.ins, T.cl, T.nD, sF_d a d, _, rfl, d, _, _, _, rfl, rfl, S3.dl.sq, at_g (by rw [mo.dem]; exact hk), _, _, rfl, rfl, qe H3 (Same.refl _)⟩
      · intro H3 s3 e3
        have hD3 : LI H3 D (m.beyond l) := e3.trans (by unfold M.beyond; rw [List.map_map]; rfl)
        refine ⟨_, rfl, D, _, rfl, hD3.sq, by show 1 ≤ sizeLine; decide, fun p4 np4 => ?_⟩
        have s4 := same_upd (o := HO.lst [V.int (m.beyond l).sum]) np4
        refine ⟨_, rfl, p4, D, _, _, rfl, rfl, upd_same, s4 _ _ hD3, ?_, fun p5 np5 => ?_⟩
        · rw [List.length_map]
          unfold M.beyond
          rw [List.length_map]
          show 1 + 3 ≤ sizeLine
          decide
        · have s5 := s1.trans (s2.trans (s3.trans s4))
          exact q _ p5 (same_over s5 (s5.free np5)) (s5.free np5) upd_same
/-! check_plan -/
def spCheck (C : Addr) : Sp := fun vs H Q _ => ∃ (x y : Addr) (ys : List Int) (H0 : Hp) (m : M), vs = [.ref x, .ref y] ∧ ShopAt C H0 H x m ∧ m.Ok ∧ LI H y ys ∧ ys.length ≤ 1000 ∧ Gives H Q (m.checkPlan ys)
theorem scCheck : FnScope ["self", "plan", "parts", "sufficient"] ["self", "plan"] (defScope (mS 10)) := ⟨rfl, rfl, rfl, by decide +kernel, rfl, by decide +kernel, by decide +kernel⟩
theorem ok_check {fW fP fS f : Addr} {fdW fdP fdS fd : FuncData} (DW : DefAt P w K mg base "all_within" ["numbers", "most"] 1 spWithin fW fdW) (DP : DefAt P w K mg base "produced" ["moulds", "plan"] 2 spProd fP fdP) (DS : DefAt P w K mg base "is_sufficient" ["parts", "demand"] 1 spSuff fS fdS)
    (F : Fun K "check_plan" "Shop.check_plan" (mS 10) f fd) (T : TxtS K mg C) : FnOk P w K mg base CX0 3 f fd ["self", "plan"] (spCheck C) := by
  refine F.ok scCheck (fun vs H Q E h => ?_) (fun cdv A outer s H vs Q E hr h => ?_)
  · obtain ⟨x, y, ys, H0, m, rfl, _⟩ := h
    rfl
  · obtain ⟨x, y, ys, H0, m, rfl, ⟨dx, a, d, rs, S⟩, mo, hy, ly, q⟩ := h
    have hr1 : Room 1 _ := hr.mono (by decide)
    refine ⟨_, pss_cons (ps_if (PW.pt (pw_or (pt_cmpR op_ne (pe_callB call_len_seq (by rfl) T.len PySem.boot_len (pa_cons (pv 1) pa_nil)) (pe_callB call_len_seq (by rfl) T.len PySem.boot_len (pa_cons (pe_fld (pv 0) rfl) pa_nil)) (nomark _))
        (pw_or1 (pt_not (pt_val (pe_call DW.ok hr1 rfl DW.gl DW.kp DW.bn .nil pass0 (pa_cons (pv 1) (pa_cons (pe_gint rfl T.planned) pa_nil)))))))) (pss_one (ps_ret (pe_lst (pa_cons (pe_gint rfl T.outRange) pa_nil)))) pss_nil)
      (pss_cons (ps_set (i := 2) scCheck.nd rfl (Or.inl rfl) (pe_call DP.ok hr rfl DP.gl DP.kp DP.bn .nil pass0 (pa_cons (pe_fld (pv 0) rfl) (pa_cons (pv 1) pa_nil))))
      (pss_cons (ps_set (i := 3) scCheck.nd rfl (Or.inl rfl) (pe_ifExp (pt_val (pe_call DS.ok hr1 rfl DS.gl DS.kp DS.bn .nil pass0 (pa_cons (pv 2) (pa_cons (pe_fld (pv 0) rfl) pa_nil)))) pe_int pe_int))
      (pss_one (ps_ret (pe_op op_cat (pe_lst (pa_cons (pv 3) (pa_cons (pe_callB (cr_sum rfl) (by rfl) T.sum (by decide +kernel) (pa_cons (pv 1) pa_nil)) pa_nil))) (pv 2)))))), ?_⟩
    refine ⟨_, rfl, y, _, rfl, .inl hy.sq, _, rfl, x, C, dx, _, _, rfl, S.ins, T.cl, T.nM, sF_m a d, a, _, rfl, .inl S.ml.sq, rfl, _, rfl, ?_⟩
    rw [List.length_map, List.length_map, S.ml.2.len]
    refine ite2 (fun c => ?_) (fun c => ?_)
    · have c' : ys.length ≠ m.moulds.length := fun z => by
        rw [z, decide_eq_true (rfl : V.int (m.moulds.length : Int) = V.int (m.moulds.length : Int))] at c
        cases c
      have e : m.checkPlan ys = [-22] := if_pos (.inl c')
      rw [e] at q
      refine iteT ?_
      exact give1 q (Same.refl _)
    · have c' : ys.length = m.moulds.length := by
        have c2 : decide (V.int (ys.length : Int) = V.int (m.moulds.length : Int)) = true := by
          cases z : decide (V.int (ys.length : Int) = V.int (m.moulds.length : Int)) with
          | true => rfl
          | false => exact absurd (by rw [z]; rfl) c
        have := of_decide_eq_true c2
        rw [V.int.injEq] at this
        omega
      refine ⟨_, rfl, y, ys, 99, rfl, hy, ly, fun H1 s1 => ⟨_, rfl, ?_⟩⟩
      refine not_if (fun c2 => ?_) (fun c2 => ?_)
      · have e : m.checkPlan ys = [-22] := if_pos (.inr c2)
        rw [e] at q
        exact give1 q s1
      · have e : m.checkPlan ys = (if suff (produced m.moulds ys) m.demand = true then 1 else 0) :: ys.sum :: produced m.moulds ys := by
          unfold M.checkPlan
          rw [if_neg (fun z => z.elim (fun z => z c') (fun z => by rw [c2] at z; cases z))]
        rw [e] at q
        have hin : ∀ z ∈ ys, 0 ≤ z ∧ z ≤ 100 := by
          intro z hz
          unfold allIn at c2
          rw [List.all_eq_true] at c2
          have := of_decide_eq_true (c2 z hz)
          omega
        have S1 := S.same s1
        refine ⟨_, rfl, x, C, dx, _, _, rfl, S1.ins, T.cl, T.nM, sF_m a d, _, rfl, a, y, rs, m.moulds, ys, rfl, S1.ml, hy.same s1, c', mo.rows, mo.few, hin, fun H2 p2 s2 np2 hp2 => ?_⟩
        have S2 := S1.same s2
        refine ⟨_, rfl, _, rfl, x, C, dx, _, _, rfl, S2.ins, T.cl, T.nD, sF_d a d, p2, d, _, _, rfl, hp2, S2.dl, prod_len _ _, mo.dem, fun H3 s3 => ⟨_, rfl, ?_⟩⟩
        have fin : ∀ b : Int, b = (if suff (produced m.moulds ys) m.demand = true then 1 else 0) → ∀ p4, H3 p4 = none → ∀ p5, (upd H3 p4 (.lst [V.int b, V.int ys.sum])) p5 = none → Q (.ref p5) (upd (upd H3 p4 (.lst [V.int b, V.int ys.sum])) p5 (.lst ([V.int b, V.int ys.sum] ++ (produced m.moulds ys).map V.int))) := by
          intro b eb p4 np4 p5 np5
          have s5 := s1.trans (s2.trans (s3.trans (same_upd (o := HO.lst [V.int b, V.int ys.sum]) np4)))
          rw [← eb] at q
          exact q _ p5 (same_over s5 (s5.free np5)) (s5.free np5) upd_same
        have hy3 := hy.same (s1.trans (s2.trans s3))
        refine ite2 (fun c3 => ?_) (fun c3 => ?_)
        · refine ⟨_, rfl, _, rfl, y, ys, rfl, hy3.sq, by show 2 ≤ sizeLine; decide, fun p4 np4 => ?_⟩
          refine ⟨_, rfl, p4, p2, _, _, rfl, rfl, upd_same, same_upd np4 _ _ (hp2.same s3), ?_, fin 1 (by rw [if_pos c3]) p4 np4⟩
          rw [List.length_map, prod_len]
          show 2 + 3 ≤ sizeLine
          decide
        · refine ⟨_, rfl, _, rfl, y, ys, rfl, hy3.sq, by show 2 ≤ sizeLine; decide, fun p4 np4 => ?_⟩
          refine ⟨_, rfl, p4, p2, _, _, rfl, rfl, upd_same, same_upd np4 _ _ (hp2.same s3), ?_, fin 0 (by rw [if_neg c3]) p4 np4⟩
          rw [List.length_map, prod_len]
          show 2 + 3 ≤ sizeLine
          decide
/-! best_prices -/
def spBP (C : Addr) : Sp := fun vs H Q _ => ∃ (x : Addr) (level : Int) (H0 : Hp) (m : M), vs = [.ref x, .int level] ∧ ShopAt C H0 H x m ∧ m.Ok ∧ Gives H Q (m.bestPrices level)
theorem scBP : FnScope ["self", "level", "prices"] ["self", "level"] (defScope (mS 11)) := ⟨rfl, rfl, rfl, by decide +kernel, rfl, by decide +kernel, by decide +kernel⟩
theorem ok_BP {fP fL f : Addr} {fdP fdL fd : FuncData} (DP : DefAt P w K mg base "find_best_prices" ["moulds", "demand", "level"] 3 spPrices fP fdP) (DL : DefAt P w K mg base "lower_bound" ["demand", "level", "prices"] 2 spLower fL fdL)
    (F : Fun K "best_prices" "Shop.best_prices" (mS 11) f fd) (T : TxtS K mg C) : FnOk P w K mg base CX0 4 f fd ["self", "level"] (spBP C) := by
  refine F.ok scBP (fun vs H Q E h => ?_) (fun cdv A outer s H vs Q E hr h => ?_)
  · obtain ⟨x, level, H0, m, rfl, _⟩ := h
    rfl
  · obtain ⟨x, level, H0, m, rfl, ⟨dx, a, d, rs, S⟩, mo, q⟩ := h
    have hr2 : Room 2 _ := hr.mono (by decide)
    refine ⟨_, pss_cons (ps_if (pt_not (pt_chain op_le op_le pe_int (pv 1) (pe_gint rfl T.level))) (pss_one (ps_ret (pe_lst (pa_cons (pe_gint rfl T.outRange) pa_nil)))) pss_nil)
      (pss_cons (ps_set (i := 2) scBP.nd rfl (Or.inl rfl) (pe_call DP.ok hr rfl DP.gl DP.kp DP.bn .nil pass0 (pa_cons (pe_fld (pv 0) rfl) (pa_cons (pe_fld (pv 0) rfl) (pa_cons (pv 1) pa_nil)))))
      (pss_one (ps_ret (pe_op op_cat (pe_lst (pa_cons (pe_call DL.ok hr2 rfl DL.gl DL.kp DL.bn .nil pass0 (pa_cons (pe_fld (pv 0) rfl) (pa_cons (pv 1) (pa_cons (pv 2) pa_nil)))) pa_nil)) (pv 2))))), ?_⟩
    refine chain_le (x := 1) (y := level) (z := 6) (fun _ q => q) (fun _ q => ⟨_, rfl, q⟩) (fun _ q => q) ⟨_, rfl, ?_⟩
    refine not_if (fun c => ?_) (fun c => ?_)
    · have e : m.bestPrices level = [-22] := if_pos c
      rw [e] at q
      exact give1 q (Same.refl _)
    · obtain ⟨l0, l1⟩ := of_decide_eq_true c
      have e : m.bestPrices level = lower m.demand level (Mo.bestPrices m.moulds m.demand level.toNat) :: Mo.bestPrices m.moulds m.demand level.toNat := by
        unfold M.bestPrices
        rw [if_neg (by rw [c]; decide)]
      rw [e] at q
      have en : ((level.toNat : Nat) : Int) = level := by omega
      obtain ⟨b1, b2⟩ := prices_ok (ms := m.moulds) (d := m.demand) (level := level.toNat) (by omega)
      refine ⟨_, rfl, x, C, dx, _, _, rfl, S.ins, T.cl, T.nM, sF_m a d, _, rfl, x, C, dx, _, _, rfl, S.ins, T.cl, T.nD, sF_d a d, _, rfl, a, d, rs, m.moulds, m.demand, level.toNat, by rw [en]; rfl, S.ml, S.dl, mo.dem, mo.rows, mo.few, by omega, fun H1 p1 s1 hp1 => ?_⟩
      have S1 := S.same s1
      refine ⟨_, rfl, x, C, dx, _, _, rfl, S1.ins, T.cl, T.nD, sF_d a d, _, rfl, _, rfl, d, p1, m.demand, _, level, rfl, S1.dl, hp1, mo.dem, b1, b2, by omega, fun H2 s2 => ?_⟩
      refine ⟨by show 1 ≤ sizeLine; decide, fun p2 np2 => ?_⟩
      have s3 := same_upd (o := HO.lst [V.int (lower m.demand level (Mo.bestPrices m.moulds m.demand level.toNat))]) np2
      refine ⟨_, rfl, p2, p1, _, _, rfl, rfl, upd_same, s3 _ _ (s2 _ _ hp1), ?_, fun p3 np3 => ?_⟩
      · rw [List.length_map, b1]
        show 1 + 3 ≤ sizeLine
        decide
      · have s4 := s1.trans (s2.trans s3)
        exact q _ p3 (same_over s4 (s4.free np3)) (s4.free np3) upd_same
/-! check_prices -/
def spCP (C : Addr) : Sp := fun vs H Q _ => ∃ (x y : Addr) (level : Int) (ys : List Int) (H0 : Hp) (m : M), vs = [.ref x, .int level, .ref y] ∧ ShopAt C H0 H x m ∧ m.Ok ∧ LI H y ys ∧ ys.length ≤ 1000 ∧ Gives H Q (m.checkPrices level ys)
theorem scCP : FnScope ["self", "level", "prices", "feasible"] ["self", "level", "prices"] (defScope (mS 12)) := ⟨rfl, rfl, rfl, by decide +kernel, rfl, by decide +kernel, by decide +kernel⟩
theorem ok_CP {fW fE fL f : Addr} {fdW fdE fdL fd : FuncData} (DW : DefAt P w K mg base "all_within" ["numbers", "most"] 1 spWithin fW fdW) (DE : DefAt P w K mg base "are_feasible" ["moulds", "level", "prices"] 2 spFeas fE fdE) (DL : DefAt P w K mg base "lower_bound" ["demand", "level", "prices"] 2 spLower fL fdL)
    (F : Fun K "check_prices" "Shop.check_prices" (mS 12) f fd) (T : TxtS K mg C) : FnOk P w K mg base CX0 3 f fd ["self", "level", "prices"] (spCP C) := by
  refine F.ok scCP (fun vs H Q E h => ?_) (fun cdv A outer s H vs Q E hr h => ?_)
  · obtain ⟨x, y, level, ys, H0, m, rfl, _⟩ := h
    rfl
  · obtain ⟨x, y, level, ys, H0, m, rfl, ⟨dx, a, d, rs, S⟩, mo, hy, ly, q⟩ := h
    have hr1 : Room 1 _ := hr.mono (by decide)
    refine ⟨_, pss_cons (ps_if (pt_not (pt_chain op_le op_le pe_int (pv 1) (pe_gint rfl T.checked))) (pss_one (ps_ret (pe_lst (pa_cons (pe_gint rfl T.outRange) pa_nil)))) pss_nil)
      (pss_cons (ps_if (PW.pt (pw_or (pt_cmpR op_ne (pe_callB call_len_seq (by rfl) T.len PySem.boot_len (pa_cons (pv 2) pa_nil)) (pe_gint rfl T.kinds) (nomark _))
        (pw_or1 (pt_not (pt_val (pe_call DW.ok hr1 rfl DW.gl DW.kp DW.bn .nil pass0 (pa_cons (pv 2) (pa_cons (pe_gint rfl T.price) pa_nil)))))))) (pss_one (ps_ret (pe_lst (pa_cons (pe_gint rfl T.outRange) pa_nil)))) pss_nil)
      (pss_cons (ps_set (i := 3) scCP.nd rfl (Or.inl rfl) (pe_ifExp (pt_val (pe_call DE.ok hr rfl DE.gl DE.kp DE.bn .nil pass0 (pa_cons (pe_fld (pv 0) rfl) (pa_cons (pv 1) (pa_cons (pv 2) pa_nil))))) pe_int pe_int))
      (pss_one (ps_ret (pe_lst (pa_cons (pv 3) (pa_cons (pe_call DL.ok hr rfl DL.gl DL.kp DL.bn .nil pass0 (pa_cons (pe_fld (pv 0) rfl) (pa_cons (pv 1) (pa_cons (pv 2) pa_nil)))) pa_nil))))))), ?_⟩
    refine chain_le (x := 1) (y := level) (z := 999) (fun _ q => q) (fun _ q => ⟨_, rfl, q⟩) (fun _ q => q) ⟨_, rfl, ?_⟩
    refine not_if (fun c => ?_) (fun c => ?_)
    · have e : m.checkPrices level ys = [-22] := if_pos c
      rw [e] at q
      exact give1 q (Same.refl _)
    · obtain ⟨l0, l1⟩ := of_decide_eq_true c
      refine ⟨_, rfl, y, _, rfl, .inl hy.sq, rfl, _, rfl, ?_⟩
      rw [List.length_map]
      refine ite2 (fun c2 => ?_) (fun c2 => ?_)
      · have c' : ys.length ≠ 3 := fun z => by
          rw [z] at c2
          exact absurd c2 (by decide +kernel)
        have e : m.checkPrices level ys = [-22] := by
          unfold M.checkPrices
          rw [if_neg (by rw [c]; decide), if_pos (.inl c')]
        rw [e] at q
        refine iteT ?_
        exact give1 q (Same.refl _)
      · have c' : ys.length = 3 := by
          have c3 : decide (V.int (ys.length : Int) = V.int 3) = true := by
            cases z : decide (V.int (ys.length : Int) = V.int 3) with
            | true => rfl
            | false => exact absurd (by rw [z]; rfl) c2
          have := of_decide_eq_true c3
          rw [V.int.injEq] at this
          omega
        refine ⟨_, rfl, y, ys, 999, rfl, hy, ly, fun H1 s1 => ⟨_, rfl, ?_⟩⟩
        refine not_if (fun c3 => ?_) (fun c3 => ?_)
        · have e : m.checkPrices level ys = [-22] := by
            unfold M.checkPrices
            rw [if_neg (by rw [c]; decide), if_pos (.inr c3)]
          rw [e] at q
          exact give1 q s1
        · have e : m.checkPrices level ys = [if feasible m.moulds level ys = true then 1 else 0, lower m.demand level ys] := by
            unfold M.checkPrices
            rw [if_neg (by rw [c]; decide), if_neg (fun z => z.elim (fun z => z c') (fun z => by rw [c3] at z; cases z))]
          rw [e] at q
          have hin : ∀ z ∈ ys, 0 ≤ z ∧ z ≤ 999 := by
            intro z hz
            unfold allIn at c3
            rw [List.all_eq_true] at c3
            exact of_decide_eq_true (c3 z hz)
          have S1 := S.same s1
          refine ⟨_, rfl, x, C, dx, _, _, rfl, S1.ins, T.cl, T.nM, sF_m a d, _, rfl, _, rfl, a, y, rs, m.moulds, ys, level, rfl, S1.ml, hy.same s1, c', mo.rows, mo.few, hin, fun H2 s2 => ⟨_, rfl, ?_⟩⟩
          have S2 := S1.same s2
          refine ite2 (fun c4 => ?_) (fun c4 => ?_)
          · refine ⟨_, rfl, _, rfl, x, C, dx, _, _, rfl, S2.ins, T.cl, T.nD, sF_d a d, _, rfl, _, rfl, d, y, m.demand, ys, level, rfl, S2.dl, hy.same (s1.trans s2), mo.dem, c', hin, by omega, fun H3 s3 => ?_⟩
            rw [if_pos c4] at q
            exact give2 q (s1.trans (s2.trans s3))
          · refine ⟨_, rfl, _, rfl, x, C, dx, _, _, rfl, S2.ins, T.cl, T.nD, sF_d a d, _, rfl, _, rfl, d, y, m.demand, ys, level, rfl, S2.dl, hy.same (s1.trans s2), mo.dem, c', hin, by omega, fun H3 s3 => ?_⟩
            rw [if_neg c4] at q
            exact give2 q (s1.trans (s2.trans s3))
/-! duality_gap -/
def spGap (C : Addr) : Sp := fun vs H Q _ => ∃ (x : Addr) (level : Int) (H0 : Hp) (m : M), vs = [.ref x, .int level] ∧ ShopAt C H0 H x m ∧ m.Ok ∧ Gives H Q (m.dualityGap level)
theorem scGap : FnScope ["self", "level", "plan", "prices"] ["self", "level"] (defScope (mS 13)) := ⟨rfl, rfl, rfl, by decide +kernel, rfl, by decide +kernel, by decide +kernel⟩
theorem ok_gap {fB fP fL f : Addr} {fdB fdP fdL fd : FuncData} (DB : DefAt P w K mg base "find_best_plan" ["moulds", "demand"] 8 spBest fB fdB) (DP : DefAt P w K mg base "find_best_prices" ["moulds", "demand", "level"] 3 spPrices fP fdP) (DL : DefAt P w K mg base "lower_bound" ["demand", "level", "prices"] 2 spLower fL fdL)
    (F : Fun K "duality_gap" "Shop.duality_gap" (mS 13) f fd) (T : TxtS K mg C) : FnOk P w K mg base CX0 9 f fd ["self", "level"] (spGap C) := by
  refine F.ok scGap (fun vs H Q E h => ?_) (fun cdv A outer s H vs Q E hr h => ?_)
  · obtain ⟨x, level, H0, m, rfl, _⟩ := h
    rfl
  · obtain ⟨x, level, H0, m, rfl, ⟨dx, a, d, rs, S⟩, mo, q⟩ := h
    have hr2 : Room 2 _ := hr.mono (by decide)
    have hr3 : Room 3 _ := hr.mono (by decide)
    refine ⟨_, pss_cons (ps_if (pt_not (pt_chain op_le op_le pe_int (pv 1) (pe_gint rfl T.level))) (pss_one (ps_ret (pe_lst (pa_cons (pe_gint rfl T.outRange) pa_nil)))) pss_nil)
      (pss_cons (ps_set (i := 2) scGap.nd rfl (Or.inl rfl) (pe_call DB.ok hr rfl DB.gl DB.kp DB.bn .nil pass0 (pa_cons (pe_fld (pv 0) rfl) (pa_cons (pe_fld (pv 0) rfl) pa_nil))))
      (pss_cons (ps_if (pt_cmpR op_isN (pv 2) pe_non (nomark _)) (pss_one (ps_ret (pe_lst (pa_cons (pe_gint rfl T.noPlan) pa_nil)))) pss_nil)
      (pss_cons (ps_set (i := 3) scGap.nd rfl (Or.inl rfl) (pe_call DP.ok hr3 rfl DP.gl DP.kp DP.bn .nil pass0 (pa_cons (pe_fld (pv 0) rfl) (pa_cons (pe_fld (pv 0) rfl) (pa_cons (pv 1) pa_nil)))))
      (pss_one (ps_ret (pe_lst (pa_cons (pe_op op_sub (pe_callB (cr_sum rfl) (by rfl) T.sum (by decide +kernel) (pa_cons (pv 2) pa_nil)) (pe_call DL.ok hr2 rfl DL.gl DL.kp DL.bn .nil pass0 (pa_cons (pe_fld (pv 0) rfl) (pa_cons (pv 1) (pa_cons (pv 3) pa_nil))))) pa_nil))))))), ?_⟩
    refine chain_le (x := 1) (y := level) (z := 6) (fun _ q => q) (fun _ q => ⟨_, rfl, q⟩) (fun _ q => q) ⟨_, rfl, ?_⟩
    refine not_if (fun c => ?_) (fun c => ?_)
    · have e : m.dualityGap level = [-22] := if_pos c
      rw [e] at q
      exact give1 q (Same.refl _)
    · obtain ⟨l0, l1⟩ := of_decide_eq_true c
      have e0 : m.dualityGap level = match findBest m.moulds m.demand with
          | none => [-33]
          | some p => [p.sum - lower m.demand level (Mo.bestPrices m.moulds m.demand level.toNat)] := by
        unfold M.dualityGap
        rw [if_neg (by rw [c]; decide)]
        all_goals (cases findBest m.moulds m.demand <;> rfl)
      rw [e0] at q
      refine ⟨_, rfl, x, C, dx, _, _, rfl, S.ins, T.cl, T.nM, sF_m a d, _, rfl, x, C, dx, _, _, rfl, S.ins, T.cl, T.nD, sF_d a d, a, d, rs, m.moulds, m.demand, rfl, S.ml, S.dl, mo.dem, mo.rows, mo.few, fun en H1 s1 => ?_, fun l el H1 p s1 np hp => ?_⟩
      · refine ⟨_, rfl, rfl, _, rfl, ?_⟩
        refine iteT ?_
        rw [en] at q
        exact give1 q s1
      · refine ⟨_, rfl, rfl, _, rfl, ?_⟩
        refine iteF ?_
        rw [el] at q
        have en : ((level.toNat : Nat) : Int) = level := by omega
        obtain ⟨b1, b2⟩ := prices_ok (ms := m.moulds) (d := m.demand) (level := level.toNat) (by omega)
        have S1 := S.same s1
        refine ⟨_, rfl, x, C, dx, _, _, rfl, S1.ins, T.cl, T.nM, sF_m a d, _, rfl, x, C, dx, _, _, rfl, S1.ins, T.cl, T.nD, sF_d a d, _, rfl, a, d, rs, m.moulds, m.demand, level.toNat, by rw [en]; rfl, S1.ml, S1.dl, mo.dem, mo.rows, mo.few, by omega, fun H2 p2 s2 hp2 => ?_⟩
        have S2 := S1.same s2
        refine ⟨_, rfl, p, l, rfl, (hp.same s2).sq, _, rfl, x, C, dx, _, _, rfl, S2.ins, T.cl, T.nD, sF_d a d, _, rfl, _, rfl, d, p2, m.demand, _, level, rfl, S2.dl, hp2, mo.dem, b1, b2, by omega, fun H3 s3 => ?_⟩
        exact ⟨_, _, rfl, rfl, give1 q (s1.trans (s2.trans s3))⟩
/-! min_shots_without -/
def spWithout (C : Addr) : Sp := fun vs H Q _ => ∃ (x : Addr) (i : Int) (H0 : Hp) (m : M), vs = [.ref x, .int i] ∧ ShopAt C H0 H x m ∧ m.Ok ∧ Gives H Q (m.without i)
theorem scWithout : FnScope ["self", "i"] ["self", "i"] (defScope (mS 14)) := ⟨rfl, rfl, rfl, by decide +kernel, rfl, by decide +kernel, by decide +kernel⟩
theorem ok_without {fH fT f : Addr} {fdH fdT fd : FuncData} (DH : MethAt P w K mg base C "has_mould" ["self", "i"] 1 (spHas C) fH fdH) (DT : DefAt P w K mg base "total_of_best_plan" ["moulds", "demand"] 9 spTotal fT fdT)
    (F : Fun K "min_shots_without" "Shop.min_shots_without" (mS 14) f fd) (T : TxtS K mg C) : FnOk P w K mg base CX0 10 f fd ["self", "i"] (spWithout C) := by
  refine F.ok scWithout (fun vs H Q E h => ?_) (fun cdv A outer s H vs Q E hr h => ?_)
  · obtain ⟨x, i, H0, m, rfl, _⟩ := h
    rfl
  · obtain ⟨x, i, H0, m, rfl, S0, mo, q⟩ := h
    obtain ⟨dx, a, d, rs, S⟩ := id S0
    have hr1 : Room 1 _ := hr.mono (by decide)
    refine ⟨_, pss_cons (ps_if (pt_not (pt_val (pe_meth (pv 0) T.cl DH.mt DH.ok hr1 DH.bn .nil pass0 (pa_cons (pv 1) pa_nil)))) (pss_one (ps_ret (pe_lst (pa_cons (pe_gint rfl T.noIndex) pa_nil)))) pss_nil)
      (pss_one (ps_ret (pe_call DT.ok hr rfl DT.gl DT.kp DT.bn .nil pass0 (pa_cons (pe_op op_cat (pe_slice sl_list (pe_fld (pv 0) rfl) po_none (po_some (pv 1))) (pe_slice sl_list (pe_fld (pv 0) rfl) (po_some (pe_op op_add (pv 1) pe_int)) po_none)) (pa_cons (pe_fld (pv 0) rfl) pa_nil))))), ?_⟩
    refine ⟨_, rfl, x, dx, _, rfl, S.ins, sF_no a d (by decide +kernel) (by decide +kernel), _, rfl, x, i, H0, m, rfl, S0, _, rfl, ?_⟩
    refine not_if (fun c => ?_) (fun c => ?_)
    · have e : m.without i = [-2] := if_pos c
      rw [e] at q
      exact give1 q (Same.refl _)
    · have e : m.without i = totalBest (m.moulds.eraseIdx i.toNat) m.demand := by
        unfold M.without
        rw [if_neg (by rw [c]; decide)]
      rw [e] at q
      obtain ⟨i0, i1⟩ := has_in c
      have fw := mo.few
      refine ⟨_, rfl, x, C, dx, _, _, rfl, S.ins, T.cl, T.nM, sF_m a d, _, rfl, i, rfl, a, _, rfl, S.ml.sq, fun p1 np1 => ?_⟩
      have s1 := same_upd (o := HO.lst (cutV (rs.map V.ref) none (some i))) np1
      have S1 := S.same s1
      refine ⟨_, rfl, x, C, dx, _, _, rfl, S1.ins, T.cl, T.nM, sF_m a d, _, rfl, _, _, rfl, rfl, i + 1, rfl, a, _, rfl, S1.ml.sq, fun p2 np2 => ?_⟩
      have s2 := same_upd (o := HO.lst (cutV (rs.map V.ref) (some (i + 1)) none)) np2
      have S2 := S1.same s2
      refine ⟨p1, p2, _, _, rfl, rfl, s2 _ _ upd_same, upd_same, ?_, fun p3 np3 => ?_⟩
      · rw [cut_to i0, cut_from (by omega), List.length_take, List.length_drop, List.length_map, S.ml.2.len]
        exact Nat.le_of_lt (small1000 (by omega))
      · have s3 := same_upd (o := HO.lst (cutV (rs.map V.ref) none (some i) ++ cutV (rs.map V.ref) (some (i + 1)) none)) np3
        have S3 := S2.same s3
        refine ⟨_, rfl, x, C, dx, _, _, rfl, S3.ins, T.cl, T.nD, sF_d a d, p3, d, rs.eraseIdx i.toNat, m.moulds.eraseIdx i.toNat, m.demand, rfl, ⟨?_, Rws.erase _ S3.ml.2⟩, S3.dl, mo.dem, fun r hr => mo.rows r (List.mem_of_mem_eraseIdx hr), ?_, q.later (s1.trans (s2.trans s3))⟩
        · rw [upd_same, cut_to i0, cut_from (by omega), ← map_erase, List.eraseIdx_eq_take_drop_succ, show (i + 1).toNat = i.toNat + 1 by omega]
        · rw [List.length_eraseIdx]
          split <;> omega
/-! min_shots_if -/
def spIf (C : Addr) : Sp := fun vs H Q _ => ∃ (x : Addr) (j n : Int) (H0 : Hp) (m : M), vs = [.ref x, .int j, .int n] ∧ ShopAt C H0 H x m ∧ m.Ok ∧ Gives H Q (m.minIf j n)
theorem scIf : FnScope ["self", "j", "amount", "demand"] ["self", "j", "amount"] (defScope (mS 15)) := ⟨rfl, rfl, rfl, by decide +kernel, rfl, by decide +kernel, by decide +kernel⟩
theorem ok_if {fT f : Addr} {fdT fd : FuncData} (DT : DefAt P w K mg base "total_of_best_plan" ["moulds", "demand"] 9 spTotal fT fdT) (F : Fun K "min_shots_if" "Shop.min_shots_if" (mS 15) f fd) (T : TxtS K mg C) : FnOk P w K mg base CX0 10 f fd ["self", "j", "amount"] (spIf C) := by
  refine F.ok scIf (fun vs H Q E h => ?_) (fun cdv A outer s H vs Q E hr h => ?_)
  · obtain ⟨x, j, n, H0, m, rfl, _⟩ := h
    rfl
  · obtain ⟨x, j, n, H0, m, rfl, ⟨dx, a, d, rs, S⟩, mo, q⟩ := h
    refine ⟨_, pss_cons (ps_if (pt_not (pt_chain op_le op_lt pe_int (pv 1) (pe_gint rfl T.kinds))) (pss_one (ps_ret (pe_lst (pa_cons (pe_gint rfl T.noIndex) pa_nil)))) pss_nil)
      (pss_cons (ps_if (pt_not (pt_chain op_le op_le pe_int (pv 2) (pe_gint rfl T.amount))) (pss_one (ps_ret (pe_lst (pa_cons (pe_gint rfl T.outRange) pa_nil)))) pss_nil)
      (pss_cons (ps_set (i := 3) scIf.nd rfl (Or.inl rfl) (pe_callTy call_list_of (by rfl) T.list (by decide +kernel) (pa_cons (pe_fld (pv 0) rfl) pa_nil)))
      (pss_cons (ps_asg (pv 2) (pg_sub (pv 3) (pv 1) set_list))
      (pss_one (ps_ret (pe_call DT.ok hr rfl DT.gl DT.kp DT.bn .nil pass0 (pa_cons (pe_fld (pv 0) rfl) (pa_cons (pv 3) pa_nil)))))))), ?_⟩
    refine chain_lt (x := 0) (y := j) (z := 3) (fun _ q => q) (fun _ q => ⟨_, rfl, q⟩) (fun _ q => q) ⟨_, rfl, ?_⟩
    refine not_if (fun c => ?_) (fun c => ?_)
    · have e : m.minIf j n = [-2] := if_pos c
      rw [e] at q
      exact give1 q (Same.refl _)
    · dsimp only [tNext, tSeq, tIfS, tNot, tTest]
      refine chain_le (x := 0) (y := n) (z := 40) (fun _ q => q) (fun _ q => ⟨_, rfl, q⟩) (fun _ q => q) ⟨_, rfl, ?_⟩
      refine not_if (fun c2 => ?_) (fun c2 => ?_)
      · have e : m.minIf j n = [-22] := by
          unfold M.minIf
          rw [if_neg (by rw [c]; decide), if_pos c2]
        rw [e] at q
        exact give1 q (Same.refl _)
      · have e : m.minIf j n = totalBest m.moulds (m.demand.set j.toNat n) := by
          unfold M.minIf
          rw [if_neg (by rw [c]; decide), if_neg (by rw [c2]; decide)]
        rw [e] at q
        obtain ⟨j0, j1⟩ := of_decide_eq_true c
        have hd := mo.dem
        refine ⟨_, rfl, x, C, dx, _, _, rfl, S.ins, T.cl, T.nD, sF_d a d, d, _, rfl, .inl S.dl.sq, fun l nl => ?_⟩
        refine ⟨_, rfl, _, rfl, _, rfl, l, _, _, j.toNat, rfl, rfl, upd_same, ix_in j0 (by rw [List.length_map]; omega), ?_⟩
        have s1 : Same H (upd (upd H l (.lst (m.demand.map V.int))) l (.lst ((m.demand.map V.int).set j.toNat (V.int n)))) := same_over (same_upd nl) nl
        have S1 := S.same s1
        refine ⟨_, rfl, x, C, dx, _, _, rfl, S1.ins, T.cl, T.nM, sF_m a d, _, rfl, a, l, rs, m.moulds, m.demand.set j.toNat n, rfl, S1.ml, ?_, by rw [List.length_set]; exact hd, mo.rows, mo.few, q.later s1⟩
        show upd _ l _ l = _
        rw [upd_same, map_set]
/-! min_shots_with_only -/
def spOnly (C : Addr) : Sp := fun vs H Q _ => ∃ (x : Addr) (i : Int) (H0 : Hp) (m : M), vs = [.ref x, .int i] ∧ ShopAt C H0 H x m ∧ m.Ok ∧ Gives H Q (m.withOnly i)
theorem scOnly : FnScope ["self", "i"] ["self", "i"] (defScope (mS 17)) := ⟨rfl, rfl, rfl, by decide +kernel, rfl, by decide +kernel, by decide +kernel⟩
theorem ok_only {fH fT f : Addr} {fdH fdT fd : FuncData} (DH : MethAt P w K mg base C "has_mould" ["self", "i"] 1 (spHas C) fH fdH) (DT : DefAt P w K mg base "total_of_best_plan" ["moulds", "demand"] 9 spTotal fT fdT)
    (F : Fun K "min_shots_with_only" "Shop.min_shots_with_only" (mS 17) f fd) (T : TxtS K mg C) : FnOk P w K mg base CX0 10 f fd ["self", "i"] (spOnly C) := by
  refine F.ok scOnly (fun vs H Q E h => ?_) (fun cdv A outer s H vs Q E hr h => ?_)
  · obtain ⟨x, i, H0, m, rfl, _⟩ := h
    rfl
  · obtain ⟨x, i, H0, m, rfl, S0, mo, q⟩ := h
    obtain ⟨dx, a, d, rs, S⟩ := id S0
    have hr1 : Room 1 _ := hr.mono (by decide)
    refine ⟨_, pss_cons (ps_if (pt_not (pt_val (pe_meth (pv 0) T.cl DH.mt DH.ok hr1 DH.bn .nil pass0 (pa_cons (pv 1) pa_nil)))) (pss_one (ps_ret (pe_lst (pa_cons (pe_gint rfl T.noIndex) pa_nil)))) pss_nil)
      (pss_one (ps_ret (pe_call DT.ok hr rfl DT.gl DT.kp DT.bn .nil pass0 (pa_cons (pe_lst (pa_cons (pe_ix ix_list (pe_fld (pv 0) rfl) (pv 1) (fun _ _ => rfl)) pa_nil)) (pa_cons (pe_fld (pv 0) rfl) pa_nil))))), ?_⟩
    refine ⟨_, rfl, x, dx, _, rfl, S.ins, sF_no a d (by decide +kernel) (by decide +kernel), _, rfl, x, i, H0, m, rfl, S0, _, rfl, ?_⟩
    refine not_if (fun c => ?_) (fun c => ?_)
    · have e : m.withOnly i = [-2] := if_pos c
      rw [e] at q
      exact give1 q (Same.refl _)
    · have e : m.withOnly i = totalBest [m.moulds.getD i.toNat []] m.demand := by
        unfold M.withOnly
        rw [if_neg (by rw [c]; decide)]
      rw [e] at q
      obtain ⟨i0, i1⟩ := has_in c
      have i2 : i < rs.length := by rw [S.ml.2.len]; exact i1
      obtain ⟨r, hr1, hr2⟩ := ref_i i0 i2
      obtain ⟨g1, g2, g3⟩ := S.ml.2.get hr1
      refine ⟨_, rfl, x, C, dx, _, _, rfl, S.ins, T.cl, T.nM, sF_m a d, _, rfl, a, _, _, _, rfl, rfl, S.ml.sq, hr2, by show 1 ≤ sizeLine; decide, fun p np => ?_⟩
      have s1 := same_upd (o := HO.lst [V.ref r]) np
      have S1 := S.same s1
      refine ⟨_, rfl, x, C, dx, _, _, rfl, S1.ins, T.cl, T.nD, sF_d a d, p, d, [r], [m.moulds.getD i.toNat []], m.demand, rfl, ⟨upd_same, g2.same s1, trivial⟩, S1.dl, mo.dem, fun y hy => ?_, by show 1 ≤ 4; decide, q.later s1⟩
      rw [List.mem_singleton.mp hy]
      exact mo.rows _ g3
/-! describe -/
def spDesc (C : Addr) : Sp := fun vs H Q _ => ∃ (x : Addr) (H0 : Hp) (m : M), vs = [.ref x] ∧ ShopAt C H0 H x m ∧ m.Ok ∧ Gives H Q m.describe
theorem scDesc : FnScope ["self", "answer", "mould"] ["self"] (defScope (mS 18)) := ⟨rfl, rfl, rfl, by decide +kernel, rfl, by decide +kernel, by decide +kernel⟩
theorem flat3 : ∀ {l : List (List Int)}, (∀ r ∈ l, r.length = 3) → l.flatten.length = 3 * l.length
  | [], _ => rfl
  | r :: l, h => by
    have ih := flat3 (l := l) fun q hq => h q (List.mem_cons_of_mem r hq)
    rw [List.flatten_cons, List.length_append, ih, h r List.mem_cons_self, List.length_cons]
    omega
theorem ok_desc {f : Addr} {fd : FuncData} (F : Fun K "describe" "Shop.describe" (mS 18) f fd) (T : TxtS K mg C) : FnOk P w K mg base CX0 1 f fd ["self"] (spDesc C) := by
  refine F.ok scDesc (fun vs H Q E h => ?_) (fun cdv A outer s H vs Q E hr h => ?_)
  · obtain ⟨x, H0, m, rfl, _⟩ := h
    rfl
  · obtain ⟨x, H0, m, rfl, ⟨dx, a, d, rs, S⟩, mo, q⟩ := h
    refine ⟨_, pss_cons (ps_set (i := 1) scDesc.nd rfl (Or.inl rfl) (pe_lst (pa_cons (pe_callB call_len_seq (by rfl) T.len PySem.boot_len (pa_cons (pe_fld (pv 0) rfl) pa_nil)) pa_nil)))
      (pss_cons (ps_for PassesOwn.never rfl (pi_list (pe_fld (pv 0) rfl)) (pg_name (i := 2) scDesc.nd rfl (Or.inl rfl))
        (pss_one (ps_expr (pe_bm PySem.F.plainAttrs_list PySem.F.slot_list_extend PySem.F.type_list_extend mt_extend (pv 1) (pa_cons (pv 2) pa_nil)))))
      (pss_one (ps_ret (pe_op op_cat (pv 1) (pe_fld (pv 0) rfl))))), ?_⟩
    have fw := mo.few
    refine ⟨_, rfl, x, C, dx, _, _, rfl, S.ins, T.cl, T.nM, sF_m a d, a, _, rfl, .inl S.ml.sq, by show 1 ≤ sizeLine; decide, fun o no => ?_⟩
    rw [List.length_map, S.ml.2.len]
    have s1 := same_upd (o := HO.lst [V.int (m.moulds.length : Int)]) no
    have S1 := S.same s1
    refine ⟨_, rfl, x, C, dx, _, _, rfl, S1.ins, T.cl, T.nM, sF_m a d, a, rfl, ⟨_, S1.ml.sq⟩, for_list (K := K) (a := a) (xs := rs.map V.ref) (fun i σ H' => ∃ v2 : Option V, σ = [some (.ref x), some (.ref o), v2] ∧ Same H H' ∧ LI H' o ((m.moulds.length : Int) :: (m.moulds.take i).flatten))
      ⟨none, rfl, s1, upd_same⟩ (fun i σ H' _ ⟨_, _, s2, _⟩ => (S.same s2).ml.sq) ?_ ?_⟩
    · rintro i y σ H1 hy ⟨v2, rfl, s2, ho⟩
      obtain ⟨r, rfl, hy2⟩ := ref_at hy
      obtain ⟨k1, k2, k3⟩ := (S.same s2).ml.2.get hy2
      have lr := mo.rows _ k3
      refine ⟨_, rfl, .inl ⟨rfl, _, ho.sq⟩, _, rfl, o, r, _, _, rfl, rfl, ho, k2, ?_, ?_⟩
      · rw [List.length_map, List.length_map, lr, List.length_cons, flat3 (fun r hr => mo.rows r (List.mem_of_mem_take hr)), List.length_take]
        exact Nat.le_of_lt (small1000 (by omega))
      · refine ⟨some (.ref r), rfl, same_over s2 no, ?_⟩
        show upd _ o _ o = _
        rw [upd_same, take_snoc (d := []) k1, List.flatten_append, List.flatten_cons, List.flatten_nil, List.append_nil, ← List.map_append]
        rfl
    · rintro σ H1 ⟨v2, rfl, s2, ho⟩
      rw [List.length_map, S.ml.2.len, List.take_length] at ho
      have S2 := S.same s2
      refine ⟨_, rfl, _, rfl, x, C, dx, _, _, rfl, S2.ins, T.cl, T.nD, sF_d a d, o, d, _, _, rfl, rfl, ho, S2.dl, ?_, fun p np => ?_⟩
      · rw [List.length_map, List.length_map, mo.dem, List.length_cons, flat3 mo.rows]
        exact Nat.le_of_lt (small1000 (by omega))
      · refine q _ p (same_over s2 (s2.free np)) (s2.free np) ?_
        show upd _ p _ p = _
        rw [upd_same, ← List.map_append]
        rfl
end
end Mo
/-! ### 7. The calls: how they are read -/
namespace Mo
open PySem PySem.Spec PyProof.Rows L2
abbrev sCInit : Stmt := inClass (top 2) 0
def names : List Str := ["create", "add_mould", "remove_mould", "set_mould", "set_demand", "set_all_demand", "min_shots", "best_plan", "surplus", "check_plan", "best_prices", "check_prices", "duality_gap", "min_shots_without", "min_shots_if", "make_shots", "min_shots_with_only", "describe"]
def nameOf (k : Nat) : Str := names.getD k ""
def cF (n : Str) (s r : Addr) (e : Int) : List (Str × V) := [("name", .str n), ("singles", .ref s), ("row", .ref r), ("end", .int e)]
theorem cF_name (n : Str) (s r : Addr) (e : Int) : (cF n s r e).lookup ("name" : Str) = some (.str n) := lk_here
theorem cF_singles (n : Str) (s r : Addr) (e : Int) : (cF n s r e).lookup ("singles" : Str) = some (.ref s) := (lk_past (by decide +kernel)).trans lk_here
theorem cF_row (n : Str) (s r : Addr) (e : Int) : (cF n s r e).lookup ("row" : Str) = some (.ref r) := (lk_past (by decide +kernel)).trans ((lk_past (by decide +kernel)).trans lk_here)
theorem cF_end (n : Str) (s r : Addr) (e : Int) : (cF n s r e).lookup ("end" : Str) = some (.int e) := (lk_past (by decide +kernel)).trans ((lk_past (by decide +kernel)).trans ((lk_past (by decide +kernel)).trans lk_here))
theorem cF_new (n : Str) (s r : Addr) (e : Int) : putF "end" (.int e) (putF "row" (.ref r) (putF "singles" (.ref s) (putF "name" (.str n) []))) = cF n s r e := by
  have e1 : putF "name" (.str n) [] = [(("name" : Str), V.str n)] := rfl
  have e2 : putF "singles" (.ref s) [(("name" : Str), V.str n)] = [(("name" : Str), V.str n), (("singles" : Str), V.ref s)] := (put_past (by decide +kernel)).trans rfl
  have e3 : putF "row" (.ref r) [(("name" : Str), V.str n), (("singles" : Str), V.ref s)] = [(("name" : Str), V.str n), (("singles" : Str), V.ref s), (("row" : Str), V.ref r)] :=
    (put_past (by decide +kernel)).trans (congrArg _ ((put_past (by decide +kernel)).trans rfl))
  have e4 : putF "end" (.int e) [(("name" : Str), V.str n), (("singles" : Str), V.ref s), (("row" : Str), V.ref r)] = cF n s r e :=
    (put_past (by decide +kernel)).trans (congrArg _ ((put_past (by decide +kernel)).trans (congrArg _ ((put_past (by decide +kernel)).trans rfl))))
  rw [e1, e2, e3, e4]
/-- a call that was read; nothing of it was there at H0 -/
def CallAt (C : Addr) (H0 H : Hp) (p : Addr) (c : CR) (e : Int) : Prop := ∃ dx s r, H p = some (.ins C dx (cF (nameOf c.kind) s r e)) ∧ LI H s c.singles ∧ LI H r c.row ∧ H0 p = none ∧ H0 s = none ∧ H0 r = none
theorem CallAt.same {C : Addr} {H0 H H' : Hp} {p : Addr} {c : CR} {e : Int} (h : CallAt C H0 H p c e) (s : Same H H') : CallAt C H0 H' p c e := by
  obtain ⟨dx, a, r, h1, h2, h3, n⟩ := h
  exact ⟨dx, a, r, s _ _ h1, h2.same s, h3.same s, n⟩
theorem CallAt.since {C : Addr} {H0 H1 H : Hp} {p : Addr} {c : CR} {e : Int} (h : CallAt C H1 H p c e) (s : ∀ b, H1 b = none → H0 b = none) : CallAt C H0 H p c e := by
  obtain ⟨dx, a, r, h1, h2, h3, n1, n2, n3⟩ := h
  exact ⟨dx, a, r, h1, h2, h3, s _ n1, s _ n2, s _ n3⟩
/-- all of it stands where all that was not there at H0 stands -/
theorem CallAt.keep {C : Addr} {H0 H H' : Hp} {p : Addr} {c : CR} {e : Int} (h : CallAt C H0 H p c e) (s : ∀ b o, H0 b = none → H b = some o → H' b = some o) : CallAt C H0 H' p c e := by
  obtain ⟨dx, a, r, h1, h2, h3, n1, n2, n3⟩ := h
  exact ⟨dx, a, r, s _ _ n1 h1, s _ _ n2 h2, s _ _ n3 h3, n1, n2, n3⟩
def CallsAt (C : Addr) (H0 H : Hp) : List Addr → List CR → Prop
  | [], [] => True
  | p :: ps, c :: cs => (∃ e, CallAt C H0 H p c e) ∧ CallsAt C H0 H ps cs
  | _, _ => False
theorem CallsAt.keep {C : Addr} {H0 H H' : Hp} (s : ∀ b o, H0 b = none → H b = some o → H' b = some o) : ∀ {ps : List Addr} {cs : List CR}, CallsAt C H0 H ps cs → CallsAt C H0 H' ps cs
  | [], [], h => h
  | _ :: _, _ :: _, ⟨⟨e, h⟩, r⟩ => ⟨⟨e, h.keep s⟩, CallsAt.keep s r⟩
  | [], _ :: _, h => h
  | _ :: _, [], h => h
theorem CallsAt.app {C : Addr} {H0 H : Hp} : ∀ {ps qs : List Addr} {cs ds : List CR}, CallsAt C H0 H ps cs → CallsAt C H0 H qs ds → CallsAt C H0 H (ps ++ qs) (cs ++ ds)
  | [], _, [], _, _, h2 => h2
  | _ :: _, _, _ :: _, _, h1, h2 => ⟨h1.1, CallsAt.app h1.2 h2⟩
  | [], _, _ :: _, _, h1, _ => h1.elim
  | _ :: _, _, [], _, h1, _ => h1.elim
theorem CallsAt.len {C : Addr} {H0 H : Hp} : ∀ {ps : List Addr} {cs : List CR}, CallsAt C H0 H ps cs → ps.length = cs.length
  | [], [], _ => rfl
  | _ :: _, _ :: _, h => congrArg (· + 1) (CallsAt.len h.2)
  | [], _ :: _, h => h.elim
  | _ :: _, [], h => h.elim
theorem CallsAt.get {C : Addr} {H0 H : Hp} : ∀ {ps : List Addr} {cs : List CR} {k : Nat} {p : Addr}, CallsAt C H0 H ps cs → ps[k]? = some p → ∃ c, cs[k]? = some c ∧ ∃ e, CallAt C H0 H p c e
  | [], _, _, _, _, h => by simp at h
  | p :: _, c :: _, 0, q, h, e => by
    have e' : p = q := Option.some.inj e
    rw [← e']
    exact ⟨c, rfl, h.1⟩
  | _ :: _, _ :: _, k + 1, q, h, e => by
    obtain ⟨c, a, b⟩ := CallsAt.get h.2 (k := k) (p := q) (by simpa using e)
    exact ⟨c, by simpa using a, b⟩
  | _ :: _, [], _, _, h, _ => h.elim
/-- what stands at FORMS: a tuple of a tuple for each place -/
structure Forms (K : PySem.W.Frag) (mg : Str → Option Value) (F : Addr) (as : List Addr) : Prop where
  gl : mg "FORMS" = some (.ref F)
  tp : ∀ H, SqT K H F (as.map V.ref)
  row : ∀ k, k < 18 → ∃ A, as[k]? = some A ∧ ∀ H, SqT K H A [.str (nameOf k), .int (form k).1, .bl (form k).2]
structure TxtC (K : PySem.W.Frag) (mg : Str → Option Value) (C : Addr) : Prop extends Txt mg where
  clC : Cls K C
  nN : NoAttr K C "name"
  nS : NoAttr K C "singles"
  nR : NoAttr K C "row"
  nE : NoAttr K C "end"
theorem enc_pos (c : CR) : 0 < c.enc.length := by
  unfold CR.enc
  rw [List.cons_append, List.length_cons]
  omega
/-- a slice that takes a known part out -/
theorem cut_mid {ns mid post : List Int} {k : Nat} (h : ns.drop k = mid ++ post) (hk : k ≤ ns.length) : cutV (ns.map V.int) (some (k : Int)) (some ((k + mid.length : Nat) : Int)) = mid.map V.int := by
  unfold cutV
  rw [show HT.sIx (ns.map V.int).length 0 (some (k : Int)) = min k (ns.map V.int).length from HT.sIx_nat _ _ _, show HT.sIx (ns.map V.int).length (ns.map V.int).length (some ((k + mid.length : Nat) : Int)) = min (k + mid.length) (ns.map V.int).length from HT.sIx_nat _ _ _,
    List.length_map, Nat.min_eq_left hk]
  have hl : k + mid.length ≤ ns.length := by
    have := congrArg List.length h
    rw [List.length_drop, List.length_append] at this
    omega
  rw [Nat.min_eq_left hl, ← List.map_drop, h, show k + mid.length - k = mid.length by omega, List.map_append]
  exact List.take_left' (List.length_map _)
theorem at_drop {ns post : List Int} {k : Nat} {x : Int} (h : ns.drop k = x :: post) : atI (ns.map V.int) (k : Int) = some (V.int x) := by
  refine atI_nat ?_
  have e : ns[k]? = some x := by
    have := congrArg (·[0]?) h
    simp only [List.getElem?_drop, Nat.add_zero] at this
    exact this
  rw [List.getElem?_map, e]
  rfl
theorem drop_more {ns mid post : List Int} {k : Nat} (h : ns.drop k = mid ++ post) : ns.drop (k + mid.length) = post := by
  rw [← List.drop_drop, h]
  exact List.drop_left
section
variable {P : Program} {w : World} {K : PySem.W.Frag} {mg : Str → Option Value} {base : Heap} {C : Addr}
/-! Call.__init__ -/
def spCInit (C : Addr) : Sp := fun vs H Q _ => ∃ (p dx s r : Addr) (n : Str) (e : Int), vs = [.ref p, .str n, .ref s, .ref r, .int e] ∧ H p = some (.ins C dx []) ∧ ∀ H', H' p = some (.ins C dx (cF n s r e)) → (∀ b o, H b = some o → b ≠ p → H' b = some o) → Q .non H'
theorem scCInit : FnScope ["self", "name", "singles", "row", "end"] ["self", "name", "singles", "row", "end"] (defScope sCInit) := ⟨rfl, rfl, rfl, by decide +kernel, rfl, by decide +kernel, by decide +kernel⟩
theorem ok_cinit {f : Addr} {fd : FuncData} (F : Fun K "__init__" "Call.__init__" sCInit f fd) (T : TxtC K mg C) : FnOk P w K mg base CX0 1 f fd ["self", "name", "singles", "row", "end"] (spCInit C) := by
  refine F.ok scCInit (fun vs H Q E h => ?_) (fun cdv A outer s H vs Q E hr h => ?_)
  · obtain ⟨p, dx, s, r, n, e, rfl, _⟩ := h
    rfl
  · obtain ⟨p, dx, s, r, n, e, rfl, hp, q⟩ := h
    refine ⟨_, pss_cons (ps_fld (pv 0) (pv 1) rfl) (pss_cons (ps_fld (pv 0) (pv 2) rfl) (pss_cons (ps_fld (pv 0) (pv 3) rfl) (pss_one (ps_fld (pv 0) (pv 4) rfl)))), ?_⟩
    refine ⟨_, rfl, _, rfl, p, C, dx, [], rfl, hp, T.clC, T.nN, by decide, ?_⟩
    refine ⟨_, rfl, _, rfl, p, C, dx, _, rfl, upd_same, T.clC, T.nS, by show 1 < 1000; decide, ?_⟩
    refine ⟨_, rfl, _, rfl, p, C, dx, _, rfl, upd_same, T.clC, T.nR, ?_, ?_⟩
    · refine Nat.lt_of_le_of_lt (?_ : _ ≤ 2) (by decide)
      rw [show putF "singles" (.ref s) (putF "name" (.str n) []) = [(("name" : Str), V.str n), (("singles" : Str), V.ref s)] from (put_past (by decide +kernel)).trans rfl]
      exact Nat.le_refl _
    refine ⟨_, rfl, _, rfl, p, C, dx, _, rfl, upd_same, T.clC, T.nE, ?_, ?_⟩
    · refine Nat.lt_of_le_of_lt (?_ : _ ≤ 3) (by decide)
      rw [show putF "row" (.ref r) (putF "singles" (.ref s) (putF "name" (.str n) [])) = [(("name" : Str), V.str n), (("singles" : Str), V.ref s), (("row" : Str), V.ref r)] by
        rw [show putF "singles" (.ref s) (putF "name" (.str n) []) = [(("name" : Str), V.str n), (("singles" : Str), V.ref s)] from (put_past (by decide +kernel)).trans rfl]
        exact (put_past (by decide +kernel)).trans (congrArg _ ((put_past (by decide +kernel)).trans rfl))]
      exact Nat.le_refl _
    refine q _ ?_ fun b o e n => by rw [upd_ne n, upd_ne n, upd_ne n, upd_ne n]; exact e
    rw [upd_same, cF_new]
/-! read_call -/
def spReadCall (K : PySem.W.Frag) (C : Addr) : Sp := fun vs H Q _ => ∃ (a : Addr) (ns rest : List Int) (k : Nat) (c : CR), vs = [.ref a, .int k] ∧ SqL K H a (ns.map V.int) ∧ ns.drop k = c.enc ++ rest ∧ c.Ok ∧
  ∀ H' p, Same H H' → CallAt C H H' p c ((k + c.enc.length : Nat) : Int) → Q (.ref p) H'
theorem scReadCall : FnScope ["numbers", "place", "form", "behind", "singles", "end"] ["numbers", "place"] (defScope (top 4)) := ⟨rfl, rfl, rfl, by decide +kernel, rfl, by decide +kernel, by decide +kernel⟩
theorem ok_readCall {fI f F : Addr} {as : List Addr} {fdI fd : FuncData} (GI : FnOk P w K mg base CX0 1 fI fdI ["self", "name", "singles", "row", "end"] (spCInit C)) (M : Mk K C fI) (bI : Binds K fdI ["self", "name", "singles", "row", "end"] []) (gC : mg "Call" = some (.ref C))
    (FF : Forms K mg F as) (Fn : Fun K "read_call" "read_call" (top 4) f fd) (T : TxtC K mg C) : FnOk P w K mg base CX0 3 f fd ["numbers", "place"] (spReadCall K C) := by
  refine Fn.ok scReadCall (fun vs H Q E h => ?_) (fun cdv A outer s H vs Q E hr h => ?_)
  · obtain ⟨a, ns, rest, k, c, rfl, _⟩ := h
    rfl
  · obtain ⟨a, ns, rest, k, c, rfl, hS, hd, hc, q⟩ := h
    refine ⟨_, pss_cons (ps_set (i := 2) scReadCall.nd rfl (Or.inl rfl) (pe_ix ix_tup (pe_glob (v := .ref F) rfl FF.gl rfl) (pe_ix ix_list (pv 0) (pv 1) (fun _ _ => rfl)) (fun _ _ => rfl)))
      (pss_cons (ps_set (i := 3) scReadCall.nd rfl (Or.inl rfl) (pe_op op_add (pe_op op_add (pv 1) pe_int) (pe_ix ix_tup (pv 2) pe_int (fun _ _ => rfl))))
      (pss_cons (ps_set (i := 4) scReadCall.nd rfl (Or.inl rfl) (pe_slice sl_list (pv 0) (po_some (pe_op op_add (pv 1) pe_int)) (po_some (pv 3))))
      (pss_cons (ps_if (pt_not (pt_val (pe_ix ix_tup (pv 2) pe_int (fun _ _ => rfl)))) (pss_one (ps_ret (pe_make M GI hr rfl gC bI .nil pass0 (pa_cons (pe_ix ix_tup (pv 2) pe_int (fun _ _ => rfl)) (pa_cons (pv 4) (pa_cons (pe_lst pa_nil) (pa_cons (pv 3) pa_nil))))))) pss_nil)
      (pss_cons (ps_set (i := 5) scReadCall.nd rfl (Or.inl rfl) (pe_op op_add (pe_op op_add (pv 3) pe_int) (pe_ix ix_list (pv 0) (pv 3) (fun _ _ => rfl))))
      (pss_one (ps_ret (pe_make M GI hr rfl gC bI .nil pass0 (pa_cons (pe_ix ix_tup (pv 2) pe_int (fun _ _ => rfl)) (pa_cons (pv 4) (pa_cons (pe_slice sl_list (pv 0) (po_some (pe_op op_add (pv 3) pe_int)) (po_some (pv 5))) (pa_cons (pv 5) pa_nil))))))))))), ?_⟩
    obtain ⟨kd, sg, rw_⟩ := c
    obtain ⟨hk, hs, hr0, hrl⟩ := hc
    simp only at hk hs hr0 hrl
    obtain ⟨A0, hA, hrow⟩ := FF.row kd hk
    -- the parts of the list
    have d0 : ns.drop k = (kd : Int) :: (sg ++ (if (form kd).2 = true then (rw_.length : Int) :: rw_ else []) ++ rest) := by
      rw [hd]
      rfl
    have hkn : k < ns.length := by
      have := congrArg List.length d0
      rw [List.length_drop, List.length_cons] at this
      omega
    have d1 : ns.drop (k + 1) = sg ++ ((if (form kd).2 = true then (rw_.length : Int) :: rw_ else []) ++ rest) := by
      rw [← List.drop_drop, d0, ← List.append_assoc]
      rfl
    have d2 : ns.drop (k + 1 + sg.length) = (if (form kd).2 = true then (rw_.length : Int) :: rw_ else []) ++ rest := drop_more d1
    refine ⟨_, rfl, _, rfl, a, _, _, _, rfl, rfl, hS, at_drop d0, F, _, _, V.ref A0, rfl, rfl, FF.tp H, atI_nat (by rw [List.getElem?_map, hA]; rfl), ?_⟩
    refine ⟨_, rfl, _, _, rfl, rfl, _, rfl, A0, _, _, V.int (form kd).1, rfl, rfl, hrow H, (by exact atI_nat (j := 1) rfl), _, _, rfl, rfl, ?_⟩
    refine ⟨_, rfl, _, rfl, _, _, rfl, rfl, (k : Int) + 1, rfl, _, rfl, (k : Int) + 1 + ((form kd).1 : Int), rfl, a, _, rfl, hS, fun p1 np1 => ?_⟩
    have s1 := same_upd (o := HO.lst (cutV (ns.map V.int) (some ((k : Int) + 1)) (some ((k : Int) + 1 + ((form kd).1 : Int))))) np1
    have hsg : LI (upd H p1 (.lst (cutV (ns.map V.int) (some ((k : Int) + 1)) (some ((k : Int) + 1 + ((form kd).1 : Int)))))) p1 sg := by
      show upd _ p1 _ p1 = _
      rw [upd_same]
      have e := cut_mid d1 (by omega)
      rw [← e]
      congr 3
      rw [hs]
      push_cast
      rfl
    refine ⟨_, rfl, A0, _, _, V.bl (form kd).2, rfl, rfl, hrow _, (by exact atI_nat (j := 2) rfl), _, rfl, ?_⟩
    refine not_if (fun hf => ?_) (fun hf => ?_)
    · -- no row
      refine ⟨_, rfl, A0, _, _, V.str (nameOf kd), rfl, rfl, hrow _, (by exact atI_nat (j := 0) rfl), _, rfl, Nat.zero_le _, fun p2 np2 => ⟨_, rfl, ?_⟩⟩
      have s2 := same_upd (o := HO.lst []) np2
      intro x dx nx nd ne
      refine ⟨x, dx, p1, p2, nameOf kd, _, rfl, upd_same, fun H3 hx kp => ⟨rfl, ?_⟩⟩
      have s3 : Same _ H3 := Same.made nx nd kp
      refine q H3 x (s1.trans (s2.trans s3)) ⟨dx, p1, p2, ?_, hsg.same (s2.trans s3), ?_, s1.free (s2.free nx), np1, s1.free np2⟩
      · have e : ((k : Int) + 1 + ((form kd).1 : Int)) = ((k + (CR.enc ⟨kd, sg, rw_⟩).length : Nat) : Int) := by
          unfold CR.enc
          rw [if_neg (by rw [hf]; decide), List.append_nil, List.length_cons, hs]
          omega
        rw [← e]
        exact hx
      · have e : rw_ = [] := hr0 hf
        show LI H3 p2 rw_
        rw [e]
        exact s3 _ _ upd_same
    · -- a row
      have d2' : ns.drop (k + 1 + sg.length) = (rw_.length : Int) :: (rw_ ++ rest) := by
        rw [d2, if_pos hf]
        rfl
      have d3 : ns.drop (k + 1 + sg.length + 1) = rw_ ++ rest := by
        rw [← List.drop_drop, d2']
        rfl
      have hkn2 : k + 1 + sg.length < ns.length := by
        have := congrArg List.length d2'
        rw [List.length_drop, List.length_cons] at this
        omega
      have eb : ((k : Int) + 1 + ((form kd).1 : Int)) = ((k + 1 + sg.length : Nat) : Int) := by
        rw [hs]
        omega
      refine ⟨_, rfl, _, _, rfl, rfl, _, rfl, _, rfl, a, _, _, V.int (rw_.length : Int), rfl, rfl, s1.seq hS, ?_, _, _, rfl, rfl, ?_⟩
      · show atI (ns.map V.int) ((k : Int) + 1 + ((form kd).1 : Int)) = _
        rw [eb]
        exact at_drop d2'
      refine ⟨_, rfl, A0, _, _, V.str (nameOf kd), rfl, rfl, hrow _, (by exact atI_nat (j := 0) rfl), _, rfl, ?_⟩
      refine ⟨_, rfl, _, rfl, _, _, rfl, rfl, (k : Int) + 1 + ((form kd).1 : Int) + 1, rfl, _, rfl, (k : Int) + 1 + ((form kd).1 : Int) + 1 + (rw_.length : Int), rfl, a, _, rfl, s1.seq hS, fun p2 np2 => ⟨_, rfl, ?_⟩⟩
      have s2 := same_upd (o := HO.lst (cutV (ns.map V.int) (some ((k : Int) + 1 + ((form kd).1 : Int) + 1)) (some ((k : Int) + 1 + ((form kd).1 : Int) + 1 + (rw_.length : Int))))) np2
      intro x dx nx nd ne
      refine ⟨x, dx, p1, p2, nameOf kd, _, rfl, upd_same, fun H3 hx kp => ⟨rfl, ?_⟩⟩
      have s3 : Same _ H3 := Same.made nx nd kp
      refine q H3 x (s1.trans (s2.trans s3)) ⟨dx, p1, p2, ?_, hsg.same (s2.trans s3), ?_, s1.free (s2.free nx), np1, s1.free np2⟩
      · have e : ((k : Int) + 1 + ((form kd).1 : Int) + 1 + (rw_.length : Int)) = ((k + (CR.enc ⟨kd, sg, rw_⟩).length : Nat) : Int) := by
          unfold CR.enc
          rw [if_pos hf, List.length_append, List.length_cons, List.length_cons, hs]
          dsimp only
          omega
        rw [← e]
        exact hx
      · show LI H3 p2 rw_
        refine s3 _ _ ?_
        rw [upd_same, eb]
        have e := cut_mid d3 (by omega)
        rw [← e]
        congr 3
end
end Mo
namespace Mo
open PySem PySem.Spec PyProof.Rows L2
theorem flat_take {cs : List CR} {k : Nat} {c : CR} (h : cs[k]? = some c) : (cs.take (k + 1)).flatMap CR.enc = (cs.take k).flatMap CR.enc ++ c.enc := by
  rw [List.take_add_one, h, List.flatMap_append]
  simp
theorem flat_drop (cs : List CR) (k : Nat) : (cs.flatMap CR.enc).drop ((cs.take k).flatMap CR.enc).length = (cs.drop k).flatMap CR.enc := by
  have e : cs.flatMap CR.enc = (cs.take k).flatMap CR.enc ++ (cs.drop k).flatMap CR.enc := by
    rw [← List.flatMap_append, List.take_append_drop]
  rw [e]
  exact List.drop_left
section
variable {P : Program} {w : World} {K : PySem.W.Frag} {mg : Str → Option Value} {base : Heap} {C : Addr}
/-! read_calls -/
def spReadCalls (K : PySem.W.Frag) (C : Addr) : Sp := fun vs H Q _ => ∃ (a : Addr) (cs : List CR), vs = [.ref a] ∧ SqL K H a ((cs.flatMap CR.enc).map V.int) ∧ (∀ c ∈ cs, c.Ok) ∧ cs.length ≤ 60 ∧
  ∀ H' p qs, Same H H' → H p = none → H' p = some (.lst (qs.map V.ref)) → CallsAt C H H' qs cs → Q (.ref p) H'
theorem scReadCalls : FnScope ["numbers", "found", "place", "call"] ["numbers"] (defScope (top 3)) := ⟨rfl, rfl, rfl, by decide +kernel, rfl, by decide +kernel, by decide +kernel⟩
theorem ok_readCalls {fR f : Addr} {fdR fd : FuncData} (DR : DefAt P w K mg base "read_call" ["numbers", "place"] 3 (spReadCall K C) fR fdR) (F : Fun K "read_calls" "read_calls" (top 3) f fd) (T : TxtC K mg C) : FnOk P w K mg base CX0 4 f fd ["numbers"] (spReadCalls K C) := by
  refine F.ok scReadCalls (fun vs H Q E h => ?_) (fun cdv A outer s H vs Q E hr h => ?_)
  · obtain ⟨a, cs, rfl, _⟩ := h
    rfl
  · obtain ⟨a, cs, rfl, hS, hc, hl, q⟩ := h
    refine ⟨_, pss_cons (ps_set (i := 1) scReadCalls.nd rfl (Or.inl rfl) (pe_lst pa_nil)) (pss_cons (ps_set (i := 2) scReadCalls.nd rfl (Or.inl rfl) pe_int)
      (pss_cons (ps_while PassesOwn.never (pt_cmpR op_lt (pv 2) (pe_callB call_len_seq (by rfl) T.len PySem.boot_len (pa_cons (pv 0) pa_nil)) (nomark _))
        (pss_cons (ps_set (i := 3) scReadCalls.nd rfl (Or.inl rfl) (pe_call DR.ok hr rfl DR.gl DR.kp DR.bn .nil pass0 (pa_cons (pv 0) (pa_cons (pv 2) pa_nil))))
        (pss_cons (ps_expr (pe_bm PySem.F.plainAttrs_list PySem.F.slot_list_append PySem.F.type_list_append mt_append (pv 1) (pa_cons (pv 3) pa_nil)))
        (pss_one (ps_set (i := 2) scReadCalls.nd rfl (Or.inl rfl) (pe_fld (pv 3) rfl))))))
      (pss_one (ps_ret (pv 1))))), ?_⟩
    refine ⟨Nat.zero_le _, fun o no => ?_⟩
    refine ⟨fun m σ H' => ∃ (k : Nat) (v3 : Option V) (qs : List Addr), m = cs.length - k ∧ k ≤ cs.length ∧ σ = [some (.ref a), some (.ref o), some (.int (((cs.take k).flatMap CR.enc).length : Nat)), v3] ∧ Same H H' ∧ H' o = some (.lst (qs.map V.ref)) ∧ CallsAt C (upd H o (.lst [])) H' qs (cs.take k) ∧ (∀ b, H' b = none → upd H o (.lst []) b = none),
      ⟨cs.length, 0, none, [], rfl, Nat.zero_le _, rfl, same_upd no, upd_same, trivial, fun _ e => e⟩, ?_⟩
    rintro m σ H1 ⟨k, v3, qs, rfl, hk, rfl, s1, ho, hq, hx⟩
    refine ⟨_, rfl, _, rfl, a, _, rfl, .inl (s1.seq hS), _, _, rfl, rfl, _, rfl, ?_⟩
    rw [List.length_map]
    have dr := flat_drop cs k
    by_cases hlt : k < cs.length
    · have hcs : cs[k]? = some cs[k] := List.getElem?_eq_getElem hlt
      have dr2 : (cs.flatMap CR.enc).drop ((cs.take k).flatMap CR.enc).length = cs[k].enc ++ (cs.drop (k + 1)).flatMap CR.enc := by
        rw [dr, List.drop_eq_getElem_cons hlt, List.flatMap_cons]
      have lt : ((cs.take k).flatMap CR.enc).length < (cs.flatMap CR.enc).length := by
        have e := congrArg List.length dr2
        have ep := enc_pos cs[k]
        rw [List.length_drop, List.length_append] at e
        omega
      rw [show decide ((((cs.take k).flatMap CR.enc).length : Int) < ((cs.flatMap CR.enc).length : Int)) = true from decide_eq_true (by omega)]
      refine iteT ?_
      refine ⟨fun σ' H' => ∃ (v3 : Option V) (qs : List Addr), σ' = [some (.ref a), some (.ref o), some (.int (((cs.take (k + 1)).flatMap CR.enc).length : Nat)), v3] ∧ Same H H' ∧ H' o = some (.lst (qs.map V.ref)) ∧ CallsAt C (upd H o (.lst [])) H' qs (cs.take (k + 1)) ∧ (∀ b, H' b = none → upd H o (.lst []) b = none),
        fun σ' H' ⟨v3, qs, e1, e2, e3, e4⟩ => ⟨cs.length - (k + 1), by omega, k + 1, v3, qs, rfl, hlt, e1, e2, e3, e4⟩, ?_⟩
      refine ⟨_, rfl, _, rfl, a, cs.flatMap CR.enc, _, _, cs[k], rfl, s1.seq hS, dr2, hc _ (List.getElem_mem hlt), fun H2 p s2 hp => ?_⟩
      have ho2 := s2 _ _ ho
      refine ⟨_, rfl, .inl ⟨rfl, _, .inl (.inl ho2)⟩, _, rfl, o, _, _, rfl, rfl, ho2, ?_, ?_⟩
      · rw [List.length_map, hq.len, List.length_take]
        exact small1000 (by omega)
      have hp' := hp.since hx
      obtain ⟨dx, b1, b2, p1, p2, p3, n1, n2, n3⟩ := id hp'
      have po : p ≠ o := ne_of p1 ho2 (by intro z; cases z)
      refine ⟨_, rfl, p, C, dx, _, _, rfl, (upd_ne po).trans p1, T.clC, T.nE, cF_end _ _ _ _, ?_⟩
      have kp : ∀ (HH : Hp), Same H2 HH → ∀ b u, upd H o (.lst []) b = none → HH b = some u → upd HH o (.lst (qs.map V.ref ++ [V.ref p])) b = some u := by
        intro HH _ b u nb e
        have bo : b ≠ o := fun z => by
          rw [z, upd_same] at nb
          cases nb
        rw [upd_ne bo]
        exact e
      refine ⟨some (.ref p), qs ++ [p], ?_, same_over (s1.trans s2) no, ?_, ?_, fun b e => ?_⟩
      · rw [flat_take hcs, List.length_append]
        rfl
      · rw [upd_same, List.map_append]
        rfl
      · have hq2 : CallsAt C (upd H o (.lst [])) H2 qs (cs.take k) := hq.keep fun b u _ e => s2 _ _ e
        rw [List.take_add_one, hcs]
        exact CallsAt.app (hq2.keep (kp H2 (Same.refl _))) ⟨⟨_, hp'.keep (kp H2 (Same.refl _))⟩, trivial⟩
      · by_cases c : b = o
        · rw [c, upd_same] at e
          cases e
        · rw [upd_ne c] at e
          exact hx b (s2.free e)
    · have ek : k = cs.length := by omega
      subst ek
      rw [List.take_length] at hq ⊢
      rw [show decide (((cs.flatMap CR.enc).length : Int) < ((cs.flatMap CR.enc).length : Int)) = false from decide_eq_false (by omega)]
      refine iteF ?_
      refine ⟨_, rfl, q H1 o qs s1 no ho ?_⟩
      have since : ∀ {ps : List Addr} {ds : List CR}, CallsAt C (upd H o (.lst [])) H1 ps ds → CallsAt C H H1 ps ds := by
        intro ps
        induction ps with
        | nil =>
          intro ds h
          cases ds with
          | nil => trivial
          | cons _ _ => exact h.elim
        | cons p ps ih =>
          intro ds h
          cases ds with
          | nil => exact h.elim
          | cons d ds =>
            obtain ⟨⟨e, h1⟩, h2⟩ := h
            exact ⟨⟨e, h1.since fun b nb => (same_upd no).free nb⟩, ih h2⟩
      exact since hq
end
end Mo
/-! ### 8. The answers -/
namespace Mo
open PySem PySem.Spec PyProof.Rows L2
theorem name_inj : ∀ k, k < 18 → ∀ j, j < 18 → nameOf k = nameOf j → k = j := by decide +kernel
theorem name_if {k j : Nat} (hk : k < 18) (hj : j < 18) {A B : Prop} (h1 : k = j → A) (h2 : k ≠ j → B) : if decide (V.str (nameOf k) = V.str (nameOf j)) = true then A else B := by
  by_cases c : k = j
  · rw [c, decide_eq_true rfl, if_pos rfl]
    exact h1 c
  · rw [decide_eq_false (fun z => c (name_inj k hk j hj (by rw [V.str.injEq] at z; exact z))), if_neg Bool.false_ne_true]
    exact h2 c
theorem one_of {l : List Int} (h : l.length = 1) : atI (l.map V.int) 0 = some (V.int (g l 0)) := at_i (l := l) (i := 0) (by decide) (by rw [h]; decide)
theorem two_of {l : List Int} (h : l.length = 2) : atI (l.map V.int) 0 = some (V.int (g l 0)) ∧ atI (l.map V.int) 1 = some (V.int (g l 1)) := ⟨at_i (l := l) (i := 0) (by decide) (by rw [h]; decide), at_i (l := l) (i := 1) (by decide) (by rw [h]; decide)⟩
section
variable {P : Program} {w : World} {K : PySem.W.Frag} {mg : Str → Option Value} {base : Heap} {C CC : Addr}
/-! answer_of_query, answer_of -/
def spAns (C CC : Addr) (ok : Nat → Bool) : Sp := fun vs H Q _ => ∃ (x p : Addr) (c : CR) (e : Int) (H0 H1 : Hp) (m : M), vs = [.ref x, .ref p] ∧ ShopAt C H0 H x m ∧ m.Ok ∧ CallAt CC H1 H p c e ∧ c.Ok ∧ ok c.kind = true ∧ Does C H0 H x Q (stepM m c)
theorem scQuery : FnScope ["shop", "call", "singles"] ["shop", "call"] (defScope (top 42)) := ⟨rfl, rfl, rfl, by decide +kernel, rfl, by decide +kernel, by decide +kernel⟩
def isQuery (k : Nat) : Bool := decide (6 ≤ k ∧ k ≠ 15)
theorem ok_query {f1 f2 f3 f4 f5 f6 f7 f8 f9 f10 f11 f : Addr} {fd1 fd2 fd3 fd4 fd5 fd6 fd7 fd8 fd9 fd10 fd11 fd : FuncData} 
    (DMin : MethAt P w K mg base C "min_shots" ["self"] 10 (spMin C) f1 fd1)
    (DBestPlan : MethAt P w K mg base C "best_plan" ["self"] 9 (spBestPlan C) f2 fd2)
    (DSurplus : MethAt P w K mg base C "surplus" ["self"] 9 (spSurplus C) f3 fd3)
    (DCheck : MethAt P w K mg base C "check_plan" ["self", "plan"] 3 (spCheck C) f4 fd4)
    (DBP : MethAt P w K mg base C "best_prices" ["self", "level"] 4 (spBP C) f5 fd5)
    (DCP : MethAt P w K mg base C "check_prices" ["self", "level", "prices"] 3 (spCP C) f6 fd6)
    (DGap : MethAt P w K mg base C "duality_gap" ["self", "level"] 9 (spGap C) f7 fd7)
    (DWithout : MethAt P w K mg base C "min_shots_without" ["self", "i"] 10 (spWithout C) f8 fd8)
    (DIf : MethAt P w K mg base C "min_shots_if" ["self", "j", "amount"] 10 (spIf C) f9 fd9)
    (DOnly : MethAt P w K mg base C "min_shots_with_only" ["self", "i"] 10 (spOnly C) f10 fd10)
    (DDesc : MethAt P w K mg base C "describe" ["self"] 1 (spDesc C) f11 fd11)
    (F : Fun K "answer_of_query" "answer_of_query" (top 42) f fd) (TS : TxtS K mg C) (TC : TxtC K mg CC) : FnOk P w K mg base CX0 11 f fd ["shop", "call"] (spAns C CC isQuery) := by
  refine F.ok scQuery (fun vs H Q E h => ?_) (fun cdv A outer s H vs Q E hr h => ?_)
  · obtain ⟨x, p, c, e, H0, H1, m, rfl, _⟩ := h
    rfl
  · obtain ⟨x, p, c, e, H0, H1, m, rfl, S0, mo, hc, ho, hq, q⟩ := h
    obtain ⟨dxs, a, d, rs, S⟩ := id S0
    obtain ⟨dx, ps, pr, hp, hs, hrw, _⟩ := hc
    obtain ⟨k, l, r⟩ := c
    obtain ⟨hk, hl, h0, hrl⟩ := ho
    simp only at hk hl h0 hrl hp hs hrw hq
    refine ⟨_, pss_cons (ps_set (i := 2) scQuery.nd rfl (Or.inl rfl) (pe_fld (pv 1) rfl))
        (pss_cons (ps_if (pt_cmpR op_eq (pe_fld (pv 1) rfl) pe_str (nomark _)) (pss_one (ps_ret (pe_meth0 (pv 0) TS.cl DMin.mt DMin.ok (hr.mono (by decide)) DMin.bn .nil pass0))) pss_nil)
        (pss_cons (ps_if (pt_cmpR op_eq (pe_fld (pv 1) rfl) pe_str (nomark _)) (pss_one (ps_ret (pe_meth0 (pv 0) TS.cl DBestPlan.mt DBestPlan.ok (hr.mono (by decide)) DBestPlan.bn .nil pass0))) pss_nil)
        (pss_cons (ps_if (pt_cmpR op_eq (pe_fld (pv 1) rfl) pe_str (nomark _)) (pss_one (ps_ret (pe_meth0 (pv 0) TS.cl DSurplus.mt DSurplus.ok (hr.mono (by decide)) DSurplus.bn .nil pass0))) pss_nil)
        (pss_cons (ps_if (pt_cmpR op_eq (pe_fld (pv 1) rfl) pe_str (nomark _)) (pss_one (ps_ret (pe_meth (pv 0) TS.cl DCheck.mt DCheck.ok (hr.mono (by decide)) DCheck.bn .nil pass0 (pa_cons (pe_fld (pv 1) rfl) pa_nil)))) pss_nil)
        (pss_cons (ps_if (pt_cmpR op_eq (pe_fld (pv 1) rfl) pe_str (nomark _)) (pss_one (ps_ret (pe_meth (pv 0) TS.cl DBP.mt DBP.ok (hr.mono (by decide)) DBP.bn .nil pass0 (pa_cons (pe_ix ix_list (pv 2) pe_int (fun _ _ => rfl)) pa_nil)))) pss_nil)
        (pss_cons (ps_if (pt_cmpR op_eq (pe_fld (pv 1) rfl) pe_str (nomark _)) (pss_one (ps_ret (pe_meth (pv 0) TS.cl DCP.mt DCP.ok (hr.mono (by decide)) DCP.bn .nil pass0 (pa_cons (pe_ix ix_list (pv 2) pe_int (fun _ _ => rfl)) (pa_cons (pe_fld (pv 1) rfl) pa_nil))))) pss_nil)
        (pss_cons (ps_if (pt_cmpR op_eq (pe_fld (pv 1) rfl) pe_str (nomark _)) (pss_one (ps_ret (pe_meth (pv 0) TS.cl DGap.mt DGap.ok (hr.mono (by decide)) DGap.bn .nil pass0 (pa_cons (pe_ix ix_list (pv 2) pe_int (fun _ _ => rfl)) pa_nil)))) pss_nil)
        (pss_cons (ps_if (pt_cmpR op_eq (pe_fld (pv 1) rfl) pe_str (nomark _)) (pss_one (ps_ret (pe_meth (pv 0) TS.cl DWithout.mt DWithout.ok (hr.mono (by decide)) DWithout.bn .nil pass0 (pa_cons (pe_ix ix_list (pv 2) pe_int (fun _ _ => rfl)) pa_nil)))) pss_nil)
        (pss_cons (ps_if (pt_cmpR op_eq (pe_fld (pv 1) rfl) pe_str (nomark _)) (pss_one (ps_ret (pe_meth (pv 0) TS.cl DIf.mt DIf.ok (hr.mono (by decide)) DIf.bn .nil pass0 (pa_cons (pe_ix ix_list (pv 2) pe_int (fun _ _ => rfl)) (pa_cons (pe_ix ix_list (pv 2) pe_int (fun _ _ => rfl)) pa_nil))))) pss_nil)
        (pss_cons (ps_if (pt_cmpR op_eq (pe_fld (pv 1) rfl) pe_str (nomark _)) (pss_one (ps_ret (pe_meth (pv 0) TS.cl DOnly.mt DOnly.ok (hr.mono (by decide)) DOnly.bn .nil pass0 (pa_cons (pe_ix ix_list (pv 2) pe_int (fun _ _ => rfl)) pa_nil)))) pss_nil)
        (pss_one (ps_ret (pe_meth0 (pv 0) TS.cl DDesc.mt DDesc.ok (hr.mono (by decide)) DDesc.bn .nil pass0))))))))))))), ?_⟩
    refine ⟨_, rfl, p, CC, dx, _, _, rfl, hp, TC.clC, TC.nS, cF_singles _ _ _ _, ?_⟩
    refine ⟨_, rfl, p, CC, dx, _, _, rfl, hp, TC.clC, TC.nN, cF_name _ _ _ _, rfl, _, rfl, ?_⟩
    refine name_if (j := 6) hk (by decide) (fun e => ?_) (fun n6 => ?_)
    · subst e
      exact ⟨_, rfl, x, dxs, _, rfl, S.ins, sF_no a d (by decide +kernel) (by decide +kernel), x, H0, m, rfl, S0, mo, q.asks S0⟩
    refine ⟨_, rfl, p, CC, dx, _, _, rfl, hp, TC.clC, TC.nN, cF_name _ _ _ _, rfl, _, rfl, ?_⟩
    refine name_if (j := 7) hk (by decide) (fun e => ?_) (fun n7 => ?_)
    · subst e
      exact ⟨_, rfl, x, dxs, _, rfl, S.ins, sF_no a d (by decide +kernel) (by decide +kernel), x, H0, m, rfl, S0, mo, q.asks S0⟩
    refine ⟨_, rfl, p, CC, dx, _, _, rfl, hp, TC.clC, TC.nN, cF_name _ _ _ _, rfl, _, rfl, ?_⟩
    refine name_if (j := 8) hk (by decide) (fun e => ?_) (fun n8 => ?_)
    · subst e
      exact ⟨_, rfl, x, dxs, _, rfl, S.ins, sF_no a d (by decide +kernel) (by decide +kernel), x, H0, m, rfl, S0, mo, q.asks S0⟩
    refine ⟨_, rfl, p, CC, dx, _, _, rfl, hp, TC.clC, TC.nN, cF_name _ _ _ _, rfl, _, rfl, ?_⟩
    refine name_if (j := 9) hk (by decide) (fun e => ?_) (fun n9 => ?_)
    · subst e
      exact ⟨_, rfl, x, dxs, _, rfl, S.ins, sF_no a d (by decide +kernel) (by decide +kernel), _, rfl, p, CC, dx, _, _, rfl, hp, TC.clC, TC.nR, cF_row _ _ _ _, x, pr, r, H0, m, rfl, S0, mo, hrw, by omega, q.asks S0⟩
    refine ⟨_, rfl, p, CC, dx, _, _, rfl, hp, TC.clC, TC.nN, cF_name _ _ _ _, rfl, _, rfl, ?_⟩
    refine name_if (j := 10) hk (by decide) (fun e => ?_) (fun n10 => ?_)
    · subst e
      exact ⟨_, rfl, x, dxs, _, rfl, S.ins, sF_no a d (by decide +kernel) (by decide +kernel), _, rfl, ps, _, _, _, rfl, rfl, hs.sq, one_of hl, x, _, H0, m, rfl, S0, mo, q.asks S0⟩
    refine ⟨_, rfl, p, CC, dx, _, _, rfl, hp, TC.clC, TC.nN, cF_name _ _ _ _, rfl, _, rfl, ?_⟩
    refine name_if (j := 11) hk (by decide) (fun e => ?_) (fun n11 => ?_)
    · subst e
      exact ⟨_, rfl, x, dxs, _, rfl, S.ins, sF_no a d (by decide +kernel) (by decide +kernel), _, rfl, ps, _, _, _, rfl, rfl, hs.sq, one_of hl, _, rfl, p, CC, dx, _, _, rfl, hp, TC.clC, TC.nR, cF_row _ _ _ _, x, pr, _, r, H0, m, rfl, S0, mo, hrw, by omega, q.asks S0⟩
    refine ⟨_, rfl, p, CC, dx, _, _, rfl, hp, TC.clC, TC.nN, cF_name _ _ _ _, rfl, _, rfl, ?_⟩
    refine name_if (j := 12) hk (by decide) (fun e => ?_) (fun n12 => ?_)
    · subst e
      exact ⟨_, rfl, x, dxs, _, rfl, S.ins, sF_no a d (by decide +kernel) (by decide +kernel), _, rfl, ps, _, _, _, rfl, rfl, hs.sq, one_of hl, x, _, H0, m, rfl, S0, mo, q.asks S0⟩
    refine ⟨_, rfl, p, CC, dx, _, _, rfl, hp, TC.clC, TC.nN, cF_name _ _ _ _, rfl, _, rfl, ?_⟩
    refine name_if (j := 13) hk (by decide) (fun e => ?_) (fun n13 => ?_)
    · subst e
      exact ⟨_, rfl, x, dxs, _, rfl, S.ins, sF_no a d (by decide +kernel) (by decide +kernel), _, rfl, ps, _, _, _, rfl, rfl, hs.sq, one_of hl, x, _, H0, m, rfl, S0, mo, q.asks S0⟩
    refine ⟨_, rfl, p, CC, dx, _, _, rfl, hp, TC.clC, TC.nN, cF_name _ _ _ _, rfl, _, rfl, ?_⟩
    refine name_if (j := 14) hk (by decide) (fun e => ?_) (fun n14 => ?_)
    · subst e
      exact ⟨_, rfl, x, dxs, _, rfl, S.ins, sF_no a d (by decide +kernel) (by decide +kernel), _, rfl, ps, _, _, _, rfl, rfl, hs.sq, (two_of hl).1, _, rfl, ps, _, _, _, rfl, rfl, hs.sq, (two_of hl).2, x, _, _, H0, m, rfl, S0, mo, q.asks S0⟩
    refine ⟨_, rfl, p, CC, dx, _, _, rfl, hp, TC.clC, TC.nN, cF_name _ _ _ _, rfl, _, rfl, ?_⟩
    refine name_if (j := 16) hk (by decide) (fun e => ?_) (fun n16 => ?_)
    · subst e
      exact ⟨_, rfl, x, dxs, _, rfl, S.ins, sF_no a d (by decide +kernel) (by decide +kernel), _, rfl, ps, _, _, _, rfl, rfl, hs.sq, one_of hl, x, _, H0, m, rfl, S0, mo, q.asks S0⟩
    have e17 : k = 17 := by
      have := of_decide_eq_true hq
      omega
    subst e17
    exact ⟨_, rfl, x, dxs, _, rfl, S.ins, sF_no a d (by decide +kernel) (by decide +kernel), x, H0, m, rfl, S0, mo, q.asks S0⟩
theorem scAnsOf : FnScope ["shop", "call", "singles"] ["shop", "call"] (defScope (top 41)) := ⟨rfl, rfl, rfl, by decide +kernel, rfl, by decide +kernel, by decide +kernel⟩
def isCall (k : Nat) : Bool := decide (k ≠ 0)
theorem ok_ansOf {f1 f2 f3 f4 f5 f6 fQ f : Addr} {fd1 fd2 fd3 fd4 fd5 fd6 fdQ fd : FuncData}
    (DAdd : MethAt P w K mg base C "add_mould" ["self", "yields"] 2 (spAdd C) f1 fd1)
    (DRemove : MethAt P w K mg base C "remove_mould" ["self", "i"] 2 (spRemove C) f2 fd2)
    (DSet : MethAt P w K mg base C "set_mould" ["self", "i", "yields"] 2 (spSet C) f3 fd3)
    (DDemand : MethAt P w K mg base C "set_demand" ["self", "j", "amount"] 1 (spDemand C) f4 fd4)
    (DSetAll : MethAt P w K mg base C "set_all_demand" ["self", "amounts"] 2 (spSetAll C) f5 fd5)
    (DMake : MethAt P w K mg base C "make_shots" ["self", "i", "n"] 2 (spMake C) f6 fd6)
    (DQ : DefAt P w K mg base "answer_of_query" ["shop", "call"] 11 (spAns C CC isQuery) fQ fdQ)
    (F : Fun K "answer_of" "answer_of" (top 41) f fd) (TS : TxtS K mg C) (TC : TxtC K mg CC) : FnOk P w K mg base CX0 12 f fd ["shop", "call"] (spAns C CC isCall) := by
  refine F.ok scAnsOf (fun vs H Q E h => ?_) (fun cdv A outer s H vs Q E hr h => ?_)
  · obtain ⟨x, p, c, e, H0, H1, m, rfl, _⟩ := h
    rfl
  · obtain ⟨x, p, c, e, H0, H1, m, rfl, S0, mo, hc, ho, hq, q⟩ := h
    obtain ⟨dxs, a, d, rs, S⟩ := id S0
    obtain ⟨dx, ps, pr, hp, hs, hrw, hn⟩ := id hc
    obtain ⟨k, l, r⟩ := c
    obtain ⟨hk, hl, h0, hrl⟩ := id ho
    simp only at hk hl h0 hrl hp hs hrw hq
    refine ⟨_, pss_cons (ps_set (i := 2) scAnsOf.nd rfl (Or.inl rfl) (pe_fld (pv 1) rfl))
        (pss_cons (ps_if (pt_cmpR op_eq (pe_fld (pv 1) rfl) pe_str (nomark _)) (pss_one (ps_ret (pe_meth (pv 0) TS.cl DAdd.mt DAdd.ok (hr.mono (by decide)) DAdd.bn .nil pass0 (pa_cons (pv 2) pa_nil)))) pss_nil)
        (pss_cons (ps_if (pt_cmpR op_eq (pe_fld (pv 1) rfl) pe_str (nomark _)) (pss_one (ps_ret (pe_meth (pv 0) TS.cl DRemove.mt DRemove.ok (hr.mono (by decide)) DRemove.bn .nil pass0 (pa_cons (pe_ix ix_list (pv 2) pe_int (fun _ _ => rfl)) pa_nil)))) pss_nil)
        (pss_cons (ps_if (pt_cmpR op_eq (pe_fld (pv 1) rfl) pe_str (nomark _)) (pss_one (ps_ret (pe_meth (pv 0) TS.cl DSet.mt DSet.ok (hr.mono (by decide)) DSet.bn .nil pass0 (pa_cons (pe_ix ix_list (pv 2) pe_int (fun _ _ => rfl)) (pa_cons (pe_slice sl_list (pv 2) (po_some pe_int) po_none) pa_nil))))) pss_nil)
        (pss_cons (ps_if (pt_cmpR op_eq (pe_fld (pv 1) rfl) pe_str (nomark _)) (pss_one (ps_ret (pe_meth (pv 0) TS.cl DDemand.mt DDemand.ok (hr.mono (by decide)) DDemand.bn .nil pass0 (pa_cons (pe_ix ix_list (pv 2) pe_int (fun _ _ => rfl)) (pa_cons (pe_ix ix_list (pv 2) pe_int (fun _ _ => rfl)) pa_nil))))) pss_nil)
        (pss_cons (ps_if (pt_cmpR op_eq (pe_fld (pv 1) rfl) pe_str (nomark _)) (pss_one (ps_ret (pe_meth (pv 0) TS.cl DSetAll.mt DSetAll.ok (hr.mono (by decide)) DSetAll.bn .nil pass0 (pa_cons (pe_fld (pv 1) rfl) pa_nil)))) pss_nil)
        (pss_cons (ps_if (pt_cmpR op_eq (pe_fld (pv 1) rfl) pe_str (nomark _)) (pss_one (ps_ret (pe_meth (pv 0) TS.cl DMake.mt DMake.ok (hr.mono (by decide)) DMake.bn .nil pass0 (pa_cons (pe_ix ix_list (pv 2) pe_int (fun _ _ => rfl)) (pa_cons (pe_ix ix_list (pv 2) pe_int (fun _ _ => rfl)) pa_nil))))) pss_nil)
        (pss_one (ps_ret (pe_call DQ.ok hr rfl DQ.gl DQ.kp DQ.bn .nil pass0 (pa_cons (pv 0) (pa_cons (pv 1) pa_nil))))))))))), ?_⟩
    refine ⟨_, rfl, p, CC, dx, _, _, rfl, hp, TC.clC, TC.nS, cF_singles _ _ _ _, ?_⟩
    refine ⟨_, rfl, p, CC, dx, _, _, rfl, hp, TC.clC, TC.nN, cF_name _ _ _ _, rfl, _, rfl, ?_⟩
    refine name_if (j := 1) hk (by decide) (fun e => ?_) (fun n1 => ?_)
    · subst e
      exact ⟨_, rfl, x, dxs, _, rfl, S.ins, sF_no a d (by decide +kernel) (by decide +kernel), _, rfl, x, ps, l, H0, m, rfl, S0, mo, hs, hl, q⟩
    refine ⟨_, rfl, p, CC, dx, _, _, rfl, hp, TC.clC, TC.nN, cF_name _ _ _ _, rfl, _, rfl, ?_⟩
    refine name_if (j := 2) hk (by decide) (fun e => ?_) (fun n2 => ?_)
    · subst e
      exact ⟨_, rfl, x, dxs, _, rfl, S.ins, sF_no a d (by decide +kernel) (by decide +kernel), _, rfl, ps, _, _, _, rfl, rfl, hs.sq, one_of hl, x, _, H0, m, rfl, S0, mo, q⟩
    refine ⟨_, rfl, p, CC, dx, _, _, rfl, hp, TC.clC, TC.nN, cF_name _ _ _ _, rfl, _, rfl, ?_⟩
    refine name_if (j := 3) hk (by decide) (fun e => ?_) (fun n3 => ?_)
    · subst e
      have e0 : atI (l.map V.int) 0 = some (V.int (g l 0)) := at_i (l := l) (i := 0) (by decide) (by rw [hl]; decide)
      refine ⟨_, rfl, x, dxs, _, rfl, S.ins, sF_no a d (by decide +kernel) (by decide +kernel), _, rfl, ps, _, _, _, rfl, rfl, hs.sq, e0, _, rfl, 1, rfl, ps, _, rfl, hs.sq, fun y ny => ?_⟩
      have s1 := same_upd (o := HO.lst (cutV (l.map V.int) (some 1) none)) ny
      refine ⟨x, y, _, l.drop 1, H0, m, rfl, (S.same s1).at, mo, ?_, by rw [List.length_drop, hl]; rfl, q.later s1⟩
      show upd _ y _ y = _
      rw [upd_same, cut_one, List.map_drop]
    refine ⟨_, rfl, p, CC, dx, _, _, rfl, hp, TC.clC, TC.nN, cF_name _ _ _ _, rfl, _, rfl, ?_⟩
    refine name_if (j := 4) hk (by decide) (fun e => ?_) (fun n4 => ?_)
    · subst e
      exact ⟨_, rfl, x, dxs, _, rfl, S.ins, sF_no a d (by decide +kernel) (by decide +kernel), _, rfl, ps, _, _, _, rfl, rfl, hs.sq, (two_of hl).1, _, rfl, ps, _, _, _, rfl, rfl, hs.sq, (two_of hl).2, x, _, _, H0, m, rfl, S0, mo, q⟩
    refine ⟨_, rfl, p, CC, dx, _, _, rfl, hp, TC.clC, TC.nN, cF_name _ _ _ _, rfl, _, rfl, ?_⟩
    refine name_if (j := 5) hk (by decide) (fun e => ?_) (fun n5 => ?_)
    · subst e
      exact ⟨_, rfl, x, dxs, _, rfl, S.ins, sF_no a d (by decide +kernel) (by decide +kernel), _, rfl, p, CC, dx, _, _, rfl, hp, TC.clC, TC.nR, cF_row _ _ _ _, x, pr, r, H0, m, rfl, S0, mo, hrw, by omega, q⟩
    refine ⟨_, rfl, p, CC, dx, _, _, rfl, hp, TC.clC, TC.nN, cF_name _ _ _ _, rfl, _, rfl, ?_⟩
    refine name_if (j := 15) hk (by decide) (fun e => ?_) (fun n15 => ?_)
    · subst e
      exact ⟨_, rfl, x, dxs, _, rfl, S.ins, sF_no a d (by decide +kernel) (by decide +kernel), _, rfl, ps, _, _, _, rfl, rfl, hs.sq, (two_of hl).1, _, rfl, ps, _, _, _, rfl, rfl, hs.sq, (two_of hl).2, x, _, _, H0, m, rfl, S0, mo, q⟩
    have hq2 : isQuery k = true := by
      have := of_decide_eq_true hq
      exact decide_eq_true (by omega)
    exact ⟨_, rfl, _, rfl, x, p, ⟨k, l, r⟩, e, H0, H1, m, rfl, S0, mo, hc, ho, hq2, q⟩
end
end Mo
namespace Mo
open PySem PySem.Spec PyProof.Rows L2
theorem runR_more {cs : List CR} {i : Nat} {c : CR} (h : cs[i]? = some c) : runR (cs.take (i + 1)) = ((stepR (runR (cs.take i)).1 c).1, (runR (cs.take i)).2 ++ ((stepR (runR (cs.take i)).1 c).2.length : Int) :: (stepR (runR (cs.take i)).1 c).2) := by
  have e : cs.take (i + 1) = cs.take i ++ [c] := by
    rw [List.take_add_one, h]
    rfl
  rw [e]
  unfold runR
  rw [List.foldl_append]
  rfl
/-- what is known of each state on the way -/
theorem run_ok {cs : List CR} (h : ∀ c ∈ cs, c.Ok) (i : Nat) : (∀ m, (runR (cs.take i)).1 = some m → m.Ok) ∧ (runR (cs.take i)).2.length ≤ 21 * i ∧ ∀ c, c.Ok → (stepR (runR (cs.take i)).1 c).2.length ≤ 20 := by
  obtain ⟨o, ho, e1, e2⟩ := run_state (cs.take i) none [] (fun c hc => h c (List.mem_of_mem_take hc)) (fun s hs => by cases hs)
  have e1' : (runR (cs.take i)).1 = o.map toM := e1
  refine ⟨fun m e => ?_, Nat.le_trans e2 ?_, fun c hc => ?_⟩
  · rw [e1'] at e
    cases o with
    | none => cases e
    | some s =>
      rw [← Option.some.inj e]
      exact (ho s rfl).m
  · rw [List.length_take, List.length_nil]
    omega
  · rw [e1']
    exact (whole_step ho hc).2.2
def StAt (C : Addr) (H0 H : Hp) (v : V) : Option M → Prop
  | none => v = .non
  | some m => ∃ x, v = .ref x ∧ ShopAt C H0 H x m
section
variable {P : Program} {w : World} {K : PySem.W.Frag} {mg : Str → Option Value} {base : Heap} {C CC : Addr}
def rLn (K : PySem.W.Frag) : List V → Hp → VK → Prop := fun xs H Q => ∃ p ys, xs = [.ref p] ∧ (SqL K H p ys ∨ SqT K H p ys) ∧ Q (.int ys.length) H
/-- given.append(len(answer)); given.extend(answer) -/
theorem tail_ok {D : Ends} {a gv p : Addr} {sv : V} {v3 : Option V} {H2 : Hp} {out ans : List Int} (hg : LI H2 gv out) (hp : LI H2 p ans) (ne : p ≠ gv) (l1 : out.length ≤ 1500) (l2 : ans.length ≤ 20)
    (q : ∀ H3, (∀ b, b ≠ gv → H3 b = H2 b) → LI H3 gv (out ++ (ans.length : Int) :: ans) → H3 = upd (upd H2 gv (.lst (out.map V.int ++ [V.int (ans.length : Int)]))) gv (.lst (out.map V.int ++ [V.int (ans.length : Int)] ++ ans.map V.int)) → D.nx [some (.ref a), some sv, some (.ref gv), v3, some (.ref p)] H3) :
    tSeq (tDrop (tBM K "list" rAppend (tVar 2) (tCons (tCB (rLn K) (tCons (tVar 4) tNil)) tNil))) (tDrop (tBM K "list" rExtend (tVar 2) (tCons (tVar 4) tNil))) D [some (.ref a), some sv, some (.ref gv), v3, some (.ref p)] H2 := by
  refine ⟨_, rfl, .inl ⟨rfl, _, hg.sq⟩, _, rfl, p, _, rfl, .inl hp.sq, gv, _, _, rfl, rfl, hg, ?_, ?_⟩
  · rw [List.length_map]
    exact Nat.lt_of_le_of_lt l1 (by decide)
  · rw [List.length_map]
    refine ⟨_, rfl, .inl ⟨rfl, _, .inl (.inl upd_same)⟩, _, rfl, gv, p, _, _, rfl, rfl, upd_same, (upd_ne ne).trans hp, ?_, ?_⟩
    · rw [List.length_append, List.length_map, List.length_map]
      exact Nat.le_trans (show out.length + 1 + ans.length ≤ 1600 by omega) (by decide)
    · refine q _ (fun b hb => by rw [upd_ne hb, upd_ne hb]) ?_ rfl
      show upd _ gv _ gv = _
      rw [upd_same, List.map_append, List.map_cons, List.append_assoc]
      rfl
/-! answers -/
def spAnswers (K : PySem.W.Frag) : Sp := fun vs H Q _ => ∃ (a : Addr) (ns : List Int), vs = [.ref a] ∧ SqL K H a (ns.map V.int) ∧ PySr122.answers_asked ns = true ∧ ∀ (H' : Hp) (p : Addr), H' p = some (.lst ((PySr122.answers ns).map V.int)) → Q (.ref p) H'
theorem scAnswers : FnScope ["calls", "shop", "given", "call", "answer"] ["calls"] (defScope (top 40)) := ⟨rfl, rfl, rfl, by decide +kernel, rfl, by decide +kernel, by decide +kernel⟩
theorem ok_answers {fI fR fA f : Addr} {fdI fdR fdA fd : FuncData} (M_ : Mk K C fI) (GI : FnOk P w K mg base CX0 1 fI fdI ["self"] (spInit C)) (bI : Binds K fdI ["self"] []) (gC : mg "Shop" = some (.ref C))
    (DR : DefAt P w K mg base "read_calls" ["numbers"] 4 (spReadCalls K CC) fR fdR) (DA : DefAt P w K mg base "answer_of" ["shop", "call"] 12 (spAns C CC isCall) fA fdA)
    (F : Fun K "answers" "answers" (top 40) f fd) (T : Txt mg) (TC : TxtC K mg CC) : FnOk P w K mg base CX0 13 f fd ["calls"] (spAnswers K) := by
  refine F.ok scAnswers (fun vs H Q E h => ?_) (fun cdv A outer s H vs Q E hr h => ?_)
  · obtain ⟨a, ns, rfl, _⟩ := h
    rfl
  · obtain ⟨a, ns, rfl, hS, hask, k⟩ := h
    obtain ⟨cs, rfl, hok, h60, hdue⟩ := asked_is hask
    rw [hdue] at k
    have hrR : Room 4 _ := hr.mono (by decide)
    have hrI : Room 2 _ := hr.mono (by decide)
    refine ⟨_, pss_cons (ps_set (i := 1) scAnswers.nd rfl (Or.inl rfl) pe_non) (pss_cons (ps_set (i := 2) scAnswers.nd rfl (Or.inl rfl) (pe_lst pa_nil))
      (pss_cons (ps_for PassesOwn.never rfl (pi_list (pe_call DR.ok hrR rfl DR.gl DR.kp DR.bn .nil pass0 (pa_cons (pv 0) pa_nil))) (pg_name (i := 3) scAnswers.nd rfl (Or.inl rfl))
        (pss_cons (ps_if (pt_cmpR op_eq (pe_fld (pv 3) rfl) pe_str (nomark _))
            (pss_cons (ps_set (i := 1) scAnswers.nd rfl (Or.inl rfl) (pe_make0 M_ GI hrI rfl gC bI .nil pass0)) (pss_one (ps_set (i := 4) scAnswers.nd rfl (Or.inl rfl) (pe_lst (pa_cons pe_int pa_nil)))))
            (pss_one (ps_if (pt_cmpR op_isN (pv 1) pe_non (nomark _)) (pss_one (ps_set (i := 4) scAnswers.nd rfl (Or.inl rfl) (pe_lst (pa_cons (pe_gint rfl T.noInst) pa_nil))))
              (pss_one (ps_set (i := 4) scAnswers.nd rfl (Or.inl rfl) (pe_call DA.ok hr rfl DA.gl DA.kp DA.bn .nil pass0 (pa_cons (pv 1) (pa_cons (pv 3) pa_nil))))))))
        (pss_cons (ps_expr (pe_bm PySem.F.plainAttrs_list PySem.F.slot_list_append PySem.F.type_list_append mt_append (pv 2) (pa_cons (pe_callB (r := rLn K) call_len_seq (by rfl) T.len PySem.boot_len (pa_cons (pv 4) pa_nil)) pa_nil)))
        (pss_one (ps_expr (pe_bm PySem.F.plainAttrs_list PySem.F.slot_list_extend PySem.F.type_list_extend mt_extend (pv 2) (pa_cons (pv 4) pa_nil)))))))
      (pss_one (ps_ret (pv 2))))), ?_⟩
    refine ⟨Nat.zero_le _, fun gv ng => ?_⟩
    have s0 := same_upd (o := HO.lst []) ng
    refine ⟨_, rfl, a, cs, rfl, s0.seq hS, hok, h60, fun H1 pl qs s1 nl hl hq => ?_⟩
    have hg1 : H1 gv = some (.lst []) := s1 _ _ upd_same
    have g0 : H1 gv ≠ none := by
      rw [hg1]
      exact fun z => by cases z
    have lg : pl ≠ gv := fun z => by
      rw [z, upd_same] at nl
      cases nl
    refine ⟨pl, rfl, ⟨_, .inl (.inl hl)⟩, for_list (K := K) (a := pl) (xs := qs.map V.ref) (fun i σ H' => ∃ (sv : V) (v3 v4 : Option V), σ = [some (.ref a), some sv, some (.ref gv), v3, v4] ∧ (∀ b o, H1 b = some o → b ≠ gv → H' b = some o) ∧ LI H' gv (runR (cs.take i)).2 ∧ (∀ b, H' b = none → H1 b = none) ∧ StAt C H1 H' sv (runR (cs.take i)).1)
      ⟨.non, none, none, rfl, fun b o e _ => e, hg1, fun b e => e, rfl⟩ (fun i σ H' _ ⟨_, _, _, _, kp, _⟩ => .inl (.inl (kp _ _ hl lg))) ?_ ?_⟩
    · rintro i y σ H2 hy ⟨sv, v3, v4, rfl, kp, hg, ext, st⟩
      obtain ⟨p, rfl, hy2⟩ := ref_at hy
      obtain ⟨c, hci, e, hca⟩ := hq.get hy2
      have hi : i < cs.length := (List.getElem?_eq_some_iff.mp hci).1
      have hco : c.Ok := hok c (List.mem_of_getElem? hci)
      obtain ⟨r1, r2, r3⟩ := run_ok hok i
      have r3 := r3 c hco
      have more := runR_more hci
      have hca2 : CallAt CC (upd H gv (.lst [])) H2 p c e := hca.keep fun b o nb eb => kp b o eb fun z => by
        rw [z, upd_same] at nb
        cases nb
      obtain ⟨dx, ps, pr, hp, hs, hrw, _⟩ := id hca2
      have lo : (runR (cs.take i)).2.length ≤ 1500 := by omega
      refine ⟨_, rfl, p, CC, dx, _, _, rfl, hp, TC.clC, TC.nN, cF_name _ _ _ _, rfl, _, rfl, ?_⟩
      refine name_if (j := 0) hco.kind (by decide) (fun e0 => ?_) (fun n0 => ?_)
      · -- create
        have es : stepR (runR (cs.take i)).1 c = (some M.fresh, [0]) := if_pos e0
        intro x dx2 nx ndx nex
        have nxs : H1 x = none := ext x nx
        have ndxs : H1 dx2 = none := ext dx2 ndx
        refine ⟨x, dx2, H1, rfl, upd_same, nxs, fun b eb => ?_, fun H3 SA kp3 => ⟨rfl, ?_⟩⟩
        · by_cases c1 : b = x
          · rw [c1]
            exact nxs
          · rw [upd_ne c1] at eb
            by_cases c2 : b = dx2
            · rw [c2]
              exact ndxs
            · rw [upd_ne c2] at eb
              exact ext b eb
        · have kp4 : ∀ b o, H2 b = some o → H3 b = some o := fun b o eb => by
            have b1 : b ≠ x := ne_of_none eb nx
            have b2 : b ≠ dx2 := ne_of_none eb ndx
            exact kp3 b o (by rw [upd_ne b1, upd_ne b2]; exact eb) b1
          obtain ⟨dxs, a1, d1, rs1, S3⟩ := SA
          refine ⟨by show 1 ≤ sizeLine; decide, fun p4 np4 => ?_⟩
          have s4 := same_upd (o := HO.lst [V.int 0]) np4
          have hg4 : LI (upd H3 p4 (.lst [V.int 0])) gv (runR (cs.take i)).2 := s4 _ _ (kp4 _ _ hg)
          have pg : p4 ≠ gv := (ne_of_none (kp4 _ _ hg) np4).symm
          refine tail_ok (K := K) (ans := [0]) hg4 (show LI _ p4 [0] from upd_same) pg lo (by decide) (fun H5 h5 hg5 e5 => ?_)
          refine ⟨.ref x, some (.ref p), some (.ref p4), rfl, fun b o eb nb => ?_, ?_, ?_, ?_⟩
          · rw [h5 b nb]
            exact s4 _ _ (kp4 _ _ (kp b o eb nb))
          · rw [more, es]
            exact hg5
          · rw [e5]
            exact (((S3.same s4).past g0).past g0).ext
          · rw [more, es, e5]
            exact ⟨x, rfl, (((S3.same s4).past g0).past g0).at⟩
      · cases hst : (runR (cs.take i)).1 with
        | none =>
          rw [hst] at st
          have est : sv = .non := st
          subst est
          have es : stepR (runR (cs.take i)).1 c = (none, [-11]) := by
            rw [hst]
            exact if_neg n0
          refine ⟨_, rfl, rfl, _, rfl, ?_⟩
          refine iteT ?_
          refine ⟨by show 1 ≤ sizeLine; decide, fun p4 np4 => ?_⟩
          have s4 := same_upd (o := HO.lst [V.int (-11)]) np4
          have pg : p4 ≠ gv := (ne_of_none hg np4).symm
          refine tail_ok (K := K) (ans := [-11]) (show LI _ gv _ from s4 _ _ hg) (show LI _ p4 [-11] from upd_same) pg lo (by decide) (fun H5 h5 hg5 e5 => ?_)
          refine ⟨.non, some (.ref p), some (.ref p4), rfl, fun b o eb nb => ?_, ?_, fun b eb => ?_, ?_⟩
          · rw [h5 b nb]
            exact s4 _ _ (kp b o eb nb)
          · rw [more, es]
            exact hg5
          · by_cases c1 : b = gv
            · rw [c1] at eb
              have := hg5
              unfold LI at this
              rw [eb] at this
              cases this
            · rw [h5 b c1] at eb
              exact ext b (s4.free eb)
          · rw [more, es]
            exact rfl
        | some m =>
          rw [hst] at st
          obtain ⟨x, rfl, SA⟩ := st
          have mo := r1 m hst
          have es : stepR (runR (cs.take i)).1 c = (some (stepM m c).1, (stepM m c).2) := by
            rw [hst]
            exact if_neg n0
          rw [es] at r3
          refine ⟨_, rfl, rfl, _, rfl, ?_⟩
          refine iteF ?_
          refine ⟨_, rfl, _, rfl, x, p, c, e, H1, _, m, rfl, SA, mo, hca2, hco, decide_eq_true n0, fun H3 p3 S3 k3 n3 l3 => ?_⟩
          have hg3 : LI H3 gv (runR (cs.take i)).2 := k3 _ _ g0 hg
          have pg : p3 ≠ gv := fun z => g0 (by rw [← z]; exact n3)
          obtain ⟨dxs, a1, d1, rs1, S3⟩ := S3
          refine tail_ok (K := K) (ans := (stepM m c).2) hg3 l3 pg lo r3 (fun H5 h5 hg5 e5 => ?_)
          refine ⟨.ref x, some (.ref p), some (.ref p3), rfl, fun b o eb nb => ?_, ?_, ?_, ?_⟩
          · rw [h5 b nb]
            exact k3 b o (fun z => by rw [eb] at z; cases z) (kp b o eb nb)
          · rw [more, es]
            exact hg5
          · rw [e5]
            exact ((S3.past g0).past g0).ext
          · rw [more, es, e5]
            exact ⟨x, rfl, ((S3.past g0).past g0).at⟩
    · rintro σ H2 ⟨sv, v3, v4, rfl, kp, hg, ext, st⟩
      rw [List.length_map, hq.len, List.take_length] at hg
      exact ⟨_, rfl, k H2 gv hg⟩
end
end Mo
/-! ### 9. The end: what the top has written -/
namespace Mo
open PySem PySem.Spec PyProof.Rows L2
theorem row_mk {K : PySem.W.Frag} {A : Addr} {od : Option Addr} {n : Nat} {sl : Array (Option Value)} {s : Str} {t u : Tok} {i : Int} {b : Bool} (l : K.lookup A = some ⟨.type "tuple", od, .seq #[.str s t, .int i u, .bool b] n, sl⟩) (H : Hp) : SqT K H A [.str s, .int i, .bl b] :=
  .inr ⟨_, _, _, l, rfl, rfl, by show 3 ≤ sizeLine; decide, .cons ⟨_, rfl⟩ (.cons ⟨_, rfl⟩ (.cons rfl .nil))⟩
theorem refs_all : ∀ as : List Addr, Vals (as.map V.ref) (as.map Value.ref)
  | [] => .nil
  | a :: as => .cons rfl (refs_all as)
theorem all_mk {P : Program} {w : World} {K : PySem.W.Frag} {h : Heap} {mg : Str → Option Value} {fa : Addr}
    {C CC F fReadCalls fReadCall fBest fGreat fOut fNeed fProd fParts fSuff fWorth fFeas fLower fPrices fAll fOne fWithin fTotal fAnswers fAnsOf fQuery fInit fHas fAdd fRemove fSet fDemand fSetAll fMin fBestPlan fSurplus fCheck fBP fCP fGap fWithout fIf fMake fOnly fDesc fCInit A0 A1 A2 A3 A4 A5 A6 A7 A8 A9 A10 A11 A12 A13 A14 A15 A16 A17 : Addr} {odReadCalls anReadCalls odReadCall anReadCall odBest anBest odGreat anGreat odOut anOut odNeed anNeed odProd anProd odParts anParts odSuff anSuff odWorth anWorth odFeas anFeas odLower anLower odPrices anPrices odAll anAll odOne anOne odWithin anWithin odTotal anTotal odAnswers anAnswers odAnsOf anAnsOf odQuery anQuery odInit anInit odHas anHas odAdd anAdd odRemove anRemove odSet anSet odDemand anDemand odSetAll anSetAll odMin anMin odBestPlan anBestPlan odSurplus anSurplus odCheck anCheck odBP anBP odCP anCP odGap anGap odWithout anWithout odIf anIf odMake anMake odOnly anOnly odDesc anDesc odCInit anCInit odF odA0 odA1 odA2 odA3 odA4 odA5 odA6 odA7 odA8 odA9 odA10 odA11 odA12 odA13 odA14 odA15 odA16 odA17 : Option Addr} {slReadCalls slReadCall slBest slGreat slOut slNeed slProd slParts slSuff slWorth slFeas slLower slPrices slAll slOne slWithin slTotal slAnswers slAnsOf slQuery slInit slHas slAdd slRemove slSet slDemand slSetAll slMin slBestPlan slSurplus slCheck slBP slCP slGap slWithout slIf slMake slOnly slDesc slCInit slF slA0 slA1 slA2 slA3 slA4 slA5 slA6 slA7 slA8 slA9 slA10 slA11 slA12 slA13 slA14 slA15 slA16 slA17 : Array (Option Value)} {ocReadCalls kVReadCalls dcReadCalls pmReadCalls cdReadCalls ctReadCalls ocReadCall kVReadCall dcReadCall pmReadCall cdReadCall ctReadCall ocBest kVBest dcBest pmBest cdBest ctBest ocGreat kVGreat dcGreat pmGreat cdGreat ctGreat ocOut kVOut dcOut pmOut cdOut ctOut ocNeed kVNeed dcNeed pmNeed cdNeed ctNeed ocProd kVProd dcProd pmProd cdProd ctProd ocParts kVParts dcParts pmParts cdParts ctParts ocSuff kVSuff dcSuff pmSuff cdSuff ctSuff ocWorth kVWorth dcWorth pmWorth cdWorth ctWorth ocFeas kVFeas dcFeas pmFeas cdFeas ctFeas ocLower kVLower dcLower pmLower cdLower ctLower ocPrices kVPrices dcPrices pmPrices cdPrices ctPrices ocAll kVAll dcAll pmAll cdAll ctAll ocOne kVOne dcOne pmOne cdOne ctOne ocWithin kVWithin dcWithin pmWithin cdWithin ctWithin ocTotal kVTotal dcTotal pmTotal cdTotal ctTotal ocAnswers kVAnswers dcAnswers pmAnswers cdAnswers ctAnswers ocAnsOf kVAnsOf dcAnsOf pmAnsOf cdAnsOf ctAnsOf ocQuery kVQuery dcQuery pmQuery cdQuery ctQuery ocInit kVInit dcInit pmInit cdInit ctInit ocHas kVHas dcHas pmHas cdHas ctHas ocAdd kVAdd dcAdd pmAdd cdAdd ctAdd ocRemove kVRemove dcRemove pmRemove cdRemove ctRemove ocSet kVSet dcSet pmSet cdSet ctSet ocDemand kVDemand dcDemand pmDemand cdDemand ctDemand ocSetAll kVSetAll dcSetAll pmSetAll cdSetAll ctSetAll ocMin kVMin dcMin pmMin cdMin ctMin ocBestPlan kVBestPlan dcBestPlan pmBestPlan cdBestPlan ctBestPlan ocSurplus kVSurplus dcSurplus pmSurplus cdSurplus ctSurplus ocCheck kVCheck dcCheck pmCheck cdCheck ctCheck ocBP kVBP dcBP pmBP cdBP ctBP ocCP kVCP dcCP pmCP cdCP ctCP ocGap kVGap dcGap pmGap cdGap ctGap ocWithout kVWithout dcWithout pmWithout cdWithout ctWithout ocIf kVIf dcIf pmIf cdIf ctIf ocMake kVMake dcMake pmMake cdMake ctMake ocOnly kVOnly dcOnly pmOnly cdOnly ctOnly ocDesc kVDesc dcDesc pmDesc cdDesc ctDesc ocCInit kVCInit dcCInit pmCInit cdCInit ctCInit : Value} {tnoInst tnoIndex toutRange ttooMany tnoPlan tkinds tshots tmoulds tyield_ tamount tplanned tmade tlevel tchecked tprice tA0 uA0 tA1 uA1 tA2 uA2 tA3 uA3 tA4 uA4 tA5 uA5 tA6 uA6 tA7 uA7 tA8 uA8 tA9 uA9 tA10 uA10 tA11 uA11 tA12 uA12 tA13 uA13 tA14 uA14 tA15 uA15 tA16 uA16 tA17 uA17 : Tok} {nF nA0 nA1 nA2 nA3 nA4 nA5 nA6 nA7 nA8 nA9 nA10 nA11 nA12 nA13 nA14 nA15 nA16 nA17 : Nat}
    (X : K.In h) (G : h.Ns mainGlobals mg) (hfa : mg "answers" = some (.ref fa))
    (aC : PySem.W.nsIn K mainGlobals "Shop" = some (some (.ref C)))
    (aCC : PySem.W.nsIn K mainGlobals "Call" = some (some (.ref CC)))
    (aReadCalls : PySem.W.nsIn K mainGlobals "read_calls" = some (some (.ref fReadCalls)))
    (lReadCalls : K.lookup fReadCalls = some ⟨ocReadCalls, odReadCalls, .func (PySem.W.fnOf "read_calls" "read_calls" (defArgs (top 3)) (defBody (top 3)) (defScope (top 3)) .none kVReadCalls dcReadCalls pmReadCalls anReadCalls cdReadCalls ctReadCalls), slReadCalls⟩)
    (cReadCalls : PySem.W.codeIn K cdReadCalls "read_calls" = true)
    (kReadCalls : PySem.W.keepIn K (.ref fReadCalls) = true)
    (aReadCall : PySem.W.nsIn K mainGlobals "read_call" = some (some (.ref fReadCall)))
    (lReadCall : K.lookup fReadCall = some ⟨ocReadCall, odReadCall, .func (PySem.W.fnOf "read_call" "read_call" (defArgs (top 4)) (defBody (top 4)) (defScope (top 4)) .none kVReadCall dcReadCall pmReadCall anReadCall cdReadCall ctReadCall), slReadCall⟩)
    (cReadCall : PySem.W.codeIn K cdReadCall "read_call" = true)
    (kReadCall : PySem.W.keepIn K (.ref fReadCall) = true)
    (aBest : PySem.W.nsIn K mainGlobals "find_best_plan" = some (some (.ref fBest)))
    (lBest : K.lookup fBest = some ⟨ocBest, odBest, .func (PySem.W.fnOf "find_best_plan" "find_best_plan" (defArgs (top 13)) (defBody (top 13)) (defScope (top 13)) .none kVBest dcBest pmBest anBest cdBest ctBest), slBest⟩)
    (cBest : PySem.W.codeIn K cdBest "find_best_plan" = true)
    (kBest : PySem.W.keepIn K (.ref fBest) = true)
    (aGreat : PySem.W.nsIn K mainGlobals "greatest_plan" = some (some (.ref fGreat)))
    (lGreat : K.lookup fGreat = some ⟨ocGreat, odGreat, .func (PySem.W.fnOf "greatest_plan" "greatest_plan" (defArgs (top 14)) (defBody (top 14)) (defScope (top 14)) .none kVGreat dcGreat pmGreat anGreat cdGreat ctGreat), slGreat⟩)
    (cGreat : PySem.W.codeIn K cdGreat "greatest_plan" = true)
    (kGreat : PySem.W.keepIn K (.ref fGreat) = true)
    (aOut : PySem.W.nsIn K mainGlobals "is_out_of_reach" = some (some (.ref fOut)))
    (lOut : K.lookup fOut = some ⟨ocOut, odOut, .func (PySem.W.fnOf "is_out_of_reach" "is_out_of_reach" (defArgs (top 15)) (defBody (top 15)) (defScope (top 15)) .none kVOut dcOut pmOut anOut cdOut ctOut), slOut⟩)
    (cOut : PySem.W.codeIn K cdOut "is_out_of_reach" = true)
    (kOut : PySem.W.keepIn K (.ref fOut) = true)
    (aNeed : PySem.W.nsIn K mainGlobals "need_after" = some (some (.ref fNeed)))
    (lNeed : K.lookup fNeed = some ⟨ocNeed, odNeed, .func (PySem.W.fnOf "need_after" "need_after" (defArgs (top 16)) (defBody (top 16)) (defScope (top 16)) .none kVNeed dcNeed pmNeed anNeed cdNeed ctNeed), slNeed⟩)
    (cNeed : PySem.W.codeIn K cdNeed "need_after" = true)
    (kNeed : PySem.W.keepIn K (.ref fNeed) = true)
    (aProd : PySem.W.nsIn K mainGlobals "produced" = some (some (.ref fProd)))
    (lProd : K.lookup fProd = some ⟨ocProd, odProd, .func (PySem.W.fnOf "produced" "produced" (defArgs (top 17)) (defBody (top 17)) (defScope (top 17)) .none kVProd dcProd pmProd anProd cdProd ctProd), slProd⟩)
    (cProd : PySem.W.codeIn K cdProd "produced" = true)
    (kProd : PySem.W.keepIn K (.ref fProd) = true)
    (aParts : PySem.W.nsIn K mainGlobals "parts_of_kind" = some (some (.ref fParts)))
    (lParts : K.lookup fParts = some ⟨ocParts, odParts, .func (PySem.W.fnOf "parts_of_kind" "parts_of_kind" (defArgs (top 18)) (defBody (top 18)) (defScope (top 18)) .none kVParts dcParts pmParts anParts cdParts ctParts), slParts⟩)
    (cParts : PySem.W.codeIn K cdParts "parts_of_kind" = true)
    (kParts : PySem.W.keepIn K (.ref fParts) = true)
    (aSuff : PySem.W.nsIn K mainGlobals "is_sufficient" = some (some (.ref fSuff)))
    (lSuff : K.lookup fSuff = some ⟨ocSuff, odSuff, .func (PySem.W.fnOf "is_sufficient" "is_sufficient" (defArgs (top 19)) (defBody (top 19)) (defScope (top 19)) .none kVSuff dcSuff pmSuff anSuff cdSuff ctSuff), slSuff⟩)
    (cSuff : PySem.W.codeIn K cdSuff "is_sufficient" = true)
    (kSuff : PySem.W.keepIn K (.ref fSuff) = true)
    (aWorth : PySem.W.nsIn K mainGlobals "worth" = some (some (.ref fWorth)))
    (lWorth : K.lookup fWorth = some ⟨ocWorth, odWorth, .func (PySem.W.fnOf "worth" "worth" (defArgs (top 21)) (defBody (top 21)) (defScope (top 21)) .none kVWorth dcWorth pmWorth anWorth cdWorth ctWorth), slWorth⟩)
    (cWorth : PySem.W.codeIn K cdWorth "worth" = true)
    (kWorth : PySem.W.keepIn K (.ref fWorth) = true)
    (aFeas : PySem.W.nsIn K mainGlobals "are_feasible" = some (some (.ref fFeas)))
    (lFeas : K.lookup fFeas = some ⟨ocFeas, odFeas, .func (PySem.W.fnOf "are_feasible" "are_feasible" (defArgs (top 22)) (defBody (top 22)) (defScope (top 22)) .none kVFeas dcFeas pmFeas anFeas cdFeas ctFeas), slFeas⟩)
    (cFeas : PySem.W.codeIn K cdFeas "are_feasible" = true)
    (kFeas : PySem.W.keepIn K (.ref fFeas) = true)
    (aLower : PySem.W.nsIn K mainGlobals "lower_bound" = some (some (.ref fLower)))
    (lLower : K.lookup fLower = some ⟨ocLower, odLower, .func (PySem.W.fnOf "lower_bound" "lower_bound" (defArgs (top 23)) (defBody (top 23)) (defScope (top 23)) .none kVLower dcLower pmLower anLower cdLower ctLower), slLower⟩)
    (cLower : PySem.W.codeIn K cdLower "lower_bound" = true)
    (kLower : PySem.W.keepIn K (.ref fLower) = true)
    (aPrices : PySem.W.nsIn K mainGlobals "find_best_prices" = some (some (.ref fPrices)))
    (lPrices : K.lookup fPrices = some ⟨ocPrices, odPrices, .func (PySem.W.fnOf "find_best_prices" "find_best_prices" (defArgs (top 24)) (defBody (top 24)) (defScope (top 24)) .none kVPrices dcPrices pmPrices anPrices cdPrices ctPrices), slPrices⟩)
    (cPrices : PySem.W.codeIn K cdPrices "find_best_prices" = true)
    (kPrices : PySem.W.keepIn K (.ref fPrices) = true)
    (aAll : PySem.W.nsIn K mainGlobals "all_prices" = some (some (.ref fAll)))
    (lAll : K.lookup fAll = some ⟨ocAll, odAll, .func (PySem.W.fnOf "all_prices" "all_prices" (defArgs (top 25)) (defBody (top 25)) (defScope (top 25)) .none kVAll dcAll pmAll anAll cdAll ctAll), slAll⟩)
    (cAll : PySem.W.codeIn K cdAll "all_prices" = true)
    (kAll : PySem.W.keepIn K (.ref fAll) = true)
    (aOne : PySem.W.nsIn K mainGlobals "with_one_more_price" = some (some (.ref fOne)))
    (lOne : K.lookup fOne = some ⟨ocOne, odOne, .func (PySem.W.fnOf "with_one_more_price" "with_one_more_price" (defArgs (top 26)) (defBody (top 26)) (defScope (top 26)) .none kVOne dcOne pmOne anOne cdOne ctOne), slOne⟩)
    (cOne : PySem.W.codeIn K cdOne "with_one_more_price" = true)
    (kOne : PySem.W.keepIn K (.ref fOne) = true)
    (aWithin : PySem.W.nsIn K mainGlobals "all_within" = some (some (.ref fWithin)))
    (lWithin : K.lookup fWithin = some ⟨ocWithin, odWithin, .func (PySem.W.fnOf "all_within" "all_within" (defArgs (top 36)) (defBody (top 36)) (defScope (top 36)) .none kVWithin dcWithin pmWithin anWithin cdWithin ctWithin), slWithin⟩)
    (cWithin : PySem.W.codeIn K cdWithin "all_within" = true)
    (kWithin : PySem.W.keepIn K (.ref fWithin) = true)
    (aTotal : PySem.W.nsIn K mainGlobals "total_of_best_plan" = some (some (.ref fTotal)))
    (lTotal : K.lookup fTotal = some ⟨ocTotal, odTotal, .func (PySem.W.fnOf "total_of_best_plan" "total_of_best_plan" (defArgs (top 37)) (defBody (top 37)) (defScope (top 37)) .none kVTotal dcTotal pmTotal anTotal cdTotal ctTotal), slTotal⟩)
    (cTotal : PySem.W.codeIn K cdTotal "total_of_best_plan" = true)
    (kTotal : PySem.W.keepIn K (.ref fTotal) = true)
    (aAnswers : PySem.W.nsIn K mainGlobals "answers" = some (some (.ref fAnswers)))
    (lAnswers : K.lookup fAnswers = some ⟨ocAnswers, odAnswers, .func (PySem.W.fnOf "answers" "answers" (defArgs (top 40)) (defBody (top 40)) (defScope (top 40)) .none kVAnswers dcAnswers pmAnswers anAnswers cdAnswers ctAnswers), slAnswers⟩)
    (cAnswers : PySem.W.codeIn K cdAnswers "answers" = true)
    (kAnswers : PySem.W.keepIn K (.ref fAnswers) = true)
    (aAnsOf : PySem.W.nsIn K mainGlobals "answer_of" = some (some (.ref fAnsOf)))
    (lAnsOf : K.lookup fAnsOf = some ⟨ocAnsOf, odAnsOf, .func (PySem.W.fnOf "answer_of" "answer_of" (defArgs (top 41)) (defBody (top 41)) (defScope (top 41)) .none kVAnsOf dcAnsOf pmAnsOf anAnsOf cdAnsOf ctAnsOf), slAnsOf⟩)
    (cAnsOf : PySem.W.codeIn K cdAnsOf "answer_of" = true)
    (kAnsOf : PySem.W.keepIn K (.ref fAnsOf) = true)
    (aQuery : PySem.W.nsIn K mainGlobals "answer_of_query" = some (some (.ref fQuery)))
    (lQuery : K.lookup fQuery = some ⟨ocQuery, odQuery, .func (PySem.W.fnOf "answer_of_query" "answer_of_query" (defArgs (top 42)) (defBody (top 42)) (defScope (top 42)) .none kVQuery dcQuery pmQuery anQuery cdQuery ctQuery), slQuery⟩)
    (cQuery : PySem.W.codeIn K cdQuery "answer_of_query" = true)
    (kQuery : PySem.W.keepIn K (.ref fQuery) = true)
    (aInit : PySem.W.findIn K (.ref C) "__init__" = some (some (.ref fInit)))
    (iInit : PySem.W.isFn K (.ref fInit) = true)
    (lInit : K.lookup fInit = some ⟨ocInit, odInit, .func (PySem.W.fnOf "__init__" "Shop.__init__" (defArgs (mS 0)) (defBody (mS 0)) (defScope (mS 0)) .none kVInit dcInit pmInit anInit cdInit ctInit), slInit⟩)
    (cInit : PySem.W.codeIn K cdInit "Shop.__init__" = true)
    (kInit : PySem.W.keepIn K (.ref fInit) = true)
    (aHas : PySem.W.findIn K (.ref C) "has_mould" = some (some (.ref fHas)))
    (iHas : PySem.W.isFn K (.ref fHas) = true)
    (lHas : K.lookup fHas = some ⟨ocHas, odHas, .func (PySem.W.fnOf "has_mould" "Shop.has_mould" (defArgs (mS 1)) (defBody (mS 1)) (defScope (mS 1)) .none kVHas dcHas pmHas anHas cdHas ctHas), slHas⟩)
    (cHas : PySem.W.codeIn K cdHas "Shop.has_mould" = true)
    (kHas : PySem.W.keepIn K (.ref fHas) = true)
    (aAdd : PySem.W.findIn K (.ref C) "add_mould" = some (some (.ref fAdd)))
    (iAdd : PySem.W.isFn K (.ref fAdd) = true)
    (lAdd : K.lookup fAdd = some ⟨ocAdd, odAdd, .func (PySem.W.fnOf "add_mould" "Shop.add_mould" (defArgs (mS 2)) (defBody (mS 2)) (defScope (mS 2)) .none kVAdd dcAdd pmAdd anAdd cdAdd ctAdd), slAdd⟩)
    (cAdd : PySem.W.codeIn K cdAdd "Shop.add_mould" = true)
    (kAdd : PySem.W.keepIn K (.ref fAdd) = true)
    (aRemove : PySem.W.findIn K (.ref C) "remove_mould" = some (some (.ref fRemove)))
    (iRemove : PySem.W.isFn K (.ref fRemove) = true)
    (lRemove : K.lookup fRemove = some ⟨ocRemove, odRemove, .func (PySem.W.fnOf "remove_mould" "Shop.remove_mould" (defArgs (mS 3)) (defBody (mS 3)) (defScope (mS 3)) .none kVRemove dcRemove pmRemove anRemove cdRemove ctRemove), slRemove⟩)
    (cRemove : PySem.W.codeIn K cdRemove "Shop.remove_mould" = true)
    (kRemove : PySem.W.keepIn K (.ref fRemove) = true)
    (aSet : PySem.W.findIn K (.ref C) "set_mould" = some (some (.ref fSet)))
    (iSet : PySem.W.isFn K (.ref fSet) = true)
    (lSet : K.lookup fSet = some ⟨ocSet, odSet, .func (PySem.W.fnOf "set_mould" "Shop.set_mould" (defArgs (mS 4)) (defBody (mS 4)) (defScope (mS 4)) .none kVSet dcSet pmSet anSet cdSet ctSet), slSet⟩)
    (cSet : PySem.W.codeIn K cdSet "Shop.set_mould" = true)
    (kSet : PySem.W.keepIn K (.ref fSet) = true)
    (aDemand : PySem.W.findIn K (.ref C) "set_demand" = some (some (.ref fDemand)))
    (iDemand : PySem.W.isFn K (.ref fDemand) = true)
    (lDemand : K.lookup fDemand = some ⟨ocDemand, odDemand, .func (PySem.W.fnOf "set_demand" "Shop.set_demand" (defArgs (mS 5)) (defBody (mS 5)) (defScope (mS 5)) .none kVDemand dcDemand pmDemand anDemand cdDemand ctDemand), slDemand⟩)
    (cDemand : PySem.W.codeIn K cdDemand "Shop.set_demand" = true)
    (kDemand : PySem.W.keepIn K (.ref fDemand) = true)
    (aSetAll : PySem.W.findIn K (.ref C) "set_all_demand" = some (some (.ref fSetAll)))
    (iSetAll : PySem.W.isFn K (.ref fSetAll) = true)
    (lSetAll : K.lookup fSetAll = some ⟨ocSetAll, odSetAll, .func (PySem.W.fnOf "set_all_demand" "Shop.set_all_demand" (defArgs (mS 6)) (defBody (mS 6)) (defScope (mS 6)) .none kVSetAll dcSetAll pmSetAll anSetAll cdSetAll ctSetAll), slSetAll⟩)
    (cSetAll : PySem.W.codeIn K cdSetAll "Shop.set_all_demand" = true)
    (kSetAll : PySem.W.keepIn K (.ref fSetAll) = true)
    (aMin : PySem.W.findIn K (.ref C) "min_shots" = some (some (.ref fMin)))
    (iMin : PySem.W.isFn K (.ref fMin) = true)
    (lMin : K.lookup fMin = some ⟨ocMin, odMin, .func (PySem.W.fnOf "min_shots" "Shop.min_shots" (defArgs (mS 7)) (defBody (mS 7)) (defScope (mS 7)) .none kVMin dcMin pmMin anMin cdMin ctMin), slMin⟩)
    (cMin : PySem.W.codeIn K cdMin "Shop.min_shots" = true)
    (kMin : PySem.W.keepIn K (.ref fMin) = true)
    (aBestPlan : PySem.W.findIn K (.ref C) "best_plan" = some (some (.ref fBestPlan)))
    (iBestPlan : PySem.W.isFn K (.ref fBestPlan) = true)
    (lBestPlan : K.lookup fBestPlan = some ⟨ocBestPlan, odBestPlan, .func (PySem.W.fnOf "best_plan" "Shop.best_plan" (defArgs (mS 8)) (defBody (mS 8)) (defScope (mS 8)) .none kVBestPlan dcBestPlan pmBestPlan anBestPlan cdBestPlan ctBestPlan), slBestPlan⟩)
    (cBestPlan : PySem.W.codeIn K cdBestPlan "Shop.best_plan" = true)
    (kBestPlan : PySem.W.keepIn K (.ref fBestPlan) = true)
    (aSurplus : PySem.W.findIn K (.ref C) "surplus" = some (some (.ref fSurplus)))
    (iSurplus : PySem.W.isFn K (.ref fSurplus) = true)
    (lSurplus : K.lookup fSurplus = some ⟨ocSurplus, odSurplus, .func (PySem.W.fnOf "surplus" "Shop.surplus" (defArgs (mS 9)) (defBody (mS 9)) (defScope (mS 9)) .none kVSurplus dcSurplus pmSurplus anSurplus cdSurplus ctSurplus), slSurplus⟩)
    (cSurplus : PySem.W.codeIn K cdSurplus "Shop.surplus" = true)
    (kSurplus : PySem.W.keepIn K (.ref fSurplus) = true)
    (aCheck : PySem.W.findIn K (.ref C) "check_plan" = some (some (.ref fCheck)))
    (iCheck : PySem.W.isFn K (.ref fCheck) = true)
    (lCheck : K.lookup fCheck = some ⟨ocCheck, odCheck, .func (PySem.W.fnOf "check_plan" "Shop.check_plan" (defArgs (mS 10)) (defBody (mS 10)) (defScope (mS 10)) .none kVCheck dcCheck pmCheck anCheck cdCheck ctCheck), slCheck⟩)
    (cCheck : PySem.W.codeIn K cdCheck "Shop.check_plan" = true)
    (kCheck : PySem.W.keepIn K (.ref fCheck) = true)
    (aBP : PySem.W.findIn K (.ref C) "best_prices" = some (some (.ref fBP)))
    (iBP : PySem.W.isFn K (.ref fBP) = true)
    (lBP : K.lookup fBP = some ⟨ocBP, odBP, .func (PySem.W.fnOf "best_prices" "Shop.best_prices" (defArgs (mS 11)) (defBody (mS 11)) (defScope (mS 11)) .none kVBP dcBP pmBP anBP cdBP ctBP), slBP⟩)
    (cBP : PySem.W.codeIn K cdBP "Shop.best_prices" = true)
    (kBP : PySem.W.keepIn K (.ref fBP) = true)
    (aCP : PySem.W.findIn K (.ref C) "check_prices" = some (some (.ref fCP)))
    (iCP : PySem.W.isFn K (.ref fCP) = true)
    (lCP : K.lookup fCP = some ⟨ocCP, odCP, .func (PySem.W.fnOf "check_prices" "Shop.check_prices" (defArgs (mS 12)) (defBody (mS 12)) (defScope (mS 12)) .none kVCP dcCP pmCP anCP cdCP ctCP), slCP⟩)
    (cCP : PySem.W.codeIn K cdCP "Shop.check_prices" = true)
    (kCP : PySem.W.keepIn K (.ref fCP) = true)
    (aGap : PySem.W.findIn K (.ref C) "duality_gap" = some (some (.ref fGap)))
    (iGap : PySem.W.isFn K (.ref fGap) = true)
    (lGap : K.lookup fGap = some ⟨ocGap, odGap, .func (PySem.W.fnOf "duality_gap" "Shop.duality_gap" (defArgs (mS 13)) (defBody (mS 13)) (defScope (mS 13)) .none kVGap dcGap pmGap anGap cdGap ctGap), slGap⟩)
    (cGap : PySem.W.codeIn K cdGap "Shop.duality_gap" = true)
    (kGap : PySem.W.keepIn K (.ref fGap) = true)
    (aWithout : PySem.W.findIn K (.ref C) "min_shots_without" = some (some (.ref fWithout)))
    (iWithout : PySem.W.isFn K (.ref fWithout) = true)
    (lWithout : K.lookup fWithout = some ⟨ocWithout, odWithout, .func (PySem.W.fnOf "min_shots_without" "Shop.min_shots_without" (defArgs (mS 14)) (defBody (mS 14)) (defScope (mS 14)) .none kVWithout dcWithout pmWithout anWithout cdWithout ctWithout), slWithout⟩)
    (cWithout : PySem.W.codeIn K cdWithout "Shop.min_shots_without" = true)
    (kWithout : PySem.W.keepIn K (.ref fWithout) = true)
    (aIf : PySem.W.findIn K (.ref C) "min_shots_if" = some (some (.ref fIf)))
    (iIf : PySem.W.isFn K (.ref fIf) = true)
    (lIf : K.lookup fIf = some ⟨ocIf, odIf, .func (PySem.W.fnOf "min_shots_if" "Shop.min_shots_if" (defArgs (mS 15)) (defBody (mS 15)) (defScope (mS 15)) .none kVIf dcIf pmIf anIf cdIf ctIf), slIf⟩)
    (cIf : PySem.W.codeIn K cdIf "Shop.min_shots_if" = true)
    (kIf : PySem.W.keepIn K (.ref fIf) = true)
    (aMake : PySem.W.findIn K (.ref C) "make_shots" = some (some (.ref fMake)))
    (iMake : PySem.W.isFn K (.ref fMake) = true)
    (lMake : K.lookup fMake = some ⟨ocMake, odMake, .func (PySem.W.fnOf "make_shots" "Shop.make_shots" (defArgs (mS 16)) (defBody (mS 16)) (defScope (mS 16)) .none kVMake dcMake pmMake anMake cdMake ctMake), slMake⟩)
    (cMake : PySem.W.codeIn K cdMake "Shop.make_shots" = true)
    (kMake : PySem.W.keepIn K (.ref fMake) = true)
    (aOnly : PySem.W.findIn K (.ref C) "min_shots_with_only" = some (some (.ref fOnly)))
    (iOnly : PySem.W.isFn K (.ref fOnly) = true)
    (lOnly : K.lookup fOnly = some ⟨ocOnly, odOnly, .func (PySem.W.fnOf "min_shots_with_only" "Shop.min_shots_with_only" (defArgs (mS 17)) (defBody (mS 17)) (defScope (mS 17)) .none kVOnly dcOnly pmOnly anOnly cdOnly ctOnly), slOnly⟩)
    (cOnly : PySem.W.codeIn K cdOnly "Shop.min_shots_with_only" = true)
    (kOnly : PySem.W.keepIn K (.ref fOnly) = true)
    (aDesc : PySem.W.findIn K (.ref C) "describe" = some (some (.ref fDesc)))
    (iDesc : PySem.W.isFn K (.ref fDesc) = true)
    (lDesc : K.lookup fDesc = some ⟨ocDesc, odDesc, .func (PySem.W.fnOf "describe" "Shop.describe" (defArgs (mS 18)) (defBody (mS 18)) (defScope (mS 18)) .none kVDesc dcDesc pmDesc anDesc cdDesc ctDesc), slDesc⟩)
    (cDesc : PySem.W.codeIn K cdDesc "Shop.describe" = true)
    (kDesc : PySem.W.keepIn K (.ref fDesc) = true)
    (spg : PySem.W.plainGet K C Str.empty = true)
    (shd : PySem.W.hasDictIn K C = true)
    (spo : PySem.W.plainOver K C = true)
    (ssa : PySem.W.findIn K (.ref C) "__setattr__" = some (some (.builtin "object.__setattr__")))
    (smk : PySem.W.makesIn K C = true)
    (skc : PySem.W.keepIn K (.ref C) = true)
    (nM : PySem.W.findIn K (.ref C) "moulds" = some none)
    (nD : PySem.W.findIn K (.ref C) "demand" = some none)
    (aCInit : PySem.W.findIn K (.ref CC) "__init__" = some (some (.ref fCInit)))
    (iCInit : PySem.W.isFn K (.ref fCInit) = true)
    (lCInit : K.lookup fCInit = some ⟨ocCInit, odCInit, .func (PySem.W.fnOf "__init__" "Call.__init__" (defArgs sCInit) (defBody sCInit) (defScope sCInit) .none kVCInit dcCInit pmCInit anCInit cdCInit ctCInit), slCInit⟩)
    (cCInit : PySem.W.codeIn K cdCInit "Call.__init__" = true)
    (kCInit : PySem.W.keepIn K (.ref fCInit) = true)
    (rpg : PySem.W.plainGet K CC Str.empty = true)
    (rhd : PySem.W.hasDictIn K CC = true)
    (rpo : PySem.W.plainOver K CC = true)
    (rsa : PySem.W.findIn K (.ref CC) "__setattr__" = some (some (.builtin "object.__setattr__")))
    (rmk : PySem.W.makesIn K CC = true)
    (rkc : PySem.W.keepIn K (.ref CC) = true)
    (cN : PySem.W.findIn K (.ref CC) "name" = some none)
    (cS : PySem.W.findIn K (.ref CC) "singles" = some none)
    (cR : PySem.W.findIn K (.ref CC) "row" = some none)
    (cE : PySem.W.findIn K (.ref CC) "end" = some none)
    (vnoInst : PySem.W.nsIn K mainGlobals "NO_INSTANCE" = some (some (.int (-11) tnoInst)))
    (vnoIndex : PySem.W.nsIn K mainGlobals "NO_SUCH_INDEX" = some (some (.int (-2) tnoIndex)))
    (voutRange : PySem.W.nsIn K mainGlobals "OUT_OF_RANGE" = some (some (.int (-22) toutRange)))
    (vtooMany : PySem.W.nsIn K mainGlobals "TOO_MANY_MOULDS" = some (some (.int (-28) ttooMany)))
    (vnoPlan : PySem.W.nsIn K mainGlobals "NO_BEST_PLAN" = some (some (.int (-33) tnoPlan)))
    (vkinds : PySem.W.nsIn K mainGlobals "PART_KINDS" = some (some (.int 3 tkinds)))
    (vshots : PySem.W.nsIn K mainGlobals "MOST_SHOTS" = some (some (.int 20 tshots)))
    (vmoulds : PySem.W.nsIn K mainGlobals "MOST_MOULDS" = some (some (.int 4 tmoulds)))
    (vyield_ : PySem.W.nsIn K mainGlobals "MOST_YIELD" = some (some (.int 6 tyield_)))
    (vamount : PySem.W.nsIn K mainGlobals "MOST_AMOUNT" = some (some (.int 40 tamount)))
    (vplanned : PySem.W.nsIn K mainGlobals "MOST_PLANNED" = some (some (.int 99 tplanned)))
    (vmade : PySem.W.nsIn K mainGlobals "MOST_MADE" = some (some (.int 20 tmade)))
    (vlevel : PySem.W.nsIn K mainGlobals "MOST_LEVEL" = some (some (.int 6 tlevel)))
    (vchecked : PySem.W.nsIn K mainGlobals "MOST_LEVEL_CHECKED" = some (some (.int 999 tchecked)))
    (vprice : PySem.W.nsIn K mainGlobals "MOST_PRICE" = some (some (.int 999 tprice)))
    (zrange : PySem.W.nsIn K mainGlobals "range" = some none)
    (zlen : PySem.W.nsIn K mainGlobals "len" = some none)
    (zmax : PySem.W.nsIn K mainGlobals "max" = some none)
    (zsum : PySem.W.nsIn K mainGlobals "sum" = some none)
    (zall : PySem.W.nsIn K mainGlobals "all" = some none)
    (zzip : PySem.W.nsIn K mainGlobals "zip" = some none)
    (zlist : PySem.W.nsIn K mainGlobals "list" = some none)
    (aF : PySem.W.nsIn K mainGlobals "FORMS" = some (some (.ref F)))
    (lF : K.lookup F = some ⟨.type "tuple", odF, .seq #[.ref A0, .ref A1, .ref A2, .ref A3, .ref A4, .ref A5, .ref A6, .ref A7, .ref A8, .ref A9, .ref A10, .ref A11, .ref A12, .ref A13, .ref A14, .ref A15, .ref A16, .ref A17] nF, slF⟩)
    (lA0 : K.lookup A0 = some ⟨.type "tuple", odA0, .seq #[.str "create" tA0, .int 0 uA0, .bool false] nA0, slA0⟩)
    (lA1 : K.lookup A1 = some ⟨.type "tuple", odA1, .seq #[.str "add_mould" tA1, .int 3 uA1, .bool false] nA1, slA1⟩)
    (lA2 : K.lookup A2 = some ⟨.type "tuple", odA2, .seq #[.str "remove_mould" tA2, .int 1 uA2, .bool false] nA2, slA2⟩)
    (lA3 : K.lookup A3 = some ⟨.type "tuple", odA3, .seq #[.str "set_mould" tA3, .int 4 uA3, .bool false] nA3, slA3⟩)
    (lA4 : K.lookup A4 = some ⟨.type "tuple", odA4, .seq #[.str "set_demand" tA4, .int 2 uA4, .bool false] nA4, slA4⟩)
    (lA5 : K.lookup A5 = some ⟨.type "tuple", odA5, .seq #[.str "set_all_demand" tA5, .int 0 uA5, .bool true] nA5, slA5⟩)
    (lA6 : K.lookup A6 = some ⟨.type "tuple", odA6, .seq #[.str "min_shots" tA6, .int 0 uA6, .bool false] nA6, slA6⟩)
    (lA7 : K.lookup A7 = some ⟨.type "tuple", odA7, .seq #[.str "best_plan" tA7, .int 0 uA7, .bool false] nA7, slA7⟩)
    (lA8 : K.lookup A8 = some ⟨.type "tuple", odA8, .seq #[.str "surplus" tA8, .int 0 uA8, .bool false] nA8, slA8⟩)
    (lA9 : K.lookup A9 = some ⟨.type "tuple", odA9, .seq #[.str "check_plan" tA9, .int 0 uA9, .bool true] nA9, slA9⟩)
    (lA10 : K.lookup A10 = some ⟨.type "tuple", odA10, .seq #[.str "best_prices" tA10, .int 1 uA10, .bool false] nA10, slA10⟩)
    (lA11 : K.lookup A11 = some ⟨.type "tuple", odA11, .seq #[.str "check_prices" tA11, .int 1 uA11, .bool true] nA11, slA11⟩)
    (lA12 : K.lookup A12 = some ⟨.type "tuple", odA12, .seq #[.str "duality_gap" tA12, .int 1 uA12, .bool false] nA12, slA12⟩)
    (lA13 : K.lookup A13 = some ⟨.type "tuple", odA13, .seq #[.str "min_shots_without" tA13, .int 1 uA13, .bool false] nA13, slA13⟩)
    (lA14 : K.lookup A14 = some ⟨.type "tuple", odA14, .seq #[.str "min_shots_if" tA14, .int 2 uA14, .bool false] nA14, slA14⟩)
    (lA15 : K.lookup A15 = some ⟨.type "tuple", odA15, .seq #[.str "make_shots" tA15, .int 2 uA15, .bool false] nA15, slA15⟩)
    (lA16 : K.lookup A16 = some ⟨.type "tuple", odA16, .seq #[.str "min_shots_with_only" tA16, .int 1 uA16, .bool false] nA16, slA16⟩)
    (lA17 : K.lookup A17 = some ⟨.type "tuple", odA17, .seq #[.str "describe" tA17, .int 0 uA17, .bool false] nA17, slA17⟩) :
    ∃ fd : FuncData, (∀ (s : Shared) (us : List Value), us.length = (["calls"] : List Str).length → BindsTo s fd ⟨us, []⟩ ((["calls"] : List Str).zip us)) ∧ ∀ base : Heap, K.In base → base.Ns mainGlobals mg → FnOk P w K mg base CX0 13 fa fd ["calls"] (spAnswers K) := by
  have e := hfa.symm.trans (PySem.W.mg_of X G aAnswers)
  cases e
  have T : Txt mg := ⟨PySem.W.mg_none_of X G zrange, PySem.W.mg_none_of X G zlen, PySem.W.mg_none_of X G zmax, PySem.W.mg_none_of X G zsum, PySem.W.mg_none_of X G zall, PySem.W.mg_none_of X G zzip, PySem.W.mg_none_of X G zlist, ⟨_, PySem.W.mg_of X G vnoInst⟩, ⟨_, PySem.W.mg_of X G vnoIndex⟩, ⟨_, PySem.W.mg_of X G voutRange⟩, ⟨_, PySem.W.mg_of X G vtooMany⟩, ⟨_, PySem.W.mg_of X G vnoPlan⟩, ⟨_, PySem.W.mg_of X G vkinds⟩, ⟨_, PySem.W.mg_of X G vshots⟩, ⟨_, PySem.W.mg_of X G vmoulds⟩, ⟨_, PySem.W.mg_of X G vyield_⟩, ⟨_, PySem.W.mg_of X G vamount⟩, ⟨_, PySem.W.mg_of X G vplanned⟩, ⟨_, PySem.W.mg_of X G vmade⟩, ⟨_, PySem.W.mg_of X G vlevel⟩, ⟨_, PySem.W.mg_of X G vchecked⟩, ⟨_, PySem.W.mg_of X G vprice⟩⟩
  have TS : TxtS K mg C := ⟨T, ⟨spg, shd, spo, ssa⟩, nM, nD⟩
  have TC : TxtC K mg CC := ⟨T, ⟨rpg, rhd, rpo, rsa⟩, cN, cS, cR, cE⟩
  have FF : Forms K mg F [A0, A1, A2, A3, A4, A5, A6, A7, A8, A9, A10, A11, A12, A13, A14, A15, A16, A17] := by
    refine ⟨PySem.W.mg_of X G aF, fun H => .inr ⟨_, _, _, lF, rfl, rfl, by show 18 ≤ sizeLine; decide, refs_all [A0, A1, A2, A3, A4, A5, A6, A7, A8, A9, A10, A11, A12, A13, A14, A15, A16, A17]⟩, fun k hk => ?_⟩
    match k, hk with
    | 0, _ => exact ⟨A0, rfl, fun H => row_mk lA0 H⟩
    | 1, _ => exact ⟨A1, rfl, fun H => row_mk lA1 H⟩
    | 2, _ => exact ⟨A2, rfl, fun H => row_mk lA2 H⟩
    | 3, _ => exact ⟨A3, rfl, fun H => row_mk lA3 H⟩
    | 4, _ => exact ⟨A4, rfl, fun H => row_mk lA4 H⟩
    | 5, _ => exact ⟨A5, rfl, fun H => row_mk lA5 H⟩
    | 6, _ => exact ⟨A6, rfl, fun H => row_mk lA6 H⟩
    | 7, _ => exact ⟨A7, rfl, fun H => row_mk lA7 H⟩
    | 8, _ => exact ⟨A8, rfl, fun H => row_mk lA8 H⟩
    | 9, _ => exact ⟨A9, rfl, fun H => row_mk lA9 H⟩
    | 10, _ => exact ⟨A10, rfl, fun H => row_mk lA10 H⟩
    | 11, _ => exact ⟨A11, rfl, fun H => row_mk lA11 H⟩
    | 12, _ => exact ⟨A12, rfl, fun H => row_mk lA12 H⟩
    | 13, _ => exact ⟨A13, rfl, fun H => row_mk lA13 H⟩
    | 14, _ => exact ⟨A14, rfl, fun H => row_mk lA14 H⟩
    | 15, _ => exact ⟨A15, rfl, fun H => row_mk lA15 H⟩
    | 16, _ => exact ⟨A16, rfl, fun H => row_mk lA16 H⟩
    | 17, _ => exact ⟨A17, rfl, fun H => row_mk lA17 H⟩
    | k + 18, h => exact absurd h (by omega)
  have FReadCalls := fun_mk (st := top 3) lReadCalls cReadCalls kReadCalls
  have bReadCalls := FReadCalls.binds (ps := ["numbers"]) fun _ _ _ _ _ _ us hl => match us, hl with | [_], _ => rfl
  have FReadCall := fun_mk (st := top 4) lReadCall cReadCall kReadCall
  have bReadCall := FReadCall.binds (ps := ["numbers", "place"]) fun _ _ _ _ _ _ us hl => match us, hl with | [_, _], _ => rfl
  have FBest := fun_mk (st := top 13) lBest cBest kBest
  have bBest := FBest.binds (ps := ["moulds", "demand"]) fun _ _ _ _ _ _ us hl => match us, hl with | [_, _], _ => rfl
  have FGreat := fun_mk (st := top 14) lGreat cGreat kGreat
  have bGreat := FGreat.binds (ps := ["moulds", "need", "total"]) fun _ _ _ _ _ _ us hl => match us, hl with | [_, _, _], _ => rfl
  have FOut := fun_mk (st := top 15) lOut cOut kOut
  have bOut := FOut.binds (ps := ["moulds", "need", "total"]) fun _ _ _ _ _ _ us hl => match us, hl with | [_, _, _], _ => rfl
  have FNeed := fun_mk (st := top 16) lNeed cNeed kNeed
  have bNeed := FNeed.binds (ps := ["need", "mould", "shots"]) fun _ _ _ _ _ _ us hl => match us, hl with | [_, _, _], _ => rfl
  have FProd := fun_mk (st := top 17) lProd cProd kProd
  have bProd := FProd.binds (ps := ["moulds", "plan"]) fun _ _ _ _ _ _ us hl => match us, hl with | [_, _], _ => rfl
  have FParts := fun_mk (st := top 18) lParts cParts kParts
  have bParts := FParts.binds (ps := ["moulds", "plan", "j"]) fun _ _ _ _ _ _ us hl => match us, hl with | [_, _, _], _ => rfl
  have FSuff := fun_mk (st := top 19) lSuff cSuff kSuff
  have bSuff := FSuff.binds (ps := ["parts", "demand"]) fun _ _ _ _ _ _ us hl => match us, hl with | [_, _], _ => rfl
  have FWorth := fun_mk (st := top 21) lWorth cWorth kWorth
  have bWorth := FWorth.binds (ps := ["prices", "parts"]) fun _ _ _ _ _ _ us hl => match us, hl with | [_, _], _ => rfl
  have FFeas := fun_mk (st := top 22) lFeas cFeas kFeas
  have bFeas := FFeas.binds (ps := ["moulds", "level", "prices"]) fun _ _ _ _ _ _ us hl => match us, hl with | [_, _, _], _ => rfl
  have FLower := fun_mk (st := top 23) lLower cLower kLower
  have bLower := FLower.binds (ps := ["demand", "level", "prices"]) fun _ _ _ _ _ _ us hl => match us, hl with | [_, _, _], _ => rfl
  have FPrices := fun_mk (st := top 24) lPrices cPrices kPrices
  have bPrices := FPrices.binds (ps := ["moulds", "demand", "level"]) fun _ _ _ _ _ _ us hl => match us, hl with | [_, _, _], _ => rfl
  have FAll := fun_mk (st := top 25) lAll cAll kAll
  have bAll := FAll.binds (ps := ["level"]) fun _ _ _ _ _ _ us hl => match us, hl with | [_], _ => rfl
  have FOne := fun_mk (st := top 26) lOne cOne kOne
  have bOne := FOne.binds (ps := ["lists", "level"]) fun _ _ _ _ _ _ us hl => match us, hl with | [_, _], _ => rfl
  have FWithin := fun_mk (st := top 36) lWithin cWithin kWithin
  have bWithin := FWithin.binds (ps := ["numbers", "most"]) fun _ _ _ _ _ _ us hl => match us, hl with | [_, _], _ => rfl
  have FTotal := fun_mk (st := top 37) lTotal cTotal kTotal
  have bTotal := FTotal.binds (ps := ["moulds", "demand"]) fun _ _ _ _ _ _ us hl => match us, hl with | [_, _], _ => rfl
  have FAnswers := fun_mk (st := top 40) lAnswers cAnswers kAnswers
  have FAnsOf := fun_mk (st := top 41) lAnsOf cAnsOf kAnsOf
  have bAnsOf := FAnsOf.binds (ps := ["shop", "call"]) fun _ _ _ _ _ _ us hl => match us, hl with | [_, _], _ => rfl
  have FQuery := fun_mk (st := top 42) lQuery cQuery kQuery
  have bQuery := FQuery.binds (ps := ["shop", "call"]) fun _ _ _ _ _ _ us hl => match us, hl with | [_, _], _ => rfl
  have FInit := fun_mk (st := mS 0) lInit cInit kInit
  have bInit := FInit.binds (ps := ["self"]) fun _ _ _ _ _ _ us hl => match us, hl with | [_], _ => rfl
  have FHas := fun_mk (st := mS 1) lHas cHas kHas
  have bHas := FHas.binds (ps := ["self", "i"]) fun _ _ _ _ _ _ us hl => match us, hl with | [_, _], _ => rfl
  have FAdd := fun_mk (st := mS 2) lAdd cAdd kAdd
  have bAdd := FAdd.binds (ps := ["self", "yields"]) fun _ _ _ _ _ _ us hl => match us, hl with | [_, _], _ => rfl
  have FRemove := fun_mk (st := mS 3) lRemove cRemove kRemove
  have bRemove := FRemove.binds (ps := ["self", "i"]) fun _ _ _ _ _ _ us hl => match us, hl with | [_, _], _ => rfl
  have FSet := fun_mk (st := mS 4) lSet cSet kSet
  have bSet := FSet.binds (ps := ["self", "i", "yields"]) fun _ _ _ _ _ _ us hl => match us, hl with | [_, _, _], _ => rfl
  have FDemand := fun_mk (st := mS 5) lDemand cDemand kDemand
  have bDemand := FDemand.binds (ps := ["self", "j", "amount"]) fun _ _ _ _ _ _ us hl => match us, hl with | [_, _, _], _ => rfl
  have FSetAll := fun_mk (st := mS 6) lSetAll cSetAll kSetAll
  have bSetAll := FSetAll.binds (ps := ["self", "amounts"]) fun _ _ _ _ _ _ us hl => match us, hl with | [_, _], _ => rfl
  have FMin := fun_mk (st := mS 7) lMin cMin kMin
  have bMin := FMin.binds (ps := ["self"]) fun _ _ _ _ _ _ us hl => match us, hl with | [_], _ => rfl
  have FBestPlan := fun_mk (st := mS 8) lBestPlan cBestPlan kBestPlan
  have bBestPlan := FBestPlan.binds (ps := ["self"]) fun _ _ _ _ _ _ us hl => match us, hl with | [_], _ => rfl
  have FSurplus := fun_mk (st := mS 9) lSurplus cSurplus kSurplus
  have bSurplus := FSurplus.binds (ps := ["self"]) fun _ _ _ _ _ _ us hl => match us, hl with | [_], _ => rfl
  have FCheck := fun_mk (st := mS 10) lCheck cCheck kCheck
  have bCheck := FCheck.binds (ps := ["self", "plan"]) fun _ _ _ _ _ _ us hl => match us, hl with | [_, _], _ => rfl
  have FBP := fun_mk (st := mS 11) lBP cBP kBP
  have bBP := FBP.binds (ps := ["self", "level"]) fun _ _ _ _ _ _ us hl => match us, hl with | [_, _], _ => rfl
  have FCP := fun_mk (st := mS 12) lCP cCP kCP
  have bCP := FCP.binds (ps := ["self", "level", "prices"]) fun _ _ _ _ _ _ us hl => match us, hl with | [_, _, _], _ => rfl
  have FGap := fun_mk (st := mS 13) lGap cGap kGap
  have bGap := FGap.binds (ps := ["self", "level"]) fun _ _ _ _ _ _ us hl => match us, hl with | [_, _], _ => rfl
  have FWithout := fun_mk (st := mS 14) lWithout cWithout kWithout
  have bWithout := FWithout.binds (ps := ["self", "i"]) fun _ _ _ _ _ _ us hl => match us, hl with | [_, _], _ => rfl
  have FIf := fun_mk (st := mS 15) lIf cIf kIf
  have bIf := FIf.binds (ps := ["self", "j", "amount"]) fun _ _ _ _ _ _ us hl => match us, hl with | [_, _, _], _ => rfl
  have FMake := fun_mk (st := mS 16) lMake cMake kMake
  have bMake := FMake.binds (ps := ["self", "i", "n"]) fun _ _ _ _ _ _ us hl => match us, hl with | [_, _, _], _ => rfl
  have FOnly := fun_mk (st := mS 17) lOnly cOnly kOnly
  have bOnly := FOnly.binds (ps := ["self", "i"]) fun _ _ _ _ _ _ us hl => match us, hl with | [_, _], _ => rfl
  have FDesc := fun_mk (st := mS 18) lDesc cDesc kDesc
  have bDesc := FDesc.binds (ps := ["self"]) fun _ _ _ _ _ _ us hl => match us, hl with | [_], _ => rfl
  have FCInit := fun_mk (st := sCInit) lCInit cCInit kCInit
  have bCInit := FCInit.binds (ps := ["self", "name", "singles", "row", "end"]) fun _ _ _ _ _ _ us hl => match us, hl with | [_, _, _, _, _], _ => rfl
  refine ⟨PySem.W.fnOf "answers" "answers" (defArgs (top 40)) (defBody (top 40)) (defScope (top 40)) .none kVAnswers dcAnswers pmAnswers anAnswers cdAnswers ctAnswers, fun s us hu => match us, hu with | [_], _ => .of_eq rfl, fun base _ _ => ?_⟩
  have DNeed : DefAt P w K mg base "need_after" ["need", "mould", "shots"] 1 spNeed fNeed _ := ⟨ok_need FNeed T, PySem.W.mg_of X G aNeed, kNeed, bNeed⟩
  have DOut : DefAt P w K mg base "is_out_of_reach" ["moulds", "need", "total"] 1 spOut fOut _ := ⟨ok_out FOut T, PySem.W.mg_of X G aOut, kOut, bOut⟩
  have DGreat : DefAt P w K mg base "greatest_plan" ["moulds", "need", "total"] 7 (spG 5) fGreat _ := ⟨ok_great DOut DNeed FGreat (PySem.W.mg_of X G aGreat) bGreat T 5, PySem.W.mg_of X G aGreat, kGreat, bGreat⟩
  have DBest : DefAt P w K mg base "find_best_plan" ["moulds", "demand"] 8 spBest fBest _ := ⟨ok_best DGreat FBest T, PySem.W.mg_of X G aBest, kBest, bBest⟩
  have DParts : DefAt P w K mg base "parts_of_kind" ["moulds", "plan", "j"] 1 spParts fParts _ := ⟨ok_parts FParts T, PySem.W.mg_of X G aParts, kParts, bParts⟩
  have DProd : DefAt P w K mg base "produced" ["moulds", "plan"] 2 spProd fProd _ := ⟨ok_prod DParts FProd T, PySem.W.mg_of X G aProd, kProd, bProd⟩
  have DSuff : DefAt P w K mg base "is_sufficient" ["parts", "demand"] 1 spSuff fSuff _ := ⟨ok_suff FSuff T, PySem.W.mg_of X G aSuff, kSuff, bSuff⟩
  have DWithin : DefAt P w K mg base "all_within" ["numbers", "most"] 1 spWithin fWithin _ := ⟨ok_within FWithin T, PySem.W.mg_of X G aWithin, kWithin, bWithin⟩
  have DTotal : DefAt P w K mg base "total_of_best_plan" ["moulds", "demand"] 9 spTotal fTotal _ := ⟨ok_total DBest FTotal T, PySem.W.mg_of X G aTotal, kTotal, bTotal⟩
  have DWorth : DefAt P w K mg base "worth" ["prices", "parts"] 1 spWorth fWorth _ := ⟨ok_worth FWorth T, PySem.W.mg_of X G aWorth, kWorth, bWorth⟩
  have DFeas : DefAt P w K mg base "are_feasible" ["moulds", "level", "prices"] 2 spFeas fFeas _ := ⟨ok_feas DWorth FFeas T, PySem.W.mg_of X G aFeas, kFeas, bFeas⟩
  have DLower : DefAt P w K mg base "lower_bound" ["demand", "level", "prices"] 2 spLower fLower _ := ⟨ok_lower DWorth FLower T, PySem.W.mg_of X G aLower, kLower, bLower⟩
  have DOne : DefAt P w K mg base "with_one_more_price" ["lists", "level"] 1 spOne fOne _ := ⟨ok_one FOne T, PySem.W.mg_of X G aOne, kOne, bOne⟩
  have DAll : DefAt P w K mg base "all_prices" ["level"] 2 spAll fAll _ := ⟨ok_all DOne FAll T, PySem.W.mg_of X G aAll, kAll, bAll⟩
  have DPrices : DefAt P w K mg base "find_best_prices" ["moulds", "demand", "level"] 3 spPrices fPrices _ := ⟨ok_prices DAll DLower DFeas FPrices T, PySem.W.mg_of X G aPrices, kPrices, bPrices⟩
  have DHas : MethAt P w K mg base C "has_mould" ["self", "i"] 1 (spHas C) fHas _ := ⟨ok_has FHas TS, ⟨aHas, iHas, kHas⟩, bHas⟩
  have DAdd : MethAt P w K mg base C "add_mould" ["self", "yields"] 2 (spAdd C) fAdd _ := ⟨ok_add DWithin FAdd TS, ⟨aAdd, iAdd, kAdd⟩, bAdd⟩
  have DRemove : MethAt P w K mg base C "remove_mould" ["self", "i"] 2 (spRemove C) fRemove _ := ⟨ok_remove DHas FRemove TS, ⟨aRemove, iRemove, kRemove⟩, bRemove⟩
  have DSet : MethAt P w K mg base C "set_mould" ["self", "i", "yields"] 2 (spSet C) fSet _ := ⟨ok_set DHas DWithin FSet TS, ⟨aSet, iSet, kSet⟩, bSet⟩
  have DDemand : MethAt P w K mg base C "set_demand" ["self", "j", "amount"] 1 (spDemand C) fDemand _ := ⟨ok_demand FDemand TS, ⟨aDemand, iDemand, kDemand⟩, bDemand⟩
  have DSetAll : MethAt P w K mg base C "set_all_demand" ["self", "amounts"] 2 (spSetAll C) fSetAll _ := ⟨ok_setAll DWithin FSetAll TS, ⟨aSetAll, iSetAll, kSetAll⟩, bSetAll⟩
  have DMake : MethAt P w K mg base C "make_shots" ["self", "i", "n"] 2 (spMake C) fMake _ := ⟨ok_make DHas DNeed FMake TS, ⟨aMake, iMake, kMake⟩, bMake⟩
  have DMin : MethAt P w K mg base C "min_shots" ["self"] 10 (spMin C) fMin _ := ⟨ok_min DTotal FMin TS, ⟨aMin, iMin, kMin⟩, bMin⟩
  have DBestPlan : MethAt P w K mg base C "best_plan" ["self"] 9 (spBestPlan C) fBestPlan _ := ⟨ok_bestPlan DBest FBestPlan TS, ⟨aBestPlan, iBestPlan, kBestPlan⟩, bBestPlan⟩
  have DSurplus : MethAt P w K mg base C "surplus" ["self"] 9 (spSurplus C) fSurplus _ := ⟨ok_surplus DBest DProd FSurplus TS, ⟨aSurplus, iSurplus, kSurplus⟩, bSurplus⟩
  have DCheck : MethAt P w K mg base C "check_plan" ["self", "plan"] 3 (spCheck C) fCheck _ := ⟨ok_check DWithin DProd DSuff FCheck TS, ⟨aCheck, iCheck, kCheck⟩, bCheck⟩
  have DBP : MethAt P w K mg base C "best_prices" ["self", "level"] 4 (spBP C) fBP _ := ⟨ok_BP DPrices DLower FBP TS, ⟨aBP, iBP, kBP⟩, bBP⟩
  have DCP : MethAt P w K mg base C "check_prices" ["self", "level", "prices"] 3 (spCP C) fCP _ := ⟨ok_CP DWithin DFeas DLower FCP TS, ⟨aCP, iCP, kCP⟩, bCP⟩
  have DGap : MethAt P w K mg base C "duality_gap" ["self", "level"] 9 (spGap C) fGap _ := ⟨ok_gap DBest DPrices DLower FGap TS, ⟨aGap, iGap, kGap⟩, bGap⟩
  have DWithout : MethAt P w K mg base C "min_shots_without" ["self", "i"] 10 (spWithout C) fWithout _ := ⟨ok_without DHas DTotal FWithout TS, ⟨aWithout, iWithout, kWithout⟩, bWithout⟩
  have DIf : MethAt P w K mg base C "min_shots_if" ["self", "j", "amount"] 10 (spIf C) fIf _ := ⟨ok_if DTotal FIf TS, ⟨aIf, iIf, kIf⟩, bIf⟩
  have DOnly : MethAt P w K mg base C "min_shots_with_only" ["self", "i"] 10 (spOnly C) fOnly _ := ⟨ok_only DHas DTotal FOnly TS, ⟨aOnly, iOnly, kOnly⟩, bOnly⟩
  have DDesc : MethAt P w K mg base C "describe" ["self"] 1 (spDesc C) fDesc _ := ⟨ok_desc FDesc TS, ⟨aDesc, iDesc, kDesc⟩, bDesc⟩
  have DQuery : DefAt P w K mg base "answer_of_query" ["shop", "call"] 11 (spAns C CC isQuery) fQuery _ := ⟨ok_query DMin DBestPlan DSurplus DCheck DBP DCP DGap DWithout DIf DOnly DDesc FQuery TS TC, PySem.W.mg_of X G aQuery, kQuery, bQuery⟩
  have DAnsOf : DefAt P w K mg base "answer_of" ["shop", "call"] 12 (spAns C CC isCall) fAnsOf _ := ⟨ok_ansOf DAdd DRemove DSet DDemand DSetAll DMake DQuery FAnsOf TS TC, PySem.W.mg_of X G aAnsOf, kAnsOf, bAnsOf⟩
  have GC : FnOk P w K mg base CX0 1 fCInit _ ["self", "name", "singles", "row", "end"] (spCInit CC) := ok_cinit FCInit TC
  have DReadCall : DefAt P w K mg base "read_call" ["numbers", "place"] 3 (spReadCall K CC) fReadCall _ := ⟨ok_readCall GC ⟨rmk, aCInit, iCInit, rkc⟩ bCInit (PySem.W.mg_of X G aCC) FF FReadCall TC, PySem.W.mg_of X G aReadCall, kReadCall, bReadCall⟩
  have DReadCalls : DefAt P w K mg base "read_calls" ["numbers"] 4 (spReadCalls K CC) fReadCalls _ := ⟨ok_readCalls DReadCall FReadCalls TC, PySem.W.mg_of X G aReadCalls, kReadCalls, bReadCalls⟩
  exact ok_answers ⟨smk, aInit, iInit, skc⟩ (ok_init FInit TS) bInit (PySem.W.mg_of X G aC) DReadCalls DAnsOf FAnswers T TC
end Mo
open PySem PySem.W PyProof.Rows
set_option maxRecDepth 100000 in
set_option maxHeartbeats 8000000 in
theorem PySem.Challenge.cw_mouldorders_s01_answers_holds : PySem.Challenge.rw_mouldorders_s01_answers.Holds := by
  w_on; k_headS; (case hw => exact ⟨[.list [.int 0]], by decide +kernel, by decide +kernel⟩)
  k_fillS
  refine L2.walk_specK (r := PySem.Challenge.rw_mouldorders_s01_answers) (k := 13) (CX := L2.CX0) (ps := ["calls"]) (sp := Mo.spAnswers) (by decide +kernel) rfl rfl ⟨rfl, by decide, by decide⟩ (fun w h Y => PySem.W.kIn_of Y) ?F ?S (fun _ _ _ _ z => z)
  case F =>
    intro w mg fa h Y KX G hmg
    refine' Mo.all_mk KX G hmg ?aC ?aCC ?aReadCalls ?lReadCalls ?cReadCalls ?kReadCalls ?aReadCall ?lReadCall ?cReadCall ?kReadCall ?aBest ?lBest ?cBest ?kBest ?aGreat ?lGreat ?cGreat ?kGreat ?aOut ?lOut ?cOut ?kOut ?aNeed ?lNeed ?cNeed ?kNeed ?aProd ?lProd ?cProd ?kProd ?aParts ?lParts ?cParts ?kParts ?aSuff ?lSuff ?cSuff ?kSuff ?aWorth ?lWorth ?cWorth ?kWorth ?aFeas ?lFeas ?cFeas ?kFeas ?aLower ?lLower ?cLower ?kLower ?aPrices ?lPrices ?cPrices ?kPrices ?aAll ?lAll ?cAll ?kAll ?aOne ?lOne ?cOne ?kOne ?aWithin ?lWithin ?cWithin ?kWithin ?aTotal ?lTotal ?cTotal ?kTotal ?aAnswers ?lAnswers ?cAnswers ?kAnswers ?aAnsOf ?lAnsOf ?cAnsOf ?kAnsOf ?aQuery ?lQuery ?cQuery ?kQuery ?aInit ?iInit ?lInit ?cInit ?kInit ?aHas ?iHas ?lHas ?cHas ?kHas ?aAdd ?iAdd ?lAdd ?cAdd ?kAdd ?aRemove ?iRemove ?lRemove ?cRemove ?kRemove ?aSet ?iSet ?lSet ?cSet ?kSet ?aDemand ?iDemand ?lDemand ?cDemand ?kDemand ?aSetAll ?iSetAll ?lSetAll ?cSetAll ?kSetAll ?aMin ?iMin ?lMin ?cMin ?kMin ?aBestPlan ?iBestPlan ?lBestPlan ?cBestPlan ?kBestPlan ?aSurplus ?iSurplus ?lSurplus ?cSurplus ?kSurplus ?aCheck ?iCheck ?lCheck ?cCheck ?kCheck ?aBP ?iBP ?lBP ?cBP ?kBP ?aCP ?iCP ?lCP ?cCP ?kCP ?aGap ?iGap ?lGap ?cGap ?kGap ?aWithout ?iWithout ?lWithout ?cWithout ?kWithout ?aIf ?iIf ?lIf ?cIf ?kIf ?aMake ?iMake ?lMake ?cMake ?kMake ?aOnly ?iOnly ?lOnly ?cOnly ?kOnly ?aDesc ?iDesc ?lDesc ?cDesc ?kDesc ?spg ?shd ?spo ?ssa ?smk ?skc ?nM ?nD ?aCInit ?iCInit ?lCInit ?cCInit ?kCInit ?rpg ?rhd ?rpo ?rsa ?rmk ?rkc ?cN ?cS ?cR ?cE ?vnoInst ?vnoIndex ?voutRange ?vtooMany ?vnoPlan ?vkinds ?vshots ?vmoulds ?vyield_ ?vamount ?vplanned ?vmade ?vlevel ?vchecked ?vprice ?zrange ?zlen ?zmax ?zsum ?zall ?zzip ?zlist ?aF ?lF ?lA0 ?lA1 ?lA2 ?lA3 ?lA4 ?lA5 ?lA6 ?lA7 ?lA8 ?lA9 ?lA10 ?lA11 ?lA12 ?lA13 ?lA14 ?lA15 ?lA16 ?lA17
    (case aC => k_is)
    (case aCC => k_is)
    (case aReadCalls => k_is)
    (case lReadCalls => k_is)
    (case cReadCalls => k_is)
    (case kReadCalls => k_is)
    (case aReadCall => k_is)
    (case lReadCall => k_is)
    (case cReadCall => k_is)
    (case kReadCall => k_is)
    (case aBest => k_is)
    (case lBest => k_is)
    (case cBest => k_is)
    (case kBest => k_is)
    (case aGreat => k_is)
    (case lGreat => k_is)
    (case cGreat => k_is)
    (case kGreat => k_is)
    (case aOut => k_is)
    (case lOut => k_is)
    (case cOut => k_is)
    (case kOut => k_is)
    (case aNeed => k_is)
    (case lNeed => k_is)
    (case cNeed => k_is)
    (case kNeed => k_is)
    (case aProd => k_is)
    (case lProd => k_is)
    (case cProd => k_is)
    (case kProd => k_is)
    (case aParts => k_is)
    (case lParts => k_is)
    (case cParts => k_is)
    (case kParts => k_is)
    (case aSuff => k_is)
    (case lSuff => k_is)
    (case cSuff => k_is)
    (case kSuff => k_is)
    (case aWorth => k_is)
    (case lWorth => k_is)
    (case cWorth => k_is)
    (case kWorth => k_is)
    (case aFeas => k_is)
    (case lFeas => k_is)
    (case cFeas => k_is)
    (case kFeas => k_is)
    (case aLower => k_is)
    (case lLower => k_is)
    (case cLower => k_is)
    (case kLower => k_is)
    (case aPrices => k_is)
    (case lPrices => k_is)
    (case cPrices => k_is)
    (case kPrices => k_is)
    (case aAll => k_is)
    (case lAll => k_is)
    (case cAll => k_is)
    (case kAll => k_is)
    (case aOne => k_is)
    (case lOne => k_is)
    (case cOne => k_is)
    (case kOne => k_is)
    (case aWithin => k_is)
    (case lWithin => k_is)
    (case cWithin => k_is)
    (case kWithin => k_is)
    (case aTotal => k_is)
    (case lTotal => k_is)
    (case cTotal => k_is)
    (case kTotal => k_is)
    (case aAnswers => k_is)
    (case lAnswers => k_is)
    (case cAnswers => k_is)
    (case kAnswers => k_is)
    (case aAnsOf => k_is)
    (case lAnsOf => k_is)
    (case cAnsOf => k_is)
    (case kAnsOf => k_is)
    (case aQuery => k_is)
    (case lQuery => k_is)
    (case cQuery => k_is)
    (case kQuery => k_is)
    (case aInit => k_is)
    (case iInit => k_is)
    (case lInit => k_is)
    (case cInit => k_is)
    (case kInit => k_is)
    (case aHas => k_is)
    (case iHas => k_is)
    (case lHas => k_is)
    (case cHas => k_is)
    (case kHas => k_is)
    (case aAdd => k_is)
    (case iAdd => k_is)
    (case lAdd => k_is)
    (case cAdd => k_is)
    (case kAdd => k_is)
    (case aRemove => k_is)
    (case iRemove => k_is)
    (case lRemove => k_is)
    (case cRemove => k_is)
    (case kRemove => k_is)
    (case aSet => k_is)
    (case iSet => k_is)
    (case lSet => k_is)
    (case cSet => k_is)
    (case kSet => k_is)
    (case aDemand => k_is)
    (case iDemand => k_is)
    (case lDemand => k_is)
    (case cDemand => k_is)
    (case kDemand => k_is)
    (case aSetAll => k_is)
    (case iSetAll => k_is)
    (case lSetAll => k_is)
    (case cSetAll => k_is)
    (case kSetAll => k_is)
    (case aMin => k_is)
    (case iMin => k_is)
    (case lMin => k_is)
    (case cMin => k_is)
    (case kMin => k_is)
    (case aBestPlan => k_is)
    (case iBestPlan => k_is)
    (case lBestPlan => k_is)
    (case cBestPlan => k_is)
    (case kBestPlan => k_is)
    (case aSurplus => k_is)
    (case iSurplus => k_is)
    (case lSurplus => k_is)
    (case cSurplus => k_is)
    (case kSurplus => k_is)
    (case aCheck => k_is)
    (case iCheck => k_is)
    (case lCheck => k_is)
    (case cCheck => k_is)
    (case kCheck => k_is)
    (case aBP => k_is)
    (case iBP => k_is)
    (case lBP => k_is)
    (case cBP => k_is)
    (case kBP => k_is)
    (case aCP => k_is)
    (case iCP => k_is)
    (case lCP => k_is)
    (case cCP => k_is)
    (case kCP => k_is)
    (case aGap => k_is)
    (case iGap => k_is)
    (case lGap => k_is)
    (case cGap => k_is)
    (case kGap => k_is)
    (case aWithout => k_is)
    (case iWithout => k_is)
    (case lWithout => k_is)
    (case cWithout => k_is)
    (case kWithout => k_is)
    (case aIf => k_is)
    (case iIf => k_is)
    (case lIf => k_is)
    (case cIf => k_is)
    (case kIf => k_is)
    (case aMake => k_is)
    (case iMake => k_is)
    (case lMake => k_is)
    (case cMake => k_is)
    (case kMake => k_is)
    (case aOnly => k_is)
    (case iOnly => k_is)
    (case lOnly => k_is)
    (case cOnly => k_is)
    (case kOnly => k_is)
    (case aDesc => k_is)
    (case iDesc => k_is)
    (case lDesc => k_is)
    (case cDesc => k_is)
    (case kDesc => k_is)
    (case spg => k_is)
    (case shd => k_is)
    (case spo => k_is)
    (case ssa => k_is)
    (case smk => k_is)
    (case skc => k_is)
    (case nM => k_is)
    (case nD => k_is)
    (case aCInit => k_is)
    (case iCInit => k_is)
    (case lCInit => k_is)
    (case cCInit => k_is)
    (case kCInit => k_is)
    (case rpg => k_is)
    (case rhd => k_is)
    (case rpo => k_is)
    (case rsa => k_is)
    (case rmk => k_is)
    (case rkc => k_is)
    (case cN => k_is)
    (case cS => k_is)
    (case cR => k_is)
    (case cE => k_is)
    (case vnoInst => k_is)
    (case vnoIndex => k_is)
    (case voutRange => k_is)
    (case vtooMany => k_is)
    (case vnoPlan => k_is)
    (case vkinds => k_is)
    (case vshots => k_is)
    (case vmoulds => k_is)
    (case vyield_ => k_is)
    (case vamount => k_is)
    (case vplanned => k_is)
    (case vmade => k_is)
    (case vlevel => k_is)
    (case vchecked => k_is)
    (case vprice => k_is)
    (case zrange => k_is)
    (case zlen => k_is)
    (case zmax => k_is)
    (case zsum => k_is)
    (case zall => k_is)
    (case zzip => k_is)
    (case zlist => k_is)
    (case aF => k_is)
    (case lF => k_is)
    (case lA0 => k_is)
    (case lA1 => k_is)
    (case lA2 => k_is)
    (case lA3 => k_is)
    (case lA4 => k_is)
    (case lA5 => k_is)
    (case lA6 => k_is)
    (case lA7 => k_is)
    (case lA8 => k_is)
    (case lA9 => k_is)
    (case lA10 => k_is)
    (case lA11 => k_is)
    (case lA12 => k_is)
    (case lA13 => k_is)
    (case lA14 => k_is)
    (case lA15 => k_is)
    (case lA16 => k_is)
    (case lA17 => k_is)
  case S =>
    intro K H xs a hO hwi hask hx
    cases hx with
    | cons h1 h2 =>
      cases h2
      cases h1 with
      | lst hs ha =>
        have e := L2.ints_dw a.1 _ ha
        subst e
        exact ⟨_, a.1, rfl, hs, hask, fun H' p hp => .lst (L2.SqL.of hp) (L2.dw_ints _)⟩
#print axioms PySem.Challenge.cw_mouldorders_s01_answers_holds
